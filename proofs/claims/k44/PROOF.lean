import PyProof.Rows.All
import Wide.All
import OpenK.AllK
import Wide.FinOn
import Lean
import PyProof.EqAt
import PyProof.EqKinds
import PyProof.TupleCall
import PyProof.NeKinds
import PyProof.ListMulAny
import PyProof.Rows.CallKwBuiltin
import PyProof.MinMaxWalk
import PyProof.SeqI3
import PyProof.Rows.TupAdd
import PyProof.MeetsDict
import PyProof.DictList
import PyProof.ZipIter
import PyProof.Rows.ZipGen
import PyProof.ListRange
import PyProof.TupleOfStr
import PyProof.Rows.FStr
import PyProof.Rows.StrJoin2
import PyProof.Rows.Range3
import PyProof.EnumMake
import PyProof.EnumFor
import PyProof.EnumStmt
import KE.KUnpackStar
import KE.KDictList
import PyProof.Rows.SortWalk
import KE.RegKIsAll
import PyProof.NsDelKeeps
import PyProof.Rows.CountFlat
import KE.KRevIter
import PyProof.Draws
import PyProof.ExcInit
import PyProof.InstStoreFacts
import PyProof.DictCompW
import PyProof.DictIter
import PyProof.DictWalks
import PyProof.Rows.SetFrom
import PyProof.SetRoads
import KE.KDictOf
import PyProof.Rows.SortShellK
import PyProof.ReprRoads
import PyProof.CallFns
import PyProof.DictUpdate
import KE.KDictLaws
import PySem.Challenge.RW_fewjoins_k44_nets_turned_about
open Array renaming getElem?_eq_some_iff→wR,length_toList→zc,find?_toList→Cm,append_assoc→Cn,toList→DD
open Bool renaming and_eq_true→wC,false_ne_true→wS,not_eq_true'→yo,false_eq_true→yK,eq_false_iff→zJ,or_true→AL,or_eq_true→Be,and_false→Bv,or_false→BE,false_or→DB,and_true→DC
open Classical renaming propDecidable→Bc
open False renaming elim→wD
open Int renaming toNat_natCast→xE,eq_ofNat_of_zero_le→yN,zero_add→AM,le_of_lt→AN,ediv_nonneg→Bq,toNat_of_nonneg→Cz,natCast_nonneg→CS,emod_lt_of_pos→CT,emod_nonneg→Do,ne_of_gt→DV,ediv_one→DW
open List renaming length_map→db,getElem?_eq_getElem→dL,replicate→im,size_toArray→kt,getD_eq_getElem?_getD→li,getElem?_eq_some_iff→lm,getElem?_set_ne→pc,getElem?_map→sB,length_append→wb,mem_cons→we,mem_append_right→wg,length_cons→wn,mem_of_getElem?→wr,map_cons→wv,exists_cons_of_ne_nil→wE,range→wF,length_singleton→wH,map_append→wJ,getElem?_set_self→wO,mem_cons_of_mem→wQ,getElem?_append_left→wU,mem_cons_self→wV,mem_singleton→w9,getElem?_range→xg,getElem?_eq_none→xh,length_take→xm,drop_eq_getElem_cons→xp,length_reverse→xq,find?_cons→xv,lookup_cons→xw,getElem?_append_right→xA,drop_eq_nil_of_le→xB,replicate_succ→xD,length_set→xF,length_replicate→xH,not_mem_nil→xJ,getElem?_drop→xK,mem_append→xM,any_cons→xR,mem_range→xT,contains_cons→xU,take_of_length_le→x9,append_nil→yb,getElem?_reverse→yi,flatten_cons→ym,map_nil→yu,map_map→yw,getElem_mem→yx,set_eq_of_length_le→yG,range_succ→yI,getElem?_replicate→yL,getElem?_cons_zero→yM,length_range→yU,take_length→yZ,mem_filter→y_,length_nil→za,filterMap_cons→zk,mem_map→zq,idxOf_lt_length_of_mem→zr,filter_append→zy,take_add_one→zG,reverse_cons→zH,ext_getElem?→zI,all_cons→zL,length_drop→zP,all_eq_true→zQ,nodup_cons→zX,foldl_cons→zY,filter_nil→zZ,drop_left'→z5,length_filter_le→z6,mem_append_left→z_,map_replicate→As,lookup_append→At,append_assoc→AJ,filter_cons→AV,lookup→A8,of_mem_zip→Ba,foldl→Bt,map_take→BC,any_map→BM,take_append_drop→B1,mem_of_mem_take→B5,length→B6,getElem_toArray→B7,drop_eq_nil_iff→B8,map_congr_left→Ch,length_flatten→Ci,mem_filterMap→Cw,getElem_range→Cy,any_eq_true→C5,map→Dl,foldl_nil→Dm,drop_zero→Dn,map_set→DN,any_nil→DO
open List.Nodup renaming idxOf_getElem→xG
open List.cons renaming injEq→AB
open Nat renaming le_refl→ms,lt_of_lt_of_le→o0,ne_of_lt→wm,le_trans→wo,zero_le→wp,lt_or_ge→wu,ne_of_gt→wM,le_of_lt→wT,mod_two_eq_zero_or_one→wY,lt_irrefl→xS,zero_add→x5,min_eq_left→yf,testBit_zero→yA,min_eq_right→yB,lt_trans→yD,not_lt→zC,add_sub_cancel_left→zR,le_total→zW,zero_lt_succ→A7,testBit_xor→Bn,testBit_and→Bo,sub_zero→BZ,le_of_eq→B0,eq_of_testBit_eq→Cg,lt_of_le_of_lt→CP,lt_trichotomy→C3,lt_succ_of_lt→C4,succ_ne_self→Dd,max_eq_right→De,lt_succ_self→Df,max_eq_left→Dk,mul_le_mul→DA,log2_lt→D_,le_succ→Ea
open Ne renaming symm→xc
open Option renaming map_eq_some_iff→wt,bind_some→yq,isSome_some→B4,isSome_map→Cf,getD_none→Cv,map_some→CO
open Option.some renaming inj→xy,injEq→xI
open Prod renaming fst→wP,snd→wZ
open Prod.mk renaming injEq→z9
open PyProof.Rows renaming callWith_type1→wN,slot_tuple_getitem→xb,envOfC→zf,AllBare→zT,subscriptTail→AQ,Subscript_→BW,Call_→CB,subscriptTail_builtinR→CF,IntsAre→CQ,entry_tuple_getitem→Dh,boot_range→Dx,args_tuple_getitem→Dy,callWith_builtin1→D9
open PyProof.Rows.IsTup renaming new→Eb
open PySem renaming wpAny_bind→bd,Value→bi,Shared→bn,wpAny_pure→lw,wpAny→nw,model→pp,mainGlobals→vZ,Program→v3,sizeLine→v5,starEach→wq,wpAny_field→wx,Around→wy,World→wz,wpAny_mono→wG,mem_of_lookup→wI,rawInt→wK,wpAny_newObj_type→w6,cellsFrom→xa,wpAny_setField→xo,bootBuiltins→xr,wpAny_loadPart_at→xu,Scope→xx,wpAny_callSpecial?_slot→xO,sizeLine_eq→xV,NameKind→xY,noteFrame→x6,foldedSetIterable→x8,wpAny_call_entry→x_,wpAny_of_eq→yg,excClassObj→yh,wpAny_holding→yp,backTo→yt,sysModules→yF,compareOp→yH,wpAny_standAt→yO,FuncData→yP,ExceptHandler→yQ,wpAny_execs_nil→yS,setFlight→yX,binaryOp→y4,swapsWith→zd,pushCells→ze,checkBuiltinCall→zg,assignEach→zh,getItem→zn,codeAny→zp,sliceBounds→zt,codeAny_call_builtin→zu,cLine→zv,wpAny_passesOwn→zz,letOwnedTupleGo→zA,wpAny_isSubtype_exc→zE,wpAny_rule→zM,wpAny_pyIter_tuple→zN,wpAny_Call_Name_kw→zO,leaving→zS,wpAny_comprehension_free→zU,assign→zV,wpAny_execs_cons→z8,wpAny_typeOf→Aa,wpAny_pyIter_rangeiter→Ab,codeAny_mono→Ac,OwnTail→Ag,wpAny_updateSeq→Ai,wpAny_specialOf→Aj,pushCells_keeps→Ak,getAttrByItsOwn→Al,subscripted→Aw,pyNext→Ax,newFunctionEnv→Ay,list_append→Az,IsRangeIter→AC,IsPart→AD,callerA→AH,behindInMarks→AR,attributeBase→AU,wpAny_setField_rec→AY,wpAny_entryPlaceOf→AZ,wpAny_call→A0,typeLookup→A2,tupleKind_room_in1→A3,closureFor→A4,cameBackBy→A5,call_meets→A6,wpAny_truthy_bool→Bf,wpAny_pyIter_enum→Bg,wpAny_frameOf_fun→Bh,wpAny_Assign_Name→Bi,valueAt→Bj,slot_list_getitem→Bk,Model→Bp,tupleKind→Bw,codeAny_builtin→BF,relabel→BK,BindsTo→BO,wpAny_seqItems→BP,setField→BQ,isInstance→BR,evalEach→BS,bindArgs→BU,atKey→BV,Paired→BY,IsEnum→B2,GenState→B3,wpAny_getItem_list_slice→B_,wpAny_attempt→Ca,plainId_quiet→Cb,evalPart_none→Cd,call→Ce,wpAny_pyNext_enum_itemD→Co,updateSeq→Cp,newFields→Cq,field→Cr,bindL→Cs,bindC→Ct,wpAny_pyNext_range_end→CC,wpAny_pyNext_enum_endD→CD,isTrue→CG,entryPlaceOf→CI,codeAny_compStart_list→CJ,Result→CK,seqSlot_of→CL,ExcBaseFacts→CW,wpAny_isTrue_Compare1→CY,exec_Assign_Name_used→CZ,codeAny_handlers_test→C0,builtinLookup_eq_fast→C1,wpAny_pyIter_revIter→C7,keywordEach→C8,compPost→C9,compEnvC→C_,again→Db,wpAny_handleBy_cons→Dg,codeAny_forLoop_any→Di,wpAny_pyIter_range→Dr,wpAny_Name→Ds,typeIs_int→Dt,cellOf→Du,builtinsNs→Dw,wpAny_sequenceKey→DE,wpAny_assign_Name→DF,spliced→DG,operate→DH,notedBy→DI,newList→DJ,Keyword→DP,IsRange→DQ,Draws→DT,wpAny_Try_except→DU,wpAny_tests_nil→D2,typeLookup_type→D3,theTreesLotGoes→D4,codeAny_of_tree→D5
open PySem.Around renaming under_plainId→z7,under→Av
open PySem.Builtin renaming bitXor→zm,bitAnd→A9,bitOr→C6
open PySem.Builtin.List renaming listExtendWith→yY,listSameRef→AK,listItems→AX,listUpdate→Ed,listTouch→Ee,listLengthHint→Ef
open PySem.Builtin.Range renaming rangeFitsLong→wl,rangeSize→xt,rangeFields→Au,small→Bd
open PySem.Builtin.Slice renaming slicePlaces→yc,sliceAdjust→y8,sliceApplied→Ar,slicePartIndex→DZ,sliceFields→D1
open PySem.Builtin.SmallTypes renaming ownedTupleIsFree→zD
open PySem.Builtin.Tuple renaming tupleExact→yn,tupleItemsOf→Ap,tupleIsExact→Aq
open PySem.Calls renaming spliced_cons→yJ,spliced_nil→yR,evalArgs_plain→y7,Name_function_global→Bs,callWith_builtin→BJ
open PySem.Code renaming isFrame→BN,quiet_builtin→CA,frames→DY
open PySem.EntryCells renaming newEntry→xZ
open PySem.F renaming type_list_append→v9,slot_list_append→v_,plainAttrs_list→wc,excAttr_ValueError→yk,slot_tuple_iterator_next→yE,slot_enumerate_next→y9,excBase_ValueError→zj,plain_extend_loop→zx,slot_range_reversed→Ah,args_list_append_2→Ao,entry_list_append→AF,entry_extend_loop→A_,store_ValueError→Bm,slot_tuple_mul→Br,args_tuple_iterator_next_1→By,entry_bexc_ga→BB,entry_tuple_iterator_next→BD,args_bexc_ga→BG,args_enumerate_next_1→B9,entry_enumerate_next→Ck,plain_reversed_new→CV,slot_tuple_rmul→Dq,slot_int_rmul→DR
open PySem.Heap renaming get?_push_of_some→bv,lt_size→lc,get?_update_other→vY,get?_push_size→wa,get?_update_self→ww,SameBut→w_,size_push→xL,get?_none_of_le→yr,size_update→AW,MadeExcOf→Bu,get?_update_ne→Cj,get?_push_at→CU,ExtBut→DX
open PySem.Heap.IsSliceOf renaming new→Bb
open PySem.Heap.Ns renaming new→Dp
open PySem.Heap.SameBut renaming update→xX,refl→Ec
open PySem.IsL renaming update→An
open PySem.IsRange renaming new→BH
open PySem.Obj renaming mapFields→wL,data_mapFields→wW,isFreed_of_fields→wX,mapSeq→xC,cls_mapFields→zK
open PySem.Paired renaming length→Af,snoc→Dz
open PySem.PassesOwn renaming never→xz
open PySem.SeqAt renaming EqAt→zw,RcAt→Bl
open PySem.SeqAt.EqAt renaming str_int→Bz,int_str→BA
open PySem.SeqAt.RcNeAt renaming tuples→D6,lists_lengths→D7,lists→D8
open PySem.Str renaming empty→yy,ofString→yV,length_append→yW
open PySem.Value renaming isStrOf→Dj,isInt→DM
open PySem.W renaming Frag→ac,kitOne→sK,nsIn→wd,mg_none_of→wj,subIn→wA,findIn→wB,mg_of→xk,fnOf→xN,kitAny→xP,keepIn→xQ,hasDictIn→xW,specialIn→ya,codeIn→yj,excIn→yz,takesIn→y6,InstAt→zi,mroIn→zB,looks_findIn→zF,tail_of_in→Ad,isNs_of_in→Ae,methodObj→Am,cellsFrom_some→Bx,looks_subIn→BL,callWith_K→BX,OpenLaw→Cu,findObj→CH,typeIn→CM,tailIn→CN,WalkO→C2
open PySem.W.WShape renaming has→DL
open PySem.Walks renaming range→DK
set_option Elab.async false
set_option linter.all false
set_option maxRecDepth 100000
namespace L2
open PySem PySem.Spec PyProof.Rows
abbrev Key:=Sum Int Str
def nJ:Key->bi->Bool
 | .inl k,v=>DM k v
 | .inr x,v=>Dj x v
def keyH (w:wz):Key->Int
 | .inl k=>hashInt k
 | .inr x=>hashStr w x
theorem bT:∀ {k:Key} {v:bi},nJ k v=true->(∃i t,k=Sum.inl i/\v=Value.int i t)∨(∃x t,k=Sum.inr x/\v=Value.str x t)
 | .inl i,v,h=>by
  obtain⟨t,e⟩:=Value.isInt_shape (k:=i) (v:=v) h;exact .inl ⟨i,t,rfl,e⟩
 | .inr x,v,h=>by
  obtain⟨t,e⟩:=Value.isStrOf_shape (x:=x) (v:=v) h;exact .inr ⟨x,t,rfl,e⟩
theorem pw (i:Int)(t:Tok):nJ (.inl i) (.int i t)=true:=by simp[nJ,DM]
theorem pq (x:Str)(t:Tok):nJ (.inr x) (.str x t)=true:=by simp[nJ,Dj]
theorem uU (a b:Int):decide ((Sum.inl a:Key)=Sum.inl b)=(a==b):=by
 by_cases e:a=b
 ·subst e;simp
 ·have h:¬(Sum.inl a:Key)=Sum.inl b:=λq=>e (Sum.inl.inj q);rw[decide_eq_false h];exact(beq_eq_false_iff_ne.mpr e).symm
theorem uQ (a b:Str):decide ((Sum.inr a:Key)=Sum.inr b)=decide (a=b):=by
 by_cases e:a=b
 ·subst e;simp
 ·have h:¬(Sum.inr a:Key)=Sum.inr b:=λq=>e (Sum.inr.inj q);rw[decide_eq_false h,decide_eq_false e]
theorem uS (a:Int)(b:Str):decide ((Sum.inl a:Key)=Sum.inr b)=false:=decide_eq_false (λq=>nomatch q)
theorem uR (a:Str)(b:Int):decide ((Sum.inr a:Key)=Sum.inl b)=false:=decide_eq_false (λq=>nomatch q)
def cc (prog:v3)(w:wz):PySem.KeyKind prog w Key where
 is:=nJ
 hash:=keyH w
 inj:=λv a b ha hb=>by
  rcases bT ha with⟨i,t,rfl,rfl⟩ | ⟨x,t,rfl,rfl⟩
  ·rcases bT hb with⟨j,u,rfl,e⟩ | ⟨y,u,rfl,e⟩
   ·injection e with e1 _;rw[e1]
   ·exact nomatch e
  ·rcases bT hb with⟨j,u,rfl,e⟩ | ⟨y,u,rfl,e⟩
   ·exact nomatch e
   ·injection e with e1 _;rw[e1]
 byValue:=λk v h=>by
  rcases bT h with⟨i,t,rfl,rfl⟩ | ⟨x,t,rfl,rfl⟩ <;> rfl
 pyHash:=λhv h=>by
  rcases bT hv with⟨i,t,rfl,rfl⟩ | ⟨x,t,rfl,rfl⟩
  ·exact wpAny_pyHash_int h
  ·exact wpAny_pyHash_str h
 eqBool:=λhu hv h=>by
  rcases bT hu with⟨i,t,rfl,rfl⟩ | ⟨x,t,rfl,rfl⟩
  ·rcases bT hv with⟨j,u,rfl,rfl⟩ | ⟨y,u,rfl,rfl⟩
   ·rw[uU]at h;exact wpAny_eqBool_int h
   ·rw[uS]at h;exact BA i t y u _ _ _ _ h
  ·rcases bT hv with⟨j,u,rfl,rfl⟩ | ⟨y,u,rfl,rfl⟩
   ·rw[uR]at h;exact Bz x t j u _ _ _ _ h
   ·rw[uQ]at h;exact wpAny_eqBool_str h
 «strs»:=λk x t v h=>by
  rcases bT h with⟨i,u,rfl,e⟩ | ⟨y,u,rfl,e⟩
  ·exact nomatch e
  ·injection e with e1 _;subst e1;cases v <;> rfl
theorem lO (prog:v3)(w:wz)(i:Int)(t:Tok):(cc prog w).is (.inl i) (.int i t)=true:=pw i t
theorem lN (prog:v3)(w:wz)(x:Str)(t:Tok):(cc prog w).is (.inr x) (.str x t)=true:=pq x t
inductive V where
 | non | bl (b:Bool) | int (i:Int) | str (x:Str) | byt (b:Array UInt8) | flt (b:UInt64) | ref (a:Addr) | ty (n:String)
 deriving DecidableEq
def RelV:V->bi->Prop
 | .non,u=>u=Value.none
 | .bl b,u=>u=Value.bool b
 | .int i,u=>∃t,u=Value.int i t
 | .str x,u=>∃t,u=Value.str x t
 | .byt b,u=>∃t,u=Value.bytes b t
 | .flt b,u=>∃t,u=Value.float b t
 | .ref a,u=>u=Value.ref a
 | .ty n,u=>u=Value.type n
abbrev Vals:List V->List bi->Prop:=BY RelV
theorem Vals.length {xs:List V}{us:List bi}(r:Vals xs us):xs.length=us.length:=Af r
theorem Vals.get:∀ {xs:List V} {us:List bi} {i:Nat} {x:V},Vals xs us->xs[i]? = some x->∃u,us[i]? = some u/\RelV x u
 | _,_,_,_,.nil,e=>by simp at e
 | _,_,0,_,.cons r _,e=>by simp at e;subst e;exact⟨_,rfl,r⟩
 | _,_,i+1,x,.cons _ t,e=>by
  obtain⟨u,h1,h2⟩:=Vals.get (i:=i) (x:=x) t (by simpa using e);exact⟨u,by simpa using h1,h2⟩
theorem Vals.append:∀ {xs ys:List V} {us ws:List bi},Vals xs us->Vals ys ws->Vals (xs++ys) (us++ws)
 | _,_,_,_,.nil,s=>s
 | _,_,_,_,.cons r t,s=>.cons r (Vals.append t s)
theorem Vals.take:∀ {xs:List V} {us:List bi} (n:Nat),Vals xs us->Vals (xs.take n) (us.take n)
 | _,_,0,_=>.nil
 | _,_,_+1,.nil=>.nil
 | _,_,n+1,.cons r t=>.cons r (Vals.take n t)
theorem Vals.drop:∀ {xs:List V} {us:List bi} (n:Nat),Vals xs us->Vals (xs.drop n) (us.drop n)
 | _,_,0,r=>r
 | _,_,_+1,.nil=>.nil
 | _,_,n+1,.cons _ t=>Vals.drop n t
def RelO:Option V->Option bi->Prop
 | some v,some u=>RelV v u
 | none,none=>True
 | _,_=>False
def KV {κ:Type}:List (κ×V)->List (κ×bi)->Prop:=BY λ(p:κ×V) (q:κ×bi)=>p.1=q.1/\RelV p.2 q.2
def kV:Key->V
 | .inl i=>.int i
 | .inr x=>.str x
inductive HO where
 | lst (xs:List V)
 | tup (xs:List V)
 | dK (kvs:List (Key×V)) | dT (kvs:List (List Key×V))
 | set (S:Int->Bool) (n:Nat)
 | ins (C dx:Addr) (fs:List (Str×V))
 | own (x:Addr)
 | xd (fs:List (Str×V))
 | met (f x:Addr)
 | rng (lo hi:Int)
 | frz (o:Obj) (u:HO)
 | tbl (ps:Array bi)
 | ext (φ:Heap->Prop)
 | big (ps:List Addr) (φ:v3->wz->Heap->Prop)
abbrev Hp:=Addr->Option HO
def upd (H:Hp)(a:Addr)(o:HO):Hp:=λb=>if b=a then some o else H b
theorem aX {H:Hp}{a:Addr}{o:HO}:upd H a o a=some o:=by unfold upd;rw[if_pos rfl]
theorem aI {H:Hp}{a b:Addr}{o:HO}(h:b≠a):upd H a o b=H b:=by unfold upd;rw[if_neg h]
theorem rQ {H:Hp}{a:Addr}{o u:HO}:upd (upd H a o) a u=upd H a u:=by
 funext b;unfold upd;split <;> rfl
theorem sT {H:Hp}{a b:Addr}{o u:HO}(h:H a=some o)(h':H b=some u)(d:o≠u):a≠b:=by
 intro e;subst e;rw[h]at h';exact d (xy h')
theorem bg {H:Hp}{a b:Addr}{o:HO}(h:H a=some o)(h':H b=none):a≠b:=by
 intro e;subst e;rw[h]at h';cases h'
section
variable (P:v3)(w:wz)
def cK (H:Hp)(h:Heap)(a:Addr):HO->Prop
 | .lst xs=>xs.length<=v5/\∃(its:List bi) (n:Nat),Vals xs its/\h.get? a=some {cls:=.type "list",data:=.seq its.toArray n}
 | .tup xs=>xs.length<=v5/\∃its:List bi,Vals xs its/\IsTup h a its.toArray
 | .dK kvs=>kvs.length<=v5/\(a==yF)=false/\∃vs,KV kvs vs/\h.DictOf (cc P w) a vs
 | .dT kvs=>kvs.length<=v5/\(a==yF)=false/\∃xs:List (List Key×Addr×bi),
   BY (λ(p:List Key×V) (q:List Key×Addr×bi)=>p.1=q.1/\H q.2.1=some (.tup (p.1.map kV))/\RelV p.2 q.2.2) kvs xs /\
   ∃o es ep,h.get? a=some o/\o.ExactDict/\o.data = .dict es ep/\es.toList=xs.map (entryOfKey (Bw (cc P w)))/\(xs.map (·.1)).Nodup
 | .set S n=>h.SetOf (intKind P w) a S n
 | .ins C dx fs=>H dx=some (.own a)/\fs.length<=1000/\dx≠a/\h.get? a=some (PySem.W.instObj C dx) /\
   ∃mA,h.Ns1 dx mA/\(∀f,RelO (fs.lookup f) (mA f))/\PySem.Within mA (fs.map (·.1))
 | .own _=>∃o,h.get? a=some o
 | .xd fs=>∃mA,h.Ns1 a mA/\∀f,RelO (fs.lookup f) (mA f)
 | .rng lo hi=>∃t u v,h.get? a=some {cls:=.type "range",data:=.fields #[.int lo t,.int hi u,.int 1 v]}
 | .frz o u=>h.get? a=some o/\cK H h a u
 | .tbl ps=>h.get? a=some {cls:=.none,data:=.fields ps}
 | .met f x=>h.get? a=some (Am (.ref f) (.ref x))
 | .ext φ=>φ h/\(∃o,h.get? a=some o)/\∀h1 h2:Heap,φ h1->(∀o,h1.get? a=some o->h2.get? a=some o)->φ h2
 | .big ps φ=>(∀p∈ps,p≠a/\H p=some (.own a))/\φ P w h/\(∃o,h.get? a=some o)/\∀h1 h2:Heap,φ P w h1->(∀b o,(b=a∨b∈ps)->h1.get? b=some o->h2.get? b=some o)->φ P w h2
def HOk (H:Hp)(h:Heap):Prop:=∀a o,H a=some o->cK P w H h a o
end
section
variable {P:v3}{w:wz}{H H':Hp}{h h':Heap}{a:Addr}{o:HO}
theorem cK.lt (x:cK P w H h a o):a<h.objs.size:=by
 cases o with
 | lst xs=>obtain⟨_,_,_,_,e⟩:=x;exact lc e
 | tup xs=>obtain⟨_,_,_,p⟩:=x;exact p.lt
 | dK kvs=>obtain⟨_,_,_,_,o,_,_,e,_⟩:=x;exact lc e
 | dT kvs=>obtain⟨_,_,_,_,o,_,_,e,_⟩:=x;exact lc e
 | set S n=>obtain⟨o,_,_,_,e,_⟩:=x;exact lc e
 | ins C dx fs=>obtain⟨_,_,_,e,_⟩:=x;exact lc e
 | own y=>obtain⟨_,e⟩:=x;exact lc e
 | xd fs=>obtain⟨_,⟨_,_,_,e,_⟩,_⟩:=x;exact lc e
 | rng lo hi=>obtain⟨_,_,_,e⟩:=x;exact lc e
 | frz ob u=>obtain⟨e,_⟩:=x;exact lc e
 | tbl ps=>exact lc (show h.get? a=some _ from x)
 | met f y=>exact lc (show h.get? a=some _ from x)
 | ext φ=>obtain⟨_,⟨_,e⟩,_⟩:=x;exact lc e
 | big ps φ=>obtain⟨_,_,⟨_,e⟩,_⟩:=x;exact lc e
theorem Paired.mapP {α β:Type}{F G:α->β->Prop}:∀ {l₁:List α} {l₂:List β},BY F l₁ l₂->(∀a b,F a b->G a b)->BY G l₁ l₂
 | _,_,.nil,_=>.nil
 | _,_,.cons r t,f=>.cons (f _ _ r) (Paired.mapP t f)
theorem cK.stay (x:cK P w H h a o)(k:∀b u,(b=a∨H b=some (.own a))->h.get? b=some u->h'.get? b=some u)
  (ho:∀b,H b=some (.own a)->H' b=some (.own a)) (ht:∀b xs,H b=some (.tup xs)->H' b=some (.tup xs)):cK P w H' h' a o:=by
 induction o with
 | lst xs=>obtain⟨z,its,n,r,e⟩:=x;exact⟨z,its,n,r,k _ _ (.inl rfl) e⟩
 | tup xs=>obtain⟨z,its,r,ob,e,c⟩:=x;exact⟨z,its,r,ob,k _ _ (.inl rfl) e,c⟩
 | dK kvs=>obtain⟨z,y,vs,r,ob,es,ep,e,c⟩:=x;exact⟨z,y,vs,r,ob,es,ep,k _ _ (.inl rfl) e,c⟩
 | dT kvs =>
  obtain⟨z,y,xs,r,ob,es,ep,e,c⟩:=x;exact⟨z,y,xs,Paired.mapP r λp q z=>⟨z.1,ht _ _ z.2.1,z.2.2⟩,ob,es,ep,k _ _ (.inl rfl) e,c⟩
 | set S n=>obtain⟨ob,es,ep,t,e,c⟩:=x;exact⟨ob,es,ep,t,k _ _ (.inl rfl) e,c⟩
 | ins C dx fs =>
  obtain⟨d,z,ne,e,mA,⟨od,es,ep,e2,c⟩,r⟩:=x;exact⟨ho _ d,z,ne,k _ _ (.inl rfl) e,mA,⟨od,es,ep,k _ _ (.inr d) e2,c⟩,r⟩
 | own y=>obtain⟨ob,e⟩:=x;exact⟨ob,k _ _ (.inl rfl) e⟩
 | xd fs=>obtain⟨mA,⟨od,es,ep,e,c⟩,r⟩:=x;exact⟨mA,⟨od,es,ep,k _ _ (.inl rfl) e,c⟩,r⟩
 | rng lo hi=>obtain⟨t,u,v,e⟩:=x;exact⟨t,u,v,k _ _ (.inl rfl) e⟩
 | frz ob u ih=>obtain⟨e,q⟩:=x;exact⟨k _ _ (.inl rfl) e,ih q⟩
 | tbl ps =>
  have e:h.get? a=some {cls:=.none,data:=.fields ps}:=x;show h'.get? a=some {cls:=.none,data:=.fields ps};exact k a _ (.inl rfl) e
 | met f y =>
  have e:h.get? a=some (Am (.ref f) (.ref y)):=x;show h'.get? a=some (Am (.ref f) (.ref y));exact k a _ (.inl rfl) e
 | ext φ=>obtain⟨p,⟨o,e⟩,st⟩:=x;exact⟨st _ _ p λo q=>k _ _ (.inl rfl) q,⟨o,k _ _ (.inl rfl) e⟩,st⟩
 | big ps φ=>obtain⟨ow,p,⟨o,e⟩,st⟩:=x;exact⟨λb hb=>⟨(ow b hb).1,ho _ (ow b hb).2⟩,st _ _ p λb o hb q=>k _ _ (hb.imp id λz=>(ow b z).2) q,⟨o,k _ _ (.inl rfl) e⟩,st⟩
theorem HOk.lt (x:HOk P w H h)(e:H a=some o):a<h.objs.size:=(x a o e).lt
theorem HOk.fresh (x:HOk P w H h)(e:h.objs.size<=a):H a=none:=by
 cases q:H a with
 | none=>rfl
 | some u=>exact absurd (o0 (x.lt q) e) (xS _)
theorem HOk.kept (x:HOk P w H h)(k:∀b u,h.get? b=some u->h'.get? b=some u):HOk P w H h':=λa o e =>
 (x a o e).stay (λb u _ q=>k b u q) (λ_ q=>q) λ_ _ q=>q
theorem HOk.laid (x:HOk P w H h)(k:∀b u,h.get? b=some u->h'.get? b=some u)(hp:h.objs.size<=a)(new:cK P w (upd H a o) h' a o):HOk P w (upd H a o) h':=λb u e=>by
 have hn:=x.fresh hp;by_cases hb:b=a
 ·subst hb;rw[aX]at e;cases e;exact new
 ·rw[aI hb]at e;exact(x b u e).stay (λc v _ q=>k c v q) (λc q=>by rw[aI (bg q hn)];exact q) λc xs q=>by rw[aI (bg q hn)];exact q
end
def Rd (H:Hp)(a:Addr)(u:HO):Prop:=H a=some u ∨ ∃o,H a=some (.frz o u)
theorem Rd.ok {P:v3}{w:wz}{H:Hp}{h:Heap}{a:Addr}{u:HO}(r:Rd H a u)(x:HOk P w H h):cK P w H h a u:=by
 rcases r with r | ⟨o,r⟩
 ·exact x a u r
 ·obtain⟨_,q⟩:=x a _ r;exact q
def Mut:Option HO->Prop
 | some (.lst _)=>True
 | some (.dK _)=>True
 | some (.dT _)=>True
 | some (.set _ _)=>True
 | some (.ins _ _ _)=>True
 | some (.ext _)=>True
 | some (.big _ _)=>True
 | _=>False
section
variable {P:v3}{w:wz}{H:Hp}{h h':Heap}{x e:Addr}{o':HO}
theorem HOk.write (ok:HOk P w H h)(mu:Mut (H x))(he:e=x∨H e=some (.own x))(k:∀b u,b≠e->h.get? b=some u->h'.get? b=some u)(heo:∃u,h'.get? e=some u)
  (new:cK P w (upd H x o') h' x o'):HOk P w (upd H x o') h':=λb u q=>by
 have nown:∀c y,H c=some (.own y)->c≠x:=λc y r z=>by subst z;rw[r]at mu;exact mu
 have ntup:∀c xs,H c=some (.tup xs)->c≠x:=λc xs r z=>by subst z;rw[r]at mu;exact mu
 by_cases hb:b=x
 ·subst hb;rw[aX]at q;cases q;exact new
 ·rw[aI hb]at q;by_cases hbe:b=e
  ·have q':H b=some (.own x):=by
    rcases he with z | z
    ·exact absurd (hbe.trans z) hb
    ·rw[hbe];exact z
   rw[q]at q';cases q';obtain⟨v,hv⟩:=heo;exact⟨v,by rw[hbe];exact hv⟩
  ·refine(ok b u q).stay (λc v hc r=>k c v ?_ r) (λc r=>by rw[aI (nown c b r)];exact r) λc xs r=>by rw[aI (ntup c xs r)];exact r
   rcases hc with rfl | hc
   ·exact hbe
   ·rintro rfl;rcases he with z | z
    ·exact nown c b hc z
    ·rw[hc]at z;cases z;exact hb rfl
end
structure Un (fs ex:List Addr)(H H':Hp)(h h':Heap):Prop where
 keep:∀b o,h.get? b=some o->H b=none->b∉fs->b∉ex->h'.get? b=some o
 slot:∀b o,h.get? b=some o->H b=none->b∈fs->b∉ex->∃sl,h'.get? b=some {o with slots:=sl}
 free:∀b o,h.get? b=some o->H b=none->b∉ex->H' b=none
 there:∀b o,h.get? b=some o->b∉ex->∃o',h'.get? b=some o'
 tups:∀b xs,H b=some (.tup xs)->H' b=some (.tup xs)
 frzs:∀b o u,H b=some (.frz o u)->H' b=some (.frz o u)
 tbls:∀b ps,H b=some (.tbl ps)->∃more,H' b=some (.tbl (ps++more))
section
variable {fs fs' ex ex':List Addr}{H H1 H2:Hp}{h h1 h2 h':Heap}{a x e:Addr}{o:HO}
theorem Un.any (u:Un fs ex H H1 h h1){b:Addr}{ob:Obj}(q:h.get? b=some ob)(n:H b=none)(hx:b∉ex):∃sl,h1.get? b=some {ob with slots:=sl}:=by
 by_cases hb:b∈fs
 ·exact u.slot b ob q n hb hx
 ·exact⟨ob.slots,u.keep b ob q n hb hx⟩
theorem Un.trans (a:Un fs ex H H1 h h1)(b:Un fs ex H1 H2 h1 h2):Un fs ex H H2 h h2 where
 keep:=λc ob q n hc hx=>b.keep c ob (a.keep c ob q n hc hx) (a.free c ob q n hx) hc hx
 slot:=λc ob q n hc hx=>by
  obtain⟨sl,e1⟩:=a.slot c ob q n hc hx;obtain⟨sl',e2⟩:=b.slot c _ e1 (a.free c ob q n hx) hc hx;exact⟨sl',e2⟩
 free:=λc ob q n hx=>by
  obtain⟨o',e1⟩:=a.there c ob q hx;exact b.free c o' e1 (a.free c ob q n hx) hx
 there:=λc ob q hx=>by
  obtain⟨o',e1⟩:=a.there c ob q hx;exact b.there c o' e1 hx
 tups:=λc xs q=>b.tups c xs (a.tups c xs q)
 frzs:=λc ob xs q=>b.frzs c ob xs (a.frzs c ob xs q)
 tbls:=λc ps q=>by
  obtain⟨m1,e1⟩:=a.tbls c ps q;obtain⟨m2,e2⟩:=b.tbls c _ e1;exact⟨m1++m2,by rw[e2,Cn]⟩
theorem Un.kept (k:∀b u,h.get? b=some u->h'.get? b=some u):Un fs ex H H h h' :=
 ⟨λb ob q _ _ _=>k b ob q,λb ob q _ _ _=>⟨ob.slots,k b ob q⟩,λ_ _ _ n _=>n,λb ob q _=>⟨ob,k b ob q⟩,λ_ _ q=>q,λ_ _ _ q=>q,λ_ ps q=>⟨#[],by rw[q];simp⟩⟩
theorem Un.refl:Un fs ex H H h h:=Un.kept λ_ _ q=>q
theorem Un.laid (k:∀b u,h.get? b=some u->h'.get? b=some u)(hp:h.objs.size<=a)(hn:H a=none):Un fs ex H (upd H a o) h h' where
 keep:=λb u q _ _ _=>k b u q
 slot:=λb u q _ _ _=>⟨u.slots,k b u q⟩
 free:=λb u q n _=>by rw[aI (wm (o0 (lc q) hp))];exact n
 there:=λb u q _=>⟨u,k b u q⟩
 tups:=λb xs q=>by rw[aI (bg q hn)];exact q
 frzs:=λb u xs q=>by rw[aI (bg q hn)];exact q
 tbls:=λb ps q=>⟨#[],by rw[aI (bg q hn),q];simp⟩
theorem Un.write (mu:Mut (H x))(he:e=x∨H e=some (.own x))(k:∀b u,b≠e->h.get? b=some u->h'.get? b=some u)(heo:∃u,h'.get? e=some u):Un fs ex H (upd H x o) h h':=by
 have hx:∀b,H b=none->b≠x:=λb n z=>by subst z;rw[n]at mu;exact mu
 have hb:∀b,H b=none->b≠e:=λb n z=>by
  subst z;rcases he with r | r
  ·exact hx b n r
  ·rw[n]at r;cases r
 have hm:∀b u,H b=some u->¬Mut (some u)->b≠x:=λb u q nm z=>by subst z;rw[q]at mu;exact nm mu
 refine⟨λb u q n _ _=>k b u (hb b n) q,λb u q n _ _=>⟨u.slots,k b u (hb b n) q⟩,λb u q n _=>by rw[aI (hx b n)];exact n,λb u q _=>?_,
  λb xs q=>by rw[aI (hm b _ q λz=>z)];exact q,λb u xs q=>by rw[aI (hm b _ q λz=>z)];exact q,λb ps q=>⟨#[],by rw[aI (hm b _ q λz=>z),q];simp⟩⟩
 by_cases hbe:b=e
 ·subst hbe;exact heo
 ·exact⟨u,k b u hbe q⟩
end
def trk (h:Heap)(H:Hp):List Addr:=(wF h.objs.size).filter λa=>(H a).isSome
def hidT (h:Heap)(H:Hp):Heap:=PySem.W.hideAll h (trk h H)
theorem pF (h:Heap)(H:Hp):(hidT h H).objs.size=h.objs.size:=PySem.W.hideAll_size _ _
theorem qJ {h:Heap}{H:Hp}{b:Addr}{o:Obj}(e:h.get? b=some o)(n:H b=none):(hidT h H).get? b=some o :=
 PySem.W.hideAll_get _ e λhm=>by
  have q:(H b).isSome=true:=(y_.mp hm).2;rw[n]at q;simp at q
theorem sQ {h:Heap}{H:Hp}{b:Addr}{o:Obj}(e:(hidT h H).get? b=some o):h.get? b=some o/\H b=none:=by
 have e':h.get? b=some o:=PySem.W.of_hideAll (trk h H) e;refine⟨e',?_⟩;cases q:H b with
 | none=>rfl
 | some x =>
  have hm:b∈trk h H:=y_.mpr ⟨xT.mpr (lc e'),by simp[q]⟩;have z:(hidT h H).get? b=none:=PySem.W.hideAll_none (trk h H) hm;rw[z]at e;cases e
structure Mod (K:ac)(mg:Str->Option bi)(base:Heap):Prop where
 kin:K.In base
 glob:base.Ns vZ mg
 blt:∃mb,base.Ns Dw mb/\∀x:Str,x ≠ "__name__" -> mb x=xr x
 nolimit:base.NoLimit
structure Cx where
 prog:v3
 w:wz
 K:ac
 mg:Str->Option bi
 base:Heap
 A:wy
 N:List Str
 s₀:bn
 H₀:Hp
 env:Env
 outer:List Env
 stack:List Env
 ex:List Addr
 fn:Str->Bool
 calm:Bool
 pn:List (Addr×Obj)
 xe:bi->bn->Prop
def frs (l:List Env):List Addr:=l.filterMap (·.frame)
abbrev Cx.fs (X:Cx):List Addr:=frs X.outer
def Vis (sc:xx)(x:Str):Prop:=sc.names.lookup x=some .local∨sc.names.lookup x=some .cell∨sc.names.lookup x=some .free
def Loc (sc:xx)(x:Str):Prop:=sc.names.lookup x=some .local∨sc.names.lookup x=some .cell
def Look (env:Env)(h:Heap)(m:Str->Option bi)(x:Str)(u:bi):Prop :=
 (env.kindOf x=some .local/\m x=some u)∨((env.kindOf x=some .cell∨env.kindOf x=some .free)/\∃c,env.cells.lookup x=some c/\h.IsCell c (some u))
structure Cx.Ok (X:Cx):Prop where
 mod:Mod X.K X.mg X.base
 kind:X.env.scope.kind = .function
 glob:X.env.globals=vZ
 blt:X.env.builtins=Dw
 above:X.s₀.heap.objs.size<=X.env.locals
 inj:∀x y c,X.env.cells.lookup x=some c->X.env.cells.lookup y=some c->x=y
 has:∀x,(X.env.kindOf x=some .cell∨X.env.kindOf x=some .free)->∃c,X.env.cells.lookup x=some c
 cab:∀x c,X.fn x=true->X.env.cells.lookup x=some c->X.s₀.heap.objs.size<=c
 hd:X.calm=true->X.A.handled=none
 frames:X.A.frames=some X.stack
 stk:X.stack=X.outer∨(X.stack=X.env::X.outer/\X.env.frame=some X.env.locals)
 exf:∀b∈X.ex,b≠X.env.locals/\∀x c,X.env.cells.lookup x=some c->c≠b
 bs:∀b o,X.base.get? b=some o->X.s₀.heap.get? b=some o/\X.H₀ b=none
 bsz:X.base.objs.size<=X.s₀.heap.objs.size
 noex:∀b o,X.base.get? b=some o->b∉X.ex
 exfs:∀b∈X.ex,b∉X.fs
 funs:X.s₀.heap.FunFrames X.base X.outer
 frf:∀b∈X.fs,X.H₀ b=none
structure Inv (X:Cx)(pins:List (Addr×Obj))(σ:List (Option V))(H:Hp)(s:bn):Prop where
 ok:X.Ok
 os:s.os=X.s₀.os
 bare:zT s.gens
 base:Un X.fs X.ex X.H₀ H X.s₀.heap s.heap
 loc:∃m,s.heap.Ns X.env.locals m/\∀(i:Nat) (x:Str) (v:V),X.N[i]? = some x->σ[i]? = some (some v)->Vis X.env.scope x->∃u,RelV v u/\Look X.env s.heap m x u
 cell:∀x c,X.env.cells.lookup x=some c->∃v,s.heap.IsCell c v
 free:H X.env.locals=none
 freeC:∀x c,X.env.cells.lookup x=some c->H c=none
 pin:∀p∈X.pn++pins,s.heap.get? p.1=some p.2/\H p.1=none/\p.1≠X.env.locals/\p.1∉X.fs/\∀v,p.2.data ≠ .cell v
 hok:HOk X.prog X.w H s.heap
 len:σ.length=X.N.length
section
variable {X:Cx}{pins:List (Addr×Obj)}{σ:List (Option V)}{H H':Hp}{s:bn}{h':Heap}
theorem Cx.Ok.nofr (ok:X.Ok){b:Addr}{o:Obj}(e:X.base.get? b=some o):b∉X.fs:=λhb=>by
 have:=(ok.funs.mem hb).1;rw[e]at this;cases this
theorem Inv.bs (I:Inv X pins σ H s):∀b o,X.base.get? b=some o->s.heap.get? b=some o/\H b=none:=λb o e =>
 ⟨I.base.keep b o (I.ok.bs b o e).1 (I.ok.bs b o e).2 (I.ok.nofr e) (I.ok.noex b o e),I.base.free b o (I.ok.bs b o e).1 (I.ok.bs b o e).2 (I.ok.noex b o e)⟩
theorem Inv.bk (I:Inv X pins σ H s):∀b o,X.base.get? b=some o->s.heap.get? b=some o:=λb o e=>(I.bs b o e).1
theorem Inv.mod (I:Inv X pins σ H s):Mod X.K X.mg X.base:=I.ok.mod
theorem Inv.kIn (I:Inv X pins σ H s):X.K.In s.heap:=I.ok.mod.kin.keeps I.bk
theorem Inv.fr (I:Inv X pins σ H s):∃m,Fr X.base X.env.locals s.heap m :=
 let ⟨m,hn,_⟩:=I.loc
 ⟨m,hn,I.bk,wo I.ok.bsz I.ok.above⟩
theorem Inv.lt (I:Inv X pins σ H s):X.env.locals<s.heap.objs.size:=let ⟨_,hn,_⟩:=I.loc;hn.lt
theorem Inv.sz (I:Inv X pins σ H s):X.s₀.heap.objs.size<=s.heap.objs.size:=wo I.ok.above (wT I.lt)
theorem Inv.nofs (I:Inv X pins σ H s){a:Addr}(h:s.heap.objs.size<=a):a∉X.fs:=λhb=>by
 obtain⟨_,o,ho,_⟩:=I.ok.funs.mem hb;exact absurd (o0 (lc ho) (wo I.sz h)) (xS _)
theorem Inv.cne (I:Inv X pins σ H s):∀x c,X.env.cells.lookup x=some c->c≠X.env.locals:=λx c e z=>by
 obtain⟨v,o,ho,hd⟩:=I.cell x c e;obtain⟨m,⟨o',es,ep,ho',hd',_⟩,_⟩:=I.loc;rw[z,ho']at ho;cases ho;rw[hd']at hd;cases hd
theorem Inv.funs (I:Inv X pins σ H s):s.heap.FunFrames X.base X.outer:=by
 have all:∀(l:List Env),(∀b∈frs l,b∈X.fs)->X.s₀.heap.FunFrames X.base l->s.heap.FunFrames X.base l:=by
  intro l;induction l with
  | nil=>intro _ _;trivial
  | cons env r ih =>
   intro hs hl;obtain⟨hk,⟨L,o,hf,hn,ho,hd⟩,hr⟩:=hl;have hL:L∈X.fs:=hs L (by unfold frs;rw[zk,hf];exact wV);obtain⟨sl,e⟩:=I.base.slot L o ho (I.ok.frf L hL) hL λz=>I.ok.exfs L z hL
   exact⟨hk,⟨L,_,hf,hn,e,hd⟩,ih (λb hb=>hs b (by unfold frs;rw[zk,hf];exact wQ _ hb)) hr⟩
 exact all X.outer (λ_ hb=>hb) I.ok.funs
theorem Inv.stack (I:Inv X pins σ H s):s.heap.FunFrames X.base X.stack:=by
 rcases I.ok.stk with e | ⟨e,hf⟩
 ·rw[e];exact I.funs
 ·rw[e];obtain⟨m,hn,_⟩:=I.loc;refine .cons (by rw[I.ok.kind];decide) hf hn ?_ I.funs;exact yr (wo I.ok.bsz I.ok.above)
theorem Inv.stkSub (I:Inv X pins σ H s):∀b∈frs X.stack,b∈X.env.locals::X.fs:=λb hb=>by
 rcases I.ok.stk with e | ⟨e,hf⟩
 ·rw[e]at hb;exact wQ _ hb
 ·rw[e]at hb;unfold frs at hb;rw[zk,hf]at hb;exact hb
theorem Inv.stkFree (I:Inv X pins σ H s):∀b∈frs X.stack,H b=none:=λb hb=>by
 rcases we.mp (I.stkSub b hb)with e | hb
 ·rw[e];exact I.free
 ·obtain⟨_,o,ho,_⟩:=I.ok.funs.mem hb;exact I.base.free b o ho (I.ok.frf b hb) λz=>I.ok.exfs b z hb
theorem Inv.step {g':Array B3}{t':Nat}{d':Drawn}{ch:List Addr}(I:Inv X pins σ H s)
  (hch:∀b∈ch,(b∈X.ex∨X.s₀.heap.objs.size<=b)/\b≠X.env.locals/\(∀x c,X.env.cells.lookup x=some c->c≠b)/\∀p∈X.pn++pins,p.1≠b)
  (keep:∀b o,b≠X.env.locals->b∉X.fs->b∉ch->s.heap.get? b=some o->H b=none->h'.get? b=some o)
  (slot:∀b o,b≠X.env.locals->b∈X.fs->b∉ch->s.heap.get? b=some o->H b=none->∃sl,h'.get? b=some {o with slots:=sl}) (free:∀b o,b∉ch->s.heap.get? b=some o->H b=none->H' b=none)
  (there:∀b o,b∉ch->s.heap.get? b=some o->∃o',h'.get? b=some o')
  (tups:∀b xs,H b=some (.tup xs)->H' b=some (.tup xs)) (frzs:∀b o u,H b=some (.frz o u)->H' b=some (.frz o u)) (tbls:∀b ps,H b=some (.tbl ps)->∃more,H' b=some (.tbl (ps++more)))
  (ns:∀m,s.heap.Ns X.env.locals m->h'.Ns X.env.locals m) (hok:HOk X.prog X.w H' h') (hg:zT g') :
  Inv X pins σ H' {s with heap:=h',gens:=g',drawn:=d',toks:=t'}:=by
 have neL:∀b o,X.s₀.heap.get? b=some o->b≠X.env.locals:=λb o e=>wm (o0 (lc e) I.ok.above);have neC:∀b o,X.s₀.heap.get? b=some o->b∉X.ex->b∉ch:=λb o e hx hb=>by
  rcases(hch b hb).1 with z | z
  ·exact hx z
  ·exact absurd (o0 (lc e) z) (xS _)
 have cellK:∀x c,X.env.cells.lookup x=some c->∀v,s.heap.IsCell c v->h'.IsCell c v:=λx c e v ⟨o,ho,hd⟩=>by
  have nch:c∉ch:=λz=>(hch c z).2.2.1 x c e rfl;by_cases hc:c∈X.fs
  ·obtain⟨sl,q⟩:=slot c o (I.cne x c e) hc nch ho (I.freeC x c e);exact⟨_,q,hd⟩
  ·exact⟨o,keep c o (I.cne x c e) hc nch ho (I.freeC x c e),hd⟩
 refine⟨I.ok,I.os,hg,⟨λb o e n hb hx=>?_,λb o e n hb hx=>?_,λb o e n hx=>?_,λb o e hx=>?_,λb xs e=>tups b xs (I.base.tups b xs e),λb o xs e=>frzs b o xs (I.base.frzs b o xs e),λb ps e=>?_⟩,?_,λx c e=>?_,?_,λx c e=>?_,λp hp=>?_,hok,I.len⟩
 ·exact keep b o (neL b o e) hb (neC b o e hx) (I.base.keep b o e n hb hx) (I.base.free b o e n hx)
 ·obtain⟨sl,e1⟩:=I.base.slot b o e n hb hx;obtain⟨sl',e2⟩:=slot b _ (neL b o e) hb (neC b o e hx) e1 (I.base.free b o e n hx);exact⟨sl',e2⟩
 ·obtain⟨o',e1⟩:=I.base.there b o e hx;exact free b o' (neC b o e hx) e1 (I.base.free b o e n hx)
 ·obtain⟨o',e1⟩:=I.base.there b o e hx;exact there b o' (neC b o e hx) e1
 ·obtain⟨m1,e1⟩:=I.base.tbls b ps e;obtain⟨m2,e2⟩:=tbls b _ e1;exact⟨m1++m2,by rw[e2,Cn]⟩
 ·obtain⟨m,hn,hl⟩:=I.loc;refine⟨m,ns m hn,λi x v e1 e2 e3=>?_⟩;obtain⟨u,r,l⟩:=hl i x v e1 e2 e3;refine⟨u,r,?_⟩;rcases l with l | ⟨k,c,e,z⟩
  ·exact .inl l
  ·exact .inr ⟨k,c,e,cellK x c e _ z⟩
 ·obtain⟨v,z⟩:=I.cell x c e;exact⟨v,cellK x c e v z⟩
 ·obtain⟨m,⟨o,_,_,ho,_⟩,_⟩:=I.loc;exact free _ o (λz=>(hch _ z).2.1 rfl) ho I.free
 ·obtain⟨v,o,ho,hd⟩:=I.cell x c e;exact free c o (λz=>(hch c z).2.2.1 x c e rfl) ho (I.freeC x c e)
 ·obtain⟨e,n,ne,nf,d⟩:=I.pin p hp;have nch:p.1∉ch:=λz=>(hch p.1 z).2.2.2 p hp rfl;exact⟨keep p.1 p.2 ne nf nch e n,free p.1 p.2 nch e n,ne,nf,d⟩
theorem Inv.un {t':Nat}(I:Inv X pins σ H s)(u:Un X.fs [] H H' s.heap h')(hok:HOk X.prog X.w H' h'):Inv X pins σ H' {s with heap:=h',toks:=t'}:=by
 obtain⟨m,⟨o,es,ep,ho,r⟩,_⟩:=id I.loc;obtain⟨sl,hL⟩:=u.any ho I.free (by simp);exact I.step (g':=s.gens) (d':=s.drawn) (ch:=[]) (λ_ z=>nomatch z) (λb o _ hb _ e n=>u.keep b o e n hb (by simp)) (λb o _ hb _ e n=>u.slot b o e n hb (by simp)) (λb o _ e n=>u.free b o e n (by simp)) (λb o _ e=>u.there b o e (by simp)) u.tups u.frzs u.tbls (λm' hm=>by
  obtain⟨o',es',ep',ho',r'⟩:=hm;rw[ho]at ho';cases ho';exact⟨_,es',ep',hL,r'⟩) hok I.bare
theorem Inv.call {g':Array B3}{t':Nat}{d':Drawn}{ch:List Addr}(I:Inv X pins σ H s)(u:Un (frs X.stack) ch H H' s.heap h')(hok:HOk X.prog X.w H' h')(hg:zT g')
  (hch:∀b∈ch,(b∈X.ex∨X.s₀.heap.objs.size<=b)/\b≠X.env.locals/\(∀x c,X.env.cells.lookup x=some c->c≠b)/\∀p∈X.pn++pins,p.1≠b) :
  Inv X pins σ H' {s with heap:=h',gens:=g',drawn:=d',toks:=t'}:=by
 obtain⟨m,⟨o,es,ep,ho,r⟩,_⟩:=id I.loc;obtain⟨sl,hL⟩:=u.any ho I.free λz=>(hch _ z).2.1 rfl
 exact I.step (ch:=ch) hch (λb o hL hb hc e n=>u.keep b o e n (λz=>(we.mp (I.stkSub b z)).elim hL hb) hc) (λb o _ _ hc e n=>u.any e n hc) (λb o hc e n=>u.free b o e n hc) (λb o hc e=>u.there b o e hc) u.tups u.frzs u.tbls (λm' hm=>by
  obtain⟨o',es',ep',ho',r'⟩:=hm;rw[ho]at ho';cases ho';exact⟨_,es',ep',hL,r'⟩) hok hg
theorem Inv.turned {t':Nat}{it:Addr}(I:Inv X pins σ H s)(k:∀b o,b≠it->s.heap.get? b=some o->h'.get? b=some o)(hn:H it=none)(hL:it≠X.env.locals)
  (h1:it∈X.ex∨X.s₀.heap.objs.size<=it) (h2:∀x c,X.env.cells.lookup x=some c->c≠it) (h3:∀p∈X.pn++pins,p.1≠it):Inv X pins σ H {s with heap:=h',toks:=t'}:=by
 have nit:∀b u,H b=some u->b≠it:=λb u e z=>by rw[z,hn]at e;cases e
 refine I.step (g':=s.gens) (d':=s.drawn) (ch:=[it]) (λb hb=>?_) (λb o _ _ hc e _=>k b o (λz=>hc (by simp[z])) e) (λb o _ _ hc e _=>⟨o.slots,k b o (λz=>hc (by simp[z])) e⟩) (λ_ _ _ _ n=>n)
  (λb o hc e=>⟨o,k b o (λz=>hc (by simp[z])) e⟩) (λ_ _ e=>e) (λ_ _ _ e=>e) (λb ps e=>⟨#[],by rw[e];simp⟩) (λm hm=>?_) (λb u e=>?_) I.bare
 ·have e:b=it:=by simpa using hb
  subst e;exact⟨h1,hL,h2,h3⟩
 ·obtain⟨o,es,ep,ho,r⟩:=hm;exact⟨o,es,ep,k _ o (xc hL) ho,r⟩
 ·refine(I.hok b u e).stay (λc v hc q=>k c v ?_ q) (λ_ q=>q) λ_ _ q=>q;rcases hc with z | z
  ·rw[z];exact nit b u e
  ·exact nit c _ z
theorem Inv.tok (I:Inv X pins σ H s)(t:Nat):Inv X pins σ H {s with toks:=t}:=I.un (h':=s.heap) (t':=t) Un.refl I.hok
theorem Inv.kept {t':Nat}(I:Inv X pins σ H s)(k:∀b u,s.heap.get? b=some u->h'.get? b=some u):Inv X pins σ H {s with heap:=h',toks:=t'}:=I.un (Un.kept k) (I.hok.kept k)
theorem Inv.laid {a:Addr}{o:HO}{t':Nat}(I:Inv X pins σ H s)(k:∀b u,s.heap.get? b=some u->h'.get? b=some u)(hp:s.heap.objs.size<=a)(new:cK X.prog X.w (upd H a o) h' a o) :
  Inv X pins σ (upd H a o) {s with heap:=h',toks:=t'}:=I.un (Un.laid k hp (I.hok.fresh hp)) (I.hok.laid k hp new)
theorem Inv.write {x e:Addr}{o:HO}{t':Nat}(I:Inv X pins σ H s)(mu:Mut (H x))(he:e=x∨H e=some (.own x))(k:∀b u,b≠e->s.heap.get? b=some u->h'.get? b=some u)(heo:∃u,h'.get? e=some u)
  (new:cK X.prog X.w (upd H x o) h' x o):Inv X pins σ (upd H x o) {s with heap:=h',toks:=t'}:=I.un (Un.write mu he k heo) (I.hok.write mu he k heo new)
theorem Inv.weak {σ':List (Option V)}(I:Inv X pins σ H s)(hl:σ'.length=σ.length)(w:∀(i:Nat) v,σ'[i]? = some (some v)->σ[i]? = some (some v)):Inv X pins σ' H s :=
 ⟨I.ok,I.os,I.bare,I.base,let ⟨m,hn,hl'⟩:=I.loc;⟨m,hn,λi x v e1 e2 e3=>hl' i x v e1 (w i v e2) e3⟩,I.cell,I.free,I.freeC,I.pin,I.hok,hl.trans I.len⟩
theorem Inv.pins_of {pins':List (Addr×Obj)}(I:Inv X pins σ H s)(h:∀p∈pins',s.heap.get? p.1=some p.2/\H p.1=none/\p.1≠X.env.locals/\p.1∉X.fs/\∀v,p.2.data ≠ .cell v):Inv X pins' σ H s :=
 ⟨I.ok,I.os,I.bare,I.base,I.loc,I.cell,I.free,I.freeC,λp hp=>(xM.mp hp).elim (λz=>I.pin p (z_ _ z)) (h p),I.hok,I.len⟩
theorem mD {N:List Str}(hN:N.Nodup){i j:Nat}{x:Str}(a:N[i]? = some x)(b:N[j]? = some x):i=j:=by
 obtain⟨h1,e1⟩:=lm.mp a;obtain⟨h2,e2⟩:=lm.mp b;exact(List.getElem_inj hN).mp (e1.trans e2.symm)
theorem g5 {M:Bp}{A:wy}{E:bi->bn->Prop}{i:Nat}{x:Str}{v:V}{u:bi}{Q:Unit->bn->Prop}(I:Inv X pins σ H s)(hN:X.N.Nodup)(hi:X.N[i]? = some x)(hx:Loc X.env.scope x)(r:RelV v u)
  (h:∀s',Inv X pins (σ.set i (some v)) H s'->(∃a,w_ a s.heap s'.heap/\(a=X.env.locals∨X.env.cells.lookup x=some a))->Q () s') (hf:X.fn x=true∨X.env.scope.names.lookup x=some .local:=by first | exact .inl rfl | exact .inr rfl | assumption):nw M A (storeName X.env x u) Q E s:=by
 obtain⟨m,hn,hl⟩:=id I.loc;have hcls:(X.env.scope.kind == .class||(X.env.scope.kind == .module&&X.env.locals != X.env.globals))=false:=by rw[I.ok.kind];rfl
 have hiσ:i<σ.length:=by rw[I.len];exact(lm.mp hi).1
 have cne:=I.cne;have tracked:∀ {a:Addr} {h':Heap},(∃o,s.heap.get? a=some o/\H a=none)->w_ a s.heap h'->HOk X.prog X.w H h':=λ{a h'} ha hs b ob e=>by
  obtain⟨_,_,hfree⟩:=ha;refine(I.hok b ob e).stay (λc w' hc q=>(hs.2 c ?_).trans q) (λ_ q=>q) λ_ _ q=>q;rintro rfl;rcases hc with rfl | hc
  ·rw[hfree]at e;cases e
  ·rw[hfree]at hc;cases hc
 rcases hx with hk | hk
 ·refine wpAny_storeName_local hk hn (λh' hn' hs=>?_) hcls;obtain⟨oL,_,_,hoL,_⟩:=id hn;refine h _ ⟨I.ok,I.os,I.bare,⟨λb o e n hb hx=>?_,λb o e n hb hx=>?_,I.base.free,λb o e hx=>?_,I.base.tups,I.base.frzs,I.base.tbls⟩,⟨_,hn',λj y v' e1 e2 e3=>?_⟩,λy c e=>?_,I.free,I.freeC,λp hp=>?_,tracked ⟨oL,hoL,I.free⟩ hs,by simpa using I.len⟩ ⟨_,hs,.inl rfl⟩
  ·exact(hs.2 b (wm (o0 (lc e) I.ok.above))).trans (I.base.keep b o e n hb hx)
  ·obtain⟨sl,e1⟩:=I.base.slot b o e n hb hx;exact⟨sl,(hs.2 b (wm (o0 (lc e) I.ok.above))).trans e1⟩
  ·obtain⟨o',e1⟩:=I.base.there b o e hx;exact⟨o',(hs.2 b (wm (o0 (lc e) I.ok.above))).trans e1⟩
  ·by_cases hj:j=i
   ·subst hj;rw[hi]at e1;cases e1;rw[wO hiσ]at e2;cases e2
    exact⟨u,r,.inl ⟨hk,by simp⟩⟩
   ·rw[pc (xc hj)]at e2;obtain⟨u',r',q⟩:=hl j y v' e1 e2 e3;refine⟨u',r',?_⟩;rcases q with⟨k,e⟩ | ⟨k,c,e,z⟩
    ·refine .inl ⟨k,?_⟩;have:y≠x:=λe=>hj (mD hN e1 (e▸hi));simp[this,e]
    ·exact .inr ⟨k,c,e,z.sameBut hs (cne y c e)⟩
  ·obtain⟨w',z⟩:=I.cell y c e;exact⟨w',z.sameBut hs (cne y c e)⟩
  ·obtain⟨e,n,ne,nf,d⟩:=I.pin p hp;exact⟨(hs.2 p.1 ne).trans e,n,ne,nf,d⟩
 ·have hfn:X.fn x=true:=by
   rcases hf with z | z
   ·exact z
   ·rw[z]at hk;cases hk
  obtain⟨c,hc⟩:=I.ok.has x (.inl hk);obtain⟨w',z⟩:=I.cell x c hc;refine wpAny_storeName_cell I.ok.kind hk hc z (λh' hc' hs=>?_);obtain⟨oc,hoc,hocd⟩:=id z;refine h {s with heap:=h'} ⟨I.ok,I.os,I.bare,⟨λb o e n hb hx=>?_,λb o e n hb hx=>?_,I.base.free,λb o e hx=>?_,I.base.tups,I.base.frzs,I.base.tbls⟩,⟨m,hn.sameBut hs (xc (cne x c hc)),λj y v' e1 e2 e3=>?_⟩,λy c' e=>?_,I.free,I.freeC,λp hp=>?_,tracked ⟨oc,hoc,I.freeC x c hc⟩ hs,by simpa using I.len⟩ ⟨c,hs,.inr hc⟩
  ·exact(hs.2 b (wm (o0 (lc e) (I.ok.cab x c hfn hc)))).trans (I.base.keep b o e n hb hx)
  ·obtain⟨sl,e1⟩:=I.base.slot b o e n hb hx;exact⟨sl,(hs.2 b (wm (o0 (lc e) (I.ok.cab x c hfn hc)))).trans e1⟩
  ·obtain⟨o',e1⟩:=I.base.there b o e hx;exact⟨o',(hs.2 b (wm (o0 (lc e) (I.ok.cab x c hfn hc)))).trans e1⟩
  ·by_cases hj:j=i
   ·subst hj;rw[hi]at e1;cases e1;rw[wO hiσ]at e2;cases e2
    exact⟨u,r,.inr ⟨.inl hk,c,hc,hc'⟩⟩
   ·rw[pc (xc hj)]at e2;obtain⟨u',r',q⟩:=hl j y v' e1 e2 e3;refine⟨u',r',?_⟩;rcases q with q | ⟨k,c',e,z'⟩
    ·exact .inl q
    ·refine .inr ⟨k,c',e,z'.sameBut hs ?_⟩;rintro rfl;exact hj (mD hN e1 (I.ok.inj _ _ _ e hc▸hi))
  ·by_cases hcc:c'=c
   ·subst hcc;exact⟨_,hc'⟩
   ·obtain⟨w2,z2⟩:=I.cell y c' e;exact⟨w2,z2.sameBut hs hcc⟩
  ·obtain⟨e,n,ne,nf,d⟩:=I.pin p hp;refine⟨(hs.2 p.1 ?_).trans e,n,ne,nf,d⟩;intro q;rw[q,hoc]at e;have q':oc=p.2:=xy e;exact d w' (by rw[<- q'];exact hocd)
theorem mf {M:Bp}{A:wy}{E:bi->bn->Prop}{i:Nat}{x:Str}{v:V}{u:bi}{Q:Unit->bn->Prop}(I:Inv X pins σ H s)(hN:X.N.Nodup)(hi:X.N[i]? = some x)(hx:Loc X.env.scope x)(r:RelV v u)
  (h:∀s',Inv X pins (σ.set i (some v)) H s'->Q () s') (hf:X.fn x=true∨X.env.scope.names.lookup x=some .local:=by first | exact .inl rfl | exact .inr rfl | assumption):nw M A (storeName X.env x u) Q E s :=
 g5 I hN hi hx r (λs' I' _=>h s' I') hf
theorem Inv.call' {s':bn}{ch:List Addr}(I:Inv X pins σ H s)(ho:s'.os=s.os)(u:Un (frs X.stack) ch H H' s.heap s'.heap)(hok:HOk X.prog X.w H' s'.heap)(hg:zT s'.gens)
  (hch:∀b∈ch,(b∈X.ex∨X.s₀.heap.objs.size<=b)/\b≠X.env.locals/\(∀x c,X.env.cells.lookup x=some c->c≠b)/\∀p∈X.pn++pins,p.1≠b):Inv X pins σ H' s':=by
 obtain⟨h',g',d',t',o'⟩:=s';have e:o'=s.os:=ho;subst e;exact I.call (g':=g') (t':=t') (d':=d') u hok hg hch
end
abbrev XK:=bi->Option Addr->Hp->Prop
abbrev St:=List (Option V)
abbrev VK:=V->Hp->Prop
abbrev TE:=St->Hp->VK->Prop
abbrev TT:=St->Hp->(Bool->Hp->Prop)->Prop
abbrev TA:=St->Hp->(List V->Hp->Prop)->Prop
structure Ends where
 nx:St->Hp->Prop
 rt:VK
 bk:St->Hp->Prop:=λ_ _=>False
 ct:St->Hp->Prop:=λ_ _=>False
abbrev TS:=Ends->St->Hp->Prop
def EP (X:Cx)(pins:List (Addr×Obj))(σ:St)(Q:VK)(u:bi)(s':bn):Prop:=∃v H',Inv X pins σ H' s'/\RelV v u/\Q v H'
def TP (X:Cx)(pins:List (Addr×Obj))(σ:St)(Q:Bool->Hp->Prop)(b:Bool)(s':bn):Prop:=∃H',Inv X pins σ H' s'/\Q b H'
def AP (X:Cx)(pins:List (Addr×Obj))(σ:St)(Q:List V->Hp->Prop)(us:List bi)(s':bn):Prop:=∃vs H',Inv X pins σ H' s'/\Vals vs us/\Q vs H'
def SP (X:Cx)(pins:List (Addr×Obj))(D:Ends)(f:Flow)(s':bn):Prop :=
 match f with
 | .next=>∃ σ' H',Inv X pins σ' H' s'/\D.nx σ' H'
 | .brk=>∃ σ' H',Inv X pins σ' H' s'/\D.bk σ' H'
 | .cont=>∃ σ' H',Inv X pins σ' H' s'/\D.ct σ' H'
 | .ret u=>∃v σ' H',Inv X pins σ' H' s'/\RelV v u/\D.rt v H'
def PE (X:Cx)(e:Expr)(t:TE):Prop :=
 ∀(pins:List (Addr×Obj)) (s:bn) (σ:St) (H:Hp) (Q:VK),Inv X pins σ H s->t σ H Q->nw (pp X.prog X.w) X.A (eval e X.env) (EP X pins σ Q) X.xe s
def PT (X:Cx)(e:Expr)(t:TT):Prop :=
 ∀(pins:List (Addr×Obj)) (s:bn) (σ:St) (H:Hp) (Q:Bool->Hp->Prop),Inv X pins σ H s->t σ H Q->nw (pp X.prog X.w) X.A (CG e X.env (eval e X.env)) (TP X pins σ Q) X.xe s
def PW (X:Cx)(e:Expr)(t:TT):Prop :=
 ∀(whole:Sem bi) (pins:List (Addr×Obj)) (s:bn) (σ:St) (H:Hp) (Q:Bool->Hp->Prop),Inv X pins σ H s->t σ H Q->nw (pp X.prog X.w) X.A (CG e X.env whole) (TP X pins σ Q) X.xe s
theorem PW.pt {X:Cx}{e:Expr}{t:TT}(h:PW X e t):PT X e t:=h _
def PA (X:Cx)(es:List Expr)(t:TA):Prop :=
 ∀(pos:Pos) (pins:List (Addr×Obj)) (s:bn) (σ:St) (H:Hp) (Q:List V->Hp->Prop),Inv X pins σ H s->t σ H Q->nw (pp X.prog X.w) X.A (DG (yt pos (wq es X.env))) (AP X pins σ Q) X.xe s
def PS (X:Cx)(st:Stmt)(t:TS):Prop :=
 ∀(pins:List (Addr×Obj)) (s:bn) (σ:St) (H:Hp) (D:Ends),Inv X pins σ H s->t D σ H->nw (pp X.prog X.w) X.A (exec st X.env) (SP X pins D) X.xe s
def PSs (X:Cx)(st:List Stmt)(t:TS):Prop :=
 ∀(pins:List (Addr×Obj)) (s:bn) (σ:St) (H:Hp) (D:Ends),Inv X pins σ H s->t D σ H->nw (pp X.prog X.w) X.A (execs st X.env) (SP X pins D) X.xe s
theorem thn {α:Type}{t:Sem α}{Q Q':α->bn->Prop}{M:Bp}{A:wy}{E:bi->bn->Prop}{s:bn}(h:nw M A t Q E s)(hQ:∀a s,Q a s->Q' a s):nw M A t Q' E s:=wG h hQ λ_ _ x=>x
section
variable {X:Cx}
def tVar (i:Nat):TE:=λσ H Q=>∃v,σ[i]? = some (some v)/\Q v H
def tC (v:V):TE:=λ_ H Q=>Q v H
theorem uD {i:Nat}{x:Str}{pos:Pos}(hN:X.N[i]? = some x)(hv:Vis X.env.scope x)(hd:(x==("__debug__" : Str))=false:=by decide)(hcd:(x==("__classdict__" : Str))=false:=by decide):PE X (.Name x pos) (tVar i):=by
 intro pins s σ H Q I h;obtain⟨v,e,h⟩:=h;obtain⟨m,hn,hl⟩:=I.loc;obtain⟨u,r,l⟩:=hl i x v hN e hv;have fin:EP X pins σ Q u s:=⟨v,H,I,r,h⟩
 rcases l with⟨hk,hm⟩ | ⟨hk,c,hc,hcell⟩
 ·exact Ds (wpAny_loadName_local I.ok.kind hk hn hm fin) hd
 ·rcases hk with hk | hk
  ·exact Ds (wpAny_loadName_cell I.ok.kind hk hc hcell fin) hd
  ·exact Ds (wpAny_loadName_free I.ok.kind hk hc hcell fin hcd) hd
theorem aG {i j pos}:PE X (.Constant (.int i) j pos) (tC (.int i)):=λ_ _ _ H _ I h=>wpAny_Constant_int ⟨.int i,H,I.tok _,⟨_,rfl⟩,h⟩
theorem dB {b j pos}:PE X (.Constant (.bool b) j pos) (tC (.bl b)):=λ_ _ _ H _ I h=>Constant_bool ⟨.bl b,H,I,rfl,h⟩
theorem kr {j pos}:PE X (.Constant .none j pos) (tC .non):=λ_ _ _ H _ I h=>Constant_none ⟨.non,H,I,rfl,h⟩
theorem cp {x j pos}:PE X (.Constant (.str x) j pos) (tC (.str x)):=λ_ _ _ H _ I h=>Calls.Constant_str ⟨.str x,H,I.tok _,⟨_,rfl⟩,h⟩
def Gl (X:Cx)(x:Str):Prop:=X.env.kindOf x=some .globalImplicit
theorem eE {E:bi->bn->Prop}{pins:List (Addr×Obj)}{s:bn}{σ:St}{H:Hp}{x:Str}{u:bi}{pos:Pos}{Q:bi->bn->Prop}(I:Inv X pins σ H s)(hg:Gl X x)(hm:X.mg x=some u)(h:Q u s)
  (hd:(x==("__debug__" : Str))=false:=by decide):nw (pp X.prog X.w) X.A (eval (.Name x pos) X.env) Q E s :=
 Bs I.ok.kind hg (Calls.loadGlobal_global (by rw[I.ok.glob];exact I.mod.glob.keeps I.bk) hm h) hd
theorem eF {E:bi->bn->Prop}{pins:List (Addr×Obj)}{s:bn}{σ:St}{H:Hp}{x:Str}{u:bi}{pos:Pos}{Q:bi->bn->Prop}(I:Inv X pins σ H s)(hg:Gl X x)(hm:X.mg x=none)(hv:xr x=some u)(h:Q u s)
  (hn:x ≠ "__name__" := by decide) (hd:(x==("__debug__" : Str))=false:=by decide):nw (pp X.prog X.w) X.A (eval (.Name x pos) X.env) Q E s:=by
 obtain⟨mb,h1,h2⟩:=I.mod.blt;exact Bs I.ok.kind hg (Calls.loadGlobal_builtin (by rw[I.ok.glob];exact I.mod.glob.keeps I.bk) hm (by rw[I.ok.blt];exact h1.keeps I.bk) ((h2 x hn).trans hv) h) hd
theorem cT {x:Str}{v:V}{u:bi}{pos:Pos}(hg:Gl X x)(hm:X.mg x=some u)(r:RelV v u)(hd:(x==("__debug__" : Str))=false:=by decide):PE X (.Name x pos) (tC v) :=
 λ_ _ _ H _ I h=>eE I hg hm ⟨v,H,I,r,h⟩ hd
theorem sI {x:Str}{v:V}{u:bi}{pos:Pos}(hg:Gl X x)(hm:X.mg x=none)(hv:xr x=some u)(r:RelV v u)(hn:x ≠ "__name__" := by decide)(hd:(x==("__debug__" : Str))=false:=by decide):PE X (.Name x pos) (tC v) :=
 λ_ _ _ H _ I h=>eF I hg hm hv ⟨v,H,I,r,h⟩ hn hd
variable {a b:Expr}{ta tb:TE}{pos:Pos}
def PC (X:Cx)(op:CmpOp)(a b:Expr)(t:TE):Prop :=
 ∀(pins:List (Addr×Obj)) (s:bn) (σ:St) (H:Hp) (Q:VK),Inv X pins σ H s->t σ H Q ->
  nw (pp X.prog X.w) X.A (eval a X.env) (λv s₁=>nw (pp X.prog X.w) X.A (eval b X.env) (λu s₂=>nw (pp X.prog X.w) X.A (yH op v u) (EP X pins σ Q) X.xe s₂) X.xe s₁) X.xe s
def tB (t:TE):TT:=λσ H Q=>t σ H λx H1=>∃c,x = .bl c/\Q c H1
theorem uy {op:CmpOp}{t:TE}(h:PC X op a b t)(h1:AR op b=false:=by first | exact nobehind _ (by decide) (by decide) | rfl):PT X (.Compare a [op] [b] pos) (tB t):=by
 intro pins s σ H Q I hw;refine CY (thn (h pins s σ H _ I hw) λv s1 h1=>thn h1 λu s2 h2=>thn h2 λc s3 ⟨x,H1,I1,r1,q1⟩=>?_) h1;obtain⟨d,rfl,q⟩:=q1;cases r1
 exact Bf ⟨H1,I1,q⟩
variable {tA tB':TT}{rest:List Expr}
def tAnd (t u:TT):TT:=λσ H Q=>t σ H λc H1=>if c=true then u σ H1 Q else Q false H1
def tOr (t u:TT):TT:=λσ H Q=>t σ H λc H1=>if c=true then Q true H1 else u σ H1 Q
def tNot (t:TT):TT:=λσ H Q=>t σ H λc H1=>Q (!c) H1
theorem sx (ha:PT X a tA):PW X (.BoolOp .And [a] pos) tA:=by
 intro wh pins s σ H Q I h;refine isTrue_and (thn (ha pins s σ H Q I h) λc s1 e=>?_);cases c with
 | true=>exact isTrue_and_nil e
 | false=>exact e
theorem km (ha:PT X a tA):PW X (.BoolOp .Or [a] pos) tA:=by
 intro wh pins s σ H Q I h;refine isTrue_or (thn (ha pins s σ H Q I h) λc s1 e=>?_);cases c with
 | false=>exact isTrue_or_nil e
 | true=>exact e
theorem ux (ha:PT X a tA)(hb:PW X (.BoolOp .And (b::rest) pos) tB'):PW X (.BoolOp .And (a::b::rest) pos) (tAnd tA tB'):=by
 intro wh pins s σ H Q I h;refine isTrue_and (thn (ha pins s σ H _ I h) λc s1 ⟨H1,I1,q1⟩=>?_);cases c with
 | true=>exact hb wh pins s1 σ H1 Q I1 q1
 | false=>exact⟨H1,I1,q1⟩
theorem oO (ha:PT X a tA)(hb:PW X (.BoolOp .Or (b::rest) pos) tB'):PW X (.BoolOp .Or (a::b::rest) pos) (tOr tA tB'):=by
 intro wh pins s σ H Q I h;refine isTrue_or (thn (ha pins s σ H _ I h) λc s1 ⟨H1,I1,q1⟩=>?_);cases c with
 | true=>exact⟨H1,I1,q1⟩
 | false=>exact hb wh pins s1 σ H1 Q I1 q1
theorem oQ (ha:PT X a tA):PT X (.UnaryOp .Not a pos) (tNot tA):=by
 intro pins s σ H Q I h;exact isTrue_not (ha pins s σ H (λc H1=>Q (!c) H1) I h)
end
def SqL (K:ac)(H:Hp)(a:Addr)(xs:List V):Prop :=
 Rd H a (.lst xs) ∨
  ∃(o:Obj) (its:Array bi) (n:Nat),K.lookup a=some o/\o.cls = .type "list" /\ o.dict=none/\o.data = .seq its n/\its.size<=v5/\Vals xs its.toList
def SqT (K:ac)(H:Hp)(a:Addr)(xs:List V):Prop :=
 Rd H a (.tup xs) ∨
  ∃(o:Obj) (its:Array bi) (n:Nat),K.lookup a=some o/\o.cls = .type "tuple" /\ o.data = .seq its n/\its.size<=v5/\Vals xs its.toList
def absV:bi->Option V
 | .none=>some .non
 | .bool b=>some (.bl b)
 | .int i _=>some (.int i)
 | .str x _=>some (.str x)
 | .bytes b _=>some (.byt b)
 | .float b _=>some (.flt b)
 | .ref a=>some (.ref a)
 | .type n=>some (.ty n)
 | _=>none
theorem RelV.abs {x:V}{u:bi}(r:RelV x u):absV u=some x:=by
 cases x with
 | non=>cases r;rfl
 | bl _=>cases r;rfl
 | int _=>obtain⟨t,rfl⟩:=r;rfl
 | str _=>obtain⟨t,rfl⟩:=r;rfl
 | byt _=>obtain⟨t,rfl⟩:=r;rfl
 | flt _=>obtain⟨t,rfl⟩:=r;rfl
 | ref _=>cases r;rfl
 | ty _=>cases r;rfl
theorem RelV.inj {x y:V}{u:bi}(r:RelV x u)(q:RelV y u):x=y:=xy (r.abs.symm.trans q.abs)
theorem Vals.inj:∀ {xs ys:List V} {us:List bi},Vals xs us->Vals ys us->xs=ys
 | _,_,_,.nil,.nil=>rfl
 | _,_,_,.cons r t,.cons r' t'=>by rw[r.inj r',Vals.inj t t']
section
variable {X:Cx}{pins:List (Addr×Obj)}{σ:St}{H:Hp}{s:bn}{a:Addr}{xs ys:List V}
theorem SqL.of {K:ac}(h:H a=some (.lst xs)):SqL K H a xs:=.inl (.inl h)
theorem SqT.of {K:ac}(h:H a=some (.tup xs)):SqT K H a xs:=.inl (.inl h)
theorem Inv.list (I:Inv X pins σ H s)(h:SqL X.K H a xs):∃its:List bi,Vals xs its/\PlainL s.heap a its.toArray/\xs.length<=v5:=by
 rcases h with h | ⟨o,its,n,hk,hc,hd,hs,hz,r⟩
 ·obtain⟨z,its,n,r,e⟩:=h.ok I.hok;exact⟨its,r,⟨_,n,e,rfl,rfl,rfl⟩,z⟩
 ·refine⟨its.toList,r,⟨o,n,I.kIn a o hk,hc,hd,by simpa using hs⟩,?_⟩;have e:=r.length;simp only[zc]at e;omega
theorem Inv.tuple (I:Inv X pins σ H s)(h:SqT X.K H a xs):∃its:List bi,Vals xs its/\IsTup s.heap a its.toArray/\xs.length<=v5:=by
 rcases h with h | ⟨o,its,n,hk,hc,hs,hz,r⟩
 ·obtain⟨z,its,r,p⟩:=h.ok I.hok;exact⟨its,r,p,z⟩
 ·refine⟨its.toList,r,⟨o,I.kIn a o hk,hc,n,by simpa using hs⟩,?_⟩;have e:=r.length;simp only[zc]at e;omega
theorem Inv.list_inj (I:Inv X pins σ H s)(h:SqL X.K H a xs)(h':SqL X.K H a ys):xs=ys:=by
 obtain⟨its,r,⟨o,n,e,_,_,d⟩,_⟩:=I.list h;obtain⟨its',r',⟨o',n',e',_,_,d'⟩,_⟩:=I.list h';rw[e]at e';cases e';rw[d]at d';injection d' with d1 _;have:its=its':=by simpa using congrArg DD d1
 subst this;exact r.inj r'
theorem Inv.tuple_inj (I:Inv X pins σ H s)(h:SqT X.K H a xs)(h':SqT X.K H a ys):xs=ys:=by
 obtain⟨its,r,⟨o,e,_,n,d⟩,_⟩:=I.tuple h;obtain⟨its',r',⟨o',e',_,n',d'⟩,_⟩:=I.tuple h';rw[e]at e';cases e';rw[d]at d';injection d' with d1 _;have:its=its':=by simpa using congrArg DD d1
 subst this;exact r.inj r'
end
abbrev Cx.wish (X:Cx)(E:bi->bn->Prop):Cx:={X with xe:=E}
abbrev Cx.nox (X:Cx):Cx:=X.wish λ_ _=>False
theorem Cx.Ok.wish {X:Cx}(ok:X.Ok)(E:bi->bn->Prop):(X.wish E).Ok :=
 ⟨ok.mod,ok.kind,ok.glob,ok.blt,ok.above,ok.inj,ok.has,ok.cab,ok.hd,ok.frames,ok.stk,ok.exf,ok.bs,ok.bsz,ok.noex,ok.exfs,ok.funs,ok.frf⟩
theorem Cx.Ok.unwish {X:Cx}{E:bi->bn->Prop}(ok:(X.wish E).Ok):X.Ok :=
 ⟨ok.mod,ok.kind,ok.glob,ok.blt,ok.above,ok.inj,ok.has,ok.cab,ok.hd,ok.frames,ok.stk,ok.exf,ok.bs,ok.bsz,ok.noex,ok.exfs,ok.funs,ok.frf⟩
section
variable {X:Cx}{pins:List (Addr×Obj)}{σ:St}{H:Hp}{s:bn}{E:bi->bn->Prop}
theorem Inv.wish (I:Inv X pins σ H s)(E:bi->bn->Prop):Inv (X.wish E) pins σ H s:=⟨I.ok.wish E,I.os,I.bare,I.base,I.loc,I.cell,I.free,I.freeC,I.pin,I.hok,I.len⟩
theorem Inv.unwish (I:Inv (X.wish E) pins σ H s):Inv X pins σ H s:=⟨I.ok.unwish,I.os,I.bare,I.base,I.loc,I.cell,I.free,I.freeC,I.pin,I.hok,I.len⟩
theorem SP.unwish {D:Ends}{f:Flow}{s':bn}(h:SP (X.wish E) pins D f s'):SP X pins D f s':=by
 cases f with
 | next=>obtain⟨σ',H',I,q⟩:=h;exact⟨σ',H',I.unwish,q⟩
 | brk=>obtain⟨σ',H',I,q⟩:=h;exact⟨σ',H',I.unwish,q⟩
 | cont=>obtain⟨σ',H',I,q⟩:=h;exact⟨σ',H',I.unwish,q⟩
 | ret u=>obtain⟨v,σ',H',I,r,q⟩:=h;exact⟨v,σ',H',I.unwish,r,q⟩
theorem PE.nox {e:Expr}{t:TE}(h:PE X.nox e t):PE X e t:=λpins s σ H Q I hw =>
 wG (h pins s σ H Q (I.wish _) hw) (λ_ _ ⟨v,H',I',r,q⟩=>⟨v,H',I'.unwish,r,q⟩) λ_ _ z=>wD z
theorem PT.nox {e:Expr}{t:TT}(h:PT X.nox e t):PT X e t:=λpins s σ H Q I hw =>
 wG (h pins s σ H Q (I.wish _) hw) (λ_ _ ⟨H',I',q⟩=>⟨H',I'.unwish,q⟩) λ_ _ z=>wD z
theorem PSs.nox {st:List Stmt}{t:TS}(h:PSs X.nox st t):PSs X st t:=λpins s σ H D I hw =>
 wG (h pins s σ H D (I.wish _) hw) (λ_ _ q=>q.unwish) λ_ _ z=>wD z
end
section
variable {X:Cx}{st:Stmt}{rest:List Stmt}{t u:TS}{e:Expr}{te:TE}{pos:Pos}
def tNext:TS:=λD σ H=>D.nx σ H
def tSeq (t u:TS):TS:=λD σ H=>t {D with nx:=u D} σ H
theorem bY:PSs X [] tNext:=λ_ _ σ H _ I h=>yS ⟨σ,H,I,h⟩
theorem aA (h1:PS X st t)(h2:PSs X rest u):PSs X (st::rest) (tSeq t u):=by
 intro pins s σ H D I h;refine z8 (thn (h1 pins s σ H {D with nx:=u D} I h) λf s1 q=>?_);cases f with
 | next =>
  obtain⟨σ',H',I',q⟩:=q;exact h2 pins s1 σ' H' D I' q
 | ret v=>exact q
 | brk=>exact q
 | cont=>exact q
theorem aV (h1:PS X st t):PSs X [st] t:=by
 intro pins s σ H D I h;refine z8 (thn (h1 pins s σ H D I h) λf s1 q=>?_);cases f with
 | next=>exact yS q
 | ret v=>exact q
 | brk=>exact q
 | cont=>exact q
theorem Inv.quiet {pins:List (Addr×Obj)}{σ:St}{H:Hp}{s:bn}(I:Inv X pins σ H s):interactive X.env=false:=by simp[interactive,I.ok.kind]
def rZ (te:TE):TS:=λD σ H=>te σ H λ_ H1=>D.nx σ H1
theorem bM (he:PE X e te)(hs:zd e none pos.line X.env=pure false:=by rfl):PS X (.Expr e pos) (rZ te):=by
 intro pins s σ H D I h;exact wpAny_Expr_any (thn (he pins s σ H _ I h) λv s1 ⟨x,H1,I1,r1,q1⟩=>⟨σ,H1,I1,q1⟩) I.quiet hs
def tRet (te:TE):TS:=λD σ H=>te σ H D.rt
theorem cm (he:PE X e te):PS X (.Return (some e) pos) (tRet te):=by
 intro pins s σ H D I h;exact wpAny_Return_some (thn (he pins s σ H _ I h) λv s1 ⟨x,H1,I1,r1,q1⟩=>⟨x,σ,H1,I1,r1,q1⟩)
def tIfS (c:TT)(t u:TS):TS:=λD σ H=>c σ H λb H1=>if b=true then t D σ H1 else u D σ H1
theorem eh {c:Expr}{a b:List Stmt}{tc:TT}(hc:PT X c tc)(ha:PSs X a t)(hb:PSs X b u):PS X (.If c a b pos) (tIfS tc t u):=by
 intro pins s σ H D I h;refine wpAny_If (thn (hc pins s σ H _ I h) λd s1 ⟨H1,I1,q1⟩=>?_);cases d with
 | true=>exact ha pins s1 σ H1 D I1 q1
 | false=>exact hb pins s1 σ H1 D I1 q1
def tNever:TS:=λ_ _ _=>False
theorem jG:PS X st tNever:=λ_ _ _ _ _ _ h=>h.elim
end
abbrev TG:=V->St->Hp->(St->Hp->Prop)->Prop
abbrev TGs:=List V->St->Hp->(St->Hp->Prop)->Prop
def PG (X:Cx)(target:Expr)(t:TG):Prop :=
 ∀(pins:List (Addr×Obj)) (s:bn) (σ:St) (H:Hp) (v:V) (u:bi) (Q:St->Hp->Prop),Inv X pins σ H s->RelV v u->t v σ H Q ->
  nw (pp X.prog X.w) X.A (zV target X.env u) (λ_ s'=>∃ σ' H',Inv X pins σ' H' s'/\Q σ' H') X.xe s
def PGs (X:Cx)(ts:List Expr)(t:TGs):Prop :=
 ∀(pins:List (Addr×Obj)) (s:bn) (σ:St) (H:Hp) (vs:List V) (us:List bi) (Q:St->Hp->Prop),Inv X pins σ H s->Vals vs us->t vs σ H Q ->
  nw (pp X.prog X.w) X.A (assignInOrder ((zh ts X.env).map (·.2)) us) (λ_ s'=>∃ σ' H',Inv X pins σ' H' s'/\Q σ' H') X.xe s
section
variable {X:Cx}{pos:Pos}
def pK (i:Nat):TG:=λv σ H Q=>Q (σ.set i (some v)) H
theorem aS {i:Nat}{x:Str}(hN:X.N.Nodup)(hi:X.N[i]? = some x)(hx:Loc X.env.scope x)(hf:X.fn x=true∨X.env.scope.names.lookup x=some .local:=by first | exact .inl rfl | exact .inr rfl | assumption):PG X (.Name x pos) (pK i):=by
 intro pins s σ H v u Q I r h;exact DF (mf I hN hi hx r (λs' I'=>⟨_,H,I',h⟩) hf)
def gNil:TGs:=λvs σ H Q=>vs=[]/\Q σ H
def u6 (t:TG)(u:TGs):TGs:=λvs σ H Q=>∃v r,vs=v::r/\t v σ H λσ' H'=>u r σ' H' Q
theorem cD:PGs X [] gNil:=by
 intro pins s σ H vs us Q I r h;obtain⟨e,h⟩:=h;subst e;cases r
 exact assignInOrder_nil ⟨σ,H,I,h⟩
theorem aY {e:Expr}{es:List Expr}{t:TG}{u:TGs}(h1:PG X e t)(h2:PGs X es u)
  (hs:(zh (e::es) X.env).map (·.2)=zV e X.env::(zh es X.env).map (·.2):=by rfl):PGs X (e::es) (u6 t u):=by
 intro pins s σ H vs us Q I r h;obtain⟨v,vr,e1,h⟩:=h;subst e1;cases r with
 | cons r rr =>
  rw[hs];refine assignInOrder_cons (thn (h1 pins s σ H _ _ _ I r h) λ_ s1 ⟨σ1,H1,I1,q1⟩=>?_);exact h2 pins s1 σ1 H1 _ _ Q I1 rr q1
def gTup (K:ac)(n:Nat)(t:TGs):TG:=λv σ H Q=>∃a xs,v = .ref a/\SqT K H a xs/\xs.length=n/\t xs σ H Q
theorem uA {es:List Expr}{k:Nat}{t:TGs}{n:Nat}(hc:X.calm=true)(h:PGs X es t)
  (hn:(zh es X.env).length=n:=by rfl) (hst:(zh es X.env).findIdx? (·.1)=none:=by rfl):PG X (.Tuple es k pos) (gTup X.K n t):=by
 intro pins s σ H v u Q I r hw;obtain⟨a,xs,e1,hq,hl,hw⟩:=hw;subst e1;cases r
 obtain⟨its,rv,ht,hz⟩:=I.tuple hq;refine assign_Tuple_tuple (I.ok.hd hc) ht (by simp[hn,<- hl,rv.length]) hst λh' hx=>?_;have I1:Inv X pins σ H {s with heap:=h'}:=I.kept (t':=s.toks) λb o e=>hx b o (wm (lc e)) e;exact h pins _ σ H xs _ Q I1 (by simpa using rv) hw
def tAsg (te:TE)(g:TG):TS:=λD σ H=>te σ H λx H1=>g x σ H1 D.nx
theorem i5 {tg e:Expr}{te:TE}{g:TG}(he:PE X e te)(hg:PG X tg g)(hs:swapsWithSole [tg] e pos.line X.env=pure false:=by rfl)(hw:swappedStores [tg] e X.env=pure none:=by rfl)
  (h1:(zh [tg] X.env).map (·.2)=[zV tg X.env]:=by rfl):PS X (.Assign [tg] e pos) (tAsg te g):=by
 intro pins s σ H D I h;refine wpAny_Assign_stores (thn (he pins s σ H _ I h) λv s1 ⟨x,H1,I1,r1,q1⟩=>?_) hs hw;rw[h1];exact thn (hg pins s1 σ H1 x v _ I1 r1 q1) λ_ s2 q=>q
theorem a_ {i:Nat}{x:Str}{e:Expr}{te:TE}{pos':Pos}(hN:X.N.Nodup)(hi:X.N[i]? = some x)(hx:Loc X.env.scope x)(he:PE X e te)(hs:zd e (some (.Name x pos')) pos.line X.env=pure false:=by rfl)(hf:X.fn x=true∨X.env.scope.names.lookup x=some .local:=by first | exact .inl rfl | exact .inr rfl | assumption) :
  PS X (.Assign [.Name x pos'] e pos) (tAsg te (pK i)):=by
 intro pins s σ H D I h;refine Bi (thn (he pins s σ H _ I h) λv s1 ⟨y,H1,I1,r1,q1⟩=>?_) hs;exact mf I1 hN hi hx r1 (λs2 I2=>⟨_,H1,I2,q1⟩) hf
end
structure It where
 go:Nat->Hp->Prop
 yld:Nat->Hp->V->Hp->Prop
 stop:Nat->Hp->Prop
def FpOk (X:Cx)(pins:List (Addr×Obj))(H:Hp)(b:Addr):Prop :=
 H b=none/\b≠X.env.locals/\b∉X.fs/\(b∈X.ex∨X.s₀.heap.objs.size<=b)/\(∀x c,X.env.cells.lookup x=some c->c≠b)/\∀p∈X.pn++pins,p.1≠b
theorem Inv.fpOk {X:Cx}{pins:List (Addr×Obj)}{σ:St}{H H':Hp}{s:bn}{b:Addr}(I:Inv X pins σ H s)(hb:s.heap.objs.size<=b)(hn:H' b=none):FpOk X pins H' b:=by
 refine⟨hn,wM (o0 I.lt hb),I.nofs hb,.inr (wo I.sz hb),λx c e z=>?_,λp hp z=>?_⟩
 ·obtain⟨v,q⟩:=I.cell x c e;exact absurd (o0 q.lt (by rw[z];exact hb)) (xS _)
 ·exact absurd (o0 (lc (I.pin p hp).1) (by rw[z];exact hb)) (xS _)
structure Turn (P:v3)(w:wz)(K:ac)(tg:Expr)(J:It)(fp:List Addr)(it:Addr)(tn:Nat->Heap->Prop):Prop where
 mem:it∈fp
 obj:∀i h,tn i h->∀b∈fp,∃o,h.get? b=some o/\∀v,o.data ≠ .cell v
 keep:∀i h h',tn i h->(∀b∈fp,∀o,h.get? b=some o->h'.get? b=some o)->tn i h'
 item:∀(X:Cx),X.prog=P->X.w=w->X.K=K->X.calm=true->∀(i:Nat) (pins:List (Addr×Obj)) (s:bn) (σ:St) (H:Hp) (E:bi->bn->Prop),Inv X pins σ H s->(∀b∈fp,FpOk X pins H b)->tn i s.heap->J.go i H ->
  nw (pp P w) X.A (Ax (.ref it)) (λr s1=>∃u,r=some u /\
   nw (pp P w) X.A (zA tg (.ref it) u) (λ_ s2=>∃x H',Inv X pins σ H' s2/\RelV x u/\J.yld i H x H'/\tn (i+1) s2.heap/\∀b∈fp,H' b=none) E s1) E s
 done:∀(X:Cx),X.prog=P->X.w=w->X.K=K->X.calm=true->∀(i:Nat) (pins:List (Addr×Obj)) (s:bn) (σ:St) (H:Hp) (E:bi->bn->Prop),Inv X pins σ H s->(∀b∈fp,FpOk X pins H b)->tn i s.heap->J.stop i H ->
  nw (pp P w) X.A (Ax (.ref it)) (λr s1=>r=none/\Inv X pins σ H s1) E s
 self:∀(A:wy) (i:Nat) (s:bn) (Q:bi->bn->Prop) (E:bi->bn->Prop),tn i s.heap->Q (.ref it) s->nw (pp P w) A (pyIter (.ref it)) Q E s
abbrev TI:=St->Hp->(It->Hp->Prop)->Prop
def PIE (X:Cx)(pins:List (Addr×Obj))(σ:St)(tg:Expr)(R:It->Hp->Prop)(itv:bi)(s2:bn):Prop :=
 ∃(it:Addr) (fp:List Addr) (tn:Nat->Heap->Prop) (J:It) (H':Hp),itv = .ref it/\Inv X pins σ H' s2/\Turn X.prog X.w X.K tg J fp it tn/\tn 0 s2.heap/\(∀b∈fp,FpOk X pins H' b)/\R J H'
def PI (X:Cx)(tg iter:Expr)(wi:TI):Prop :=
 ∀(pins:List (Addr×Obj)) (s:bn) (σ:St) (H:Hp) (R:It->Hp->Prop),Inv X pins σ H s->wi σ H R ->
  nw (pp X.prog X.w) X.A (eval iter X.env) (λv s1=>nw (pp X.prog X.w) X.A (pyIter v) (PIE X pins σ tg R) X.xe s1) X.xe s
theorem pI {M:Bp}{A:wy}{E:bi->bn->Prop}{s:bn}{tg:Expr}{it:Addr}{u:bi}{o:Obj}{n:String}{vs:Array bi}{Q:Unit->bn->Prop}(ho:s.heap.get? it=some o)(hc:o.cls = .type n)(hd:o.data = .fields vs)
  (hn:["enumerate", "zip", "dict_itemiterator", "dict_reverseitemiterator", "odict_iterator", "itertools.zip_longest", "itertools.pairwise"].contains n=false) (hQ:Q () s):nw M A (zA tg (.ref it) u) Q E s:=by
 unfold zA;cases tg <;> first
  | exact lw hQ
  | (cases u <;> first
    | exact lw hQ
    | (refine bd (wpAny_load ho ?_);rw[hc,hd];show nw M A (if(["enumerate", "zip", "dict_itemiterator", "dict_reverseitemiterator", "odict_iterator", "itertools.zip_longest", "itertools.pairwise"].contains n&&vs[0]? == some (wK _))=true then _ else _) Q E s;rw[if_neg (by intro h;rw[hn,Bool.false_and]at h;cases h)];exact lw hQ))
def Itl (K:ac)(a:Addr):It :=
 ⟨λi H=>∃xs x,SqL K H a xs/\xs[i]? = some x,λi H x H'=>H'=H/\∀xs,SqL K H a xs->xs[i]? = some x,λi H=>∃xs,SqL K H a xs/\xs.length<=i⟩
def Itt (K:ac)(a:Addr):It :=
 ⟨λi H=>∃xs x,SqT K H a xs/\xs[i]? = some x,λi H x H'=>H'=H/\∀xs,SqT K H a xs->xs[i]? = some x,λi H=>∃xs,SqT K H a xs/\xs.length<=i⟩
def Itr (lo:Int)(n:Nat):It:=⟨λi _=>i<n,λi H x H'=>H'=H/\x = .int (lo+i),λi _=>n<=i⟩
theorem n6 {P:v3}{w:wz}{K:ac}{tg:Expr}(a it:Addr):Turn P w K tg (Itl K a) [it] it (λi h=>h.IsListIter it a i) where
 mem:=by simp
 obj:=λi h st b hb=>by
  have e:b=it:=by simpa using hb
  subst e;obtain⟨o,e,c,d⟩:=st;exact⟨o,e,λv z=>by rw[d]at z;cases z⟩
 keep:=λi h h' st k=>st.at λo e=>k it (by simp) o e
 item:=by
  intro X hP hw hK hc i pins s σ H E I hf st hg;subst hP hw hK;obtain⟨xs,x,hq,hx⟩:=hg;obtain⟨its,rv,p,hz⟩:=I.list hq;obtain⟨u,hu,ru⟩:=rv.get hx;obtain⟨f0,f1,f2,f3,f4,f5⟩:=hf it (by simp);refine wpAny_pyNext_list_item st p.isList (x:=u) (by simpa using hu) λh' st' sb=>?_;have I1:Inv X pins σ H {s with heap:=h'}:=I.turned (t':=s.toks) (λb o hb e=>(sb.2 b hb).trans e) f0 f1 f3 f4 f5;obtain⟨o,e,c,d⟩:=id st';exact⟨u,rfl,pI (s:={s with heap:=h'}) e c d (by decide) ⟨x,H,I1,ru,⟨rfl,λys hy=>by rw[I.list_inj hy hq];exact hx⟩,st',λb hb=>(hf b hb).1⟩⟩
 done:=by
  intro X hP hw hK hc i pins s σ H E I hf st hg;subst hP hw hK;obtain⟨xs,hq,hx⟩:=hg;obtain⟨its,rv,p,hz⟩:=I.list hq;obtain⟨f0,f1,f2,f3,f4,f5⟩:=hf it (by simp);have hl:=rv.length;exact wpAny_pyNext_list_end (I.ok.hd hc) st p.isList (by simp;omega) λh' eb=>⟨rfl,I.turned (t':=s.toks) (λb o hb e=>eb b o hb e) f0 f1 f3 f4 f5⟩
 self:=λ_ _ _ _ _ st h=>wpAny_pyIter_listiter st h
theorem mY {P:v3}{w:wz}{K:ac}{tg:Expr}(a it:Addr):Turn P w K tg (Itt K a) [it] it (λi h=>h.IsTupleIter it a i) where
 mem:=by simp
 obj:=λi h st b hb=>by
  have e:b=it:=by simpa using hb
  subst e;obtain⟨o,e,c,d⟩:=st;exact⟨o,e,λv z=>by rw[d]at z;cases z⟩
 keep:=λi h h' st k=>st.at λo e=>k it (by simp) o e
 item:=by
  intro X hP hw hK hc i pins s σ H E I hf st hg;subst hP hw hK;obtain⟨xs,x,hq,hx⟩:=hg;obtain⟨its,rv,p,hz⟩:=I.tuple hq;obtain⟨u,hu,ru⟩:=rv.get hx;obtain⟨f0,f1,f2,f3,f4,f5⟩:=hf it (by simp);refine wpAny_pyNext_tuple_item st (show s.heap.IsTuple a its.toArray from p) (x:=u) (by simpa using hu) λh' st' sb=>?_;have I1:Inv X pins σ H {s with heap:=h'}:=I.turned (t':=s.toks) (λb o hb e=>(sb.2 b hb).trans e) f0 f1 f3 f4 f5;obtain⟨o,e,c,d⟩:=id st';exact⟨u,rfl,pI (s:={s with heap:=h'}) e c d (by decide) ⟨x,H,I1,ru,⟨rfl,λys hy=>by rw[I.tuple_inj hy hq];exact hx⟩,st',λb hb=>(hf b hb).1⟩⟩
 done:=by
  intro X hP hw hK hc i pins s σ H E I hf st hg;subst hP hw hK;obtain⟨xs,hq,hx⟩:=hg;obtain⟨its,rv,p,hz⟩:=I.tuple hq;obtain⟨f0,f1,f2,f3,f4,f5⟩:=hf it (by simp);have hl:=rv.length;exact wpAny_pyNext_tuple_end (I.ok.hd hc) st (show s.heap.IsTuple a its.toArray from p) (by simp;omega) λh' eb=>⟨rfl,I.turned (t':=s.toks) (λb o hb e=>eb b o hb e) f0 f1 f3 f4 f5⟩
 self:=λ_ _ _ _ _ st h=>wpAny_pyIter_tupleiter st h
theorem mZ {P:v3}{w:wz}{K:ac}{tg:Expr}(it:Addr)(lo:Int)(n:Nat):Turn P w K tg (Itr lo n) [it] it (λi h=>AC h it (lo+(i:Nat)*1) ((n:Int) - (i:Nat)) 1) where
 mem:=by simp
 obj:=λi h st b hb=>by
  have e:b=it:=by simpa using hb
  subst e;exact⟨_,st,λv z=>by
   have z':Data.fields _=Data.cell v:=z;cases z'⟩
 keep:=λi h h' st k=>k it (by simp) _ st
 item:=by
  intro X hP hw hK hc i pins s σ H E I hf st hg;subst hP hw hK;obtain⟨f0,f1,f2,f3,f4,f5⟩:=hf it (by simp);have W:=DK (prog:=X.prog) (w:=X.w) (I.ok.hd hc) it lo 1 n;refine W.item i s _ _ hg st λv h' tk hv st' kk=>?_;obtain⟨t,rfl⟩:=hv;have I1:Inv X pins σ H {s with heap:=h',toks:=tk}:=I.turned (λb o hb e=>kk b o (by simpa using hb) e) f0 f1 f3 f4 f5;refine⟨_,rfl,pI (s:={s with heap:=h',toks:=tk}) (n := "range_iterator") st' rfl rfl (by decide) ⟨.int (lo+i),H,I1,⟨t,?_⟩,⟨rfl,rfl⟩,st',λb hb=>(hf b hb).1⟩⟩;rw[Int.mul_one]
 done:=by
  intro X hP hw hK hc i pins s σ H E I hf st hg;subst hP hw hK;obtain⟨f0,f1,f2,f3,f4,f5⟩:=hf it (by simp);exact CC (I.ok.hd hc) st (by have:n<=i:=hg;omega) λh' eb=>⟨rfl,I.turned (t':=s.toks) (λb o hb e=>eb b o hb e) f0 f1 f3 f4 f5⟩
 self:=λ_ _ _ _ _ st h=>Ab st h
section
variable {X:Cx}{tg:Expr}
theorem qu {pins:List (Addr×Obj)}{σ:St}{H:Hp}{s:bn}{R:It->Hp->Prop}{E:bi->bn->Prop}{lo hi:Int}{t u v:Tok}{tk:Nat}(I:Inv X pins σ H s)(h1:-(2^62)<=lo)(h2:lo<2^62)(h3:-(2^62)<=hi)(h4:hi<2^62)
  (q:R (Itr lo (hi - lo).toNat) H):nw (pp X.prog X.w) X.A (pyIter (.ref s.heap.objs.size)) (PIE X pins σ tg R) E {s with heap:=s.heap.push {cls:=.type "range",data:=.fields #[.int lo t,.int hi u,.int 1 v]},toks:=tk}:=by
 refine Dr (BH ..) (small_one h1 h2 h3 h4) ?_;have I1:Inv X pins σ H {s with heap:=s.heap.push {cls:=.type "range",data:=.fields #[.int lo t,.int hi u,.int 1 v]},toks:=tk}:=I.kept λb o e=>bv _ e;refine⟨(s.heap.push {cls:=.type "range",data:=.fields #[.int lo t,.int hi u,.int 1 v]}).objs.size,[(s.heap.push {cls:=.type "range",data:=.fields #[.int lo t,.int hi u,.int 1 v]}).objs.size],_,_,H,rfl,
  I1.kept (t':=tk) λb o e=>bv _ e,mZ _ lo (hi - lo).toNat,?_,λb hb=>?_,q⟩
 ·have e1:lo+((0:Nat):Int)*1=lo:=by simp
  have e2:(((hi - lo).toNat:Nat):Int) - ((0:Nat):Int)=xt lo hi 1:=by rw[rangeSize_one];split <;> omega
  show AC _ _ (lo+((0:Nat):Int)*1) ((((hi - lo).toNat:Nat):Int) - ((0:Nat):Int)) 1;rw[e1,e2];exact wa _ rfl
 ·have e:b=(s.heap.push {cls:=.type "range",data:=.fields #[.int lo t,.int hi u,.int 1 v]}).objs.size:=by simpa using hb
  subst e;exact I1.fpOk (ms _) (I1.hok.fresh (ms _))
def u1 (ta:TA):TI:=λσ H R=>ta σ H λvs H1=>∃j:Int,vs=[.int j]/\-(2^62)<=j/\j<2^62/\R (Itr 0 j.toNat) H1
theorem cn {a:Expr}{ta:TA}{p pos:Pos}(hg:Gl X "range")(hm:X.mg "range" = none)(ha:PA X [a] ta)(hs:wq [a] X.env=[(false,eval a X.env)]:=by rfl):PI X tg (.Call (.Name "range" p) [a] [] pos) (u1 ta):=by
 intro pins s σ H R I h;refine CB (eF I hg hm Dx (wN (thn (ha pos pins s σ H _ I h) λus s1 ⟨vs,H1,I1,r1,q1⟩=>?_) hs rfl));obtain⟨j,e,q1,q2,q⟩:=q1;subst e;cases r1 with
 | cons r rr =>
  cases rr
  obtain⟨t,rfl⟩:=r;exact call_range_1 (qu I1 (by omega) (by omega) q1 q2 (by simpa using q))
def tFor (wi:TI)(g:TG)(tb:TS):TS:=λD σ H=>wi σ H λJ H1=>∃W:Nat->Nat->St->Hp->Prop,(∃m,W 0 m σ H1)/\∀i m σ H,W i m σ H ->
 (J.stop i H/\D.nx σ H)∨(J.go i H/\∃N:St->Hp->Prop,(∀ σ' H',N σ' H'->∃m',m'<m/\W (i+1) m' σ' H')/\∀x H',J.yld i H x H'->g x σ H' λσ2 H2=>tb {D with nx:=N,ct:=N,bk:=D.nx} σ2 H2)
def hV (fp:List Addr)(h:Heap):List (Addr×Obj):=fp.filterMap λb=>(h.get? b).map λo=>(b,o)
theorem cy {fp:List Addr}{h:Heap}{b:Addr}{o:Obj}(hb:b∈fp)(e:h.get? b=some o):(b,o)∈hV fp h:=Cw.mpr ⟨b,hb,by rw[e];rfl⟩
theorem pg {fp:List Addr}{h:Heap}{p:Addr×Obj}(hp:p∈hV fp h):p.1∈fp/\h.get? p.1=some p.2:=by
 obtain⟨b,hb,e⟩:=Cw.mp hp;cases q:h.get? b with
 | none=>rw[q]at e;cases e
 | some o =>
  rw[q]at e;have e':(b,o)=p:=xy e;subst e';exact⟨hb,q⟩
theorem Inv.pinned {pins:List (Addr×Obj)}{σ:St}{H:Hp}{s:bn}{fp:List Addr}(I:Inv X pins σ H s)(hf:∀b∈fp,FpOk X pins H b)(ho:∀b∈fp,∃o,s.heap.get? b=some o/\∀v,o.data ≠ .cell v):Inv X (pins++hV fp s.heap) σ H s :=
 I.pins_of λp hp=>(xM.mp hp).elim (λz=>I.pin p (wg _ z)) λz=>by
  obtain⟨hb,e⟩:=pg z;obtain⟨f0,f1,f2,_⟩:=hf p.1 hb;obtain⟨o,e',d⟩:=ho p.1 hb;rw[e]at e';cases e';exact⟨e,f0,f1,f2,d⟩
theorem Inv.unpinned {pins pl:List (Addr×Obj)}{σ:St}{H:Hp}{s:bn}(I:Inv X (pins++pl) σ H s):Inv X pins σ H s:=I.pins_of λp hp=>I.pin p (wg _ (z_ _ hp))
theorem fm {iter:Expr}{body:List Stmt}{wi:TI}{g:TG}{tb:TS}{pos:Pos}(hp:PassesOwn (pp X.prog X.w) X.A X.env X.xe)(hc:X.calm=true)(hi:PI X tg iter wi)(hg:PG X tg g)(hb:PSs X body tb)
  (hs:∀x,x8 iter X.env x=pure x:=by intro _;rfl):PS X (.For tg iter body [] pos) (tFor wi g tb):=by
 intro pins s σ H D I h;refine wpAny_For (thn (hi pins s σ H _ I h) λv s1 h1=>thn h1 λitv s2 h2=>?_) hs;obtain⟨it,fp,tn,J,H2,e,I2,T,st2,f2,W,⟨m0,w0⟩,turn⟩:=h2;subst e;have stat:∀ {H':Hp},(∀b∈fp,H' b=none)->∀b∈fp,FpOk X pins H' b:=λhn b hb=>⟨hn b hb,(f2 b hb).2⟩
 refine Di (λn s'=>∃i σ' H',Inv X pins σ' H' s'/\tn i s'.heap/\(∀b∈fp,H' b=none)/\W i n σ' H') ?_ m0 ⟨0,σ,H2,I2,st2,λb hb=>(f2 b hb).1,w0⟩;rintro n s3 ⟨i,σ3,H3,I3,st3,fr3,w3⟩;rcases turn i n σ3 H3 w3 with⟨stop,qn⟩ | ⟨go,N,hN,step⟩
 ·refine zz hp (thn (T.done X rfl rfl rfl hc i pins s3 σ3 H3 X.xe I3 (stat fr3) st3 stop) λr s4 ⟨hr,I4⟩=>?_);subst hr;exact yS ⟨σ3,H3,I4,qn⟩
 ·refine zz hp (thn (T.item X rfl rfl rfl hc i pins s3 σ3 H3 X.xe I3 (stat fr3) st3 go) λr s4 ⟨u,hr,h4⟩=>?_);subst hr;refine zz hp (thn h4 λ_ s5 ⟨x,H5,I5,r5,y5,st5,fr5⟩=>?_);have I5':=I5.pinned (stat fr5) (T.obj _ _ st5);refine zz hp (thn (hg _ s5 σ3 H5 x u _ I5' r5 (step x H5 y5)) λ_ s6 ⟨σ6,H6,I6,q6⟩=>?_);refine zz hp (thn (hb _ s6 σ6 H6 _ I6 q6) λf s7 q7=>?_);have Db:∀ {σ7:St} {H7:Hp},Inv X (pins++hV fp s5.heap) σ7 H7 s7->N σ7 H7->∃m,m<n/\∃i σ' H',Inv X pins σ' H' s7/\tn i s7.heap/\(∀b∈fp,H' b=none)/\W i m σ' H':=λ{σ7 H7} I7 n7=>by
   obtain⟨m',hm,w7⟩:=hN σ7 H7 n7;refine⟨m',hm,i+1,σ7,H7,I7.unpinned,T.keep _ _ _ st5 λb hb o e=>(I7.pin (b,o) (wg _ (wg _ (cy hb e)))).1,λb hb=>?_,w7⟩;obtain⟨o,e,d⟩:=T.obj _ _ st5 b hb;exact(I7.pin (b,o) (wg _ (wg _ (cy hb e)))).2.1
  cases f with
  | next=>obtain⟨σ7,H7,I7,n7⟩:=q7;exact Db I7 n7
  | cont=>obtain⟨σ7,H7,I7,n7⟩:=q7;exact Db I7 n7
  | brk=>obtain⟨σ7,H7,I7,q7⟩:=q7;exact⟨σ7,H7,I7.unpinned,q7⟩
  | ret v=>obtain⟨x7,σ7,H7,I7,r7,q7⟩:=q7;exact⟨x7,σ7,H7,I7.unpinned,r7,q7⟩
end
abbrev R2:=V->V->Hp->VK->Prop
def OpR (X:Cx)(f:bi->bi->Sem bi)(r:R2):Prop :=
 ∀(pins:List (Addr×Obj)) (s:bn) (σ:St) (H:Hp) (x y:V) (v u:bi) (Q:VK),Inv X pins σ H s->RelV x v->RelV y u->r x y H Q ->
  nw (pp X.prog X.w) X.A (f v u) (EP X pins σ Q) X.xe s
def UnR (X:Cx)(f:bi->Sem bi)(r:V->Hp->VK->Prop):Prop :=
 ∀(pins:List (Addr×Obj)) (s:bn) (σ:St) (H:Hp) (x:V) (v:bi) (Q:VK),Inv X pins σ H s->RelV x v->r x H Q ->
  nw (pp X.prog X.w) X.A (f v) (EP X pins σ Q) X.xe s
def gL (X:Cx)(f:bi)(r:List V->Hp->VK->Prop):Prop :=
 ∀(pins:List (Addr×Obj)) (s:bn) (σ:St) (H:Hp) (xs:List V) (us:List bi) (Q:VK),Inv X pins σ H s->Vals xs us->r xs H Q ->
  nw (pp X.prog X.w) X.A (call f us) (EP X pins σ Q) X.xe s
def TruR (X:Cx)(r:V->Hp->(Bool->Hp->Prop)->Prop):Prop :=
 ∀(pins:List (Addr×Obj)) (s:bn) (σ:St) (H:Hp) (x:V) (v:bi) (Q:Bool->Hp->Prop),Inv X pins σ H s->RelV x v->r x H Q ->
  nw (pp X.prog X.w) X.A (truthy v) (TP X pins σ Q) X.xe s
def tOp (r:R2)(ta tb:TE):TE:=λσ H Q=>ta σ H λx H1=>tb σ H1 λy H2=>r x y H2 Q
def tUn (r:V->Hp->VK->Prop)(ta:TE):TE:=λσ H Q=>ta σ H λx H1=>r x H1 Q
def rI (C:Int->Int->Prop)(g:Int->Int->V):R2:=λx y H Q=>∃i j,x = .int i/\y = .int j/\C i j/\Q (g i j) H
def rI0 (g:Int->Int->V):R2:=λx y H Q=>∃i j,x = .int i/\y = .int j/\Q (g i j) H
def rU (g:Int->V):V->Hp->VK->Prop:=λx H Q=>∃i,x = .int i/\Q (g i) H
section
variable {X:Cx}{a b c:Expr}{ta tb tc:TE}{pos:Pos}
theorem binT (ha:PE X a ta)(hb:PE X b tb){pins:List (Addr×Obj)}{s:bn}{σ:St}{H:Hp}{R:V->V->Hp->Prop}(I:Inv X pins σ H s)
  (h:ta σ H λx H1=>tb σ H1 λy H2=>R x y H2) {Q:bi->bn->Prop} {f:bi->bi->Sem bi}
  (hf:∀v u s2 x y H2,Inv X pins σ H2 s2->RelV x v->RelV y u->R x y H2->nw (pp X.prog X.w) X.A (f v u) Q X.xe s2) :
  nw (pp X.prog X.w) X.A (eval a X.env) (λv s₁=>nw (pp X.prog X.w) X.A (eval b X.env) (λu s₂=>nw (pp X.prog X.w) X.A (f v u) Q X.xe s₂) X.xe s₁) X.xe s:=by
 refine thn (ha pins s σ H _ I h) λv s1 ⟨x,H1,I1,r1,q1⟩=>?_;refine thn (hb pins s1 σ H1 _ I1 q1) λu s2 ⟨y,H2,I2,r2,q2⟩=>?_;exact hf v u s2 x y H2 I2 r1 r2 q2
theorem bf {op:Operator}{r:R2}(ho:OpR X (y4 op) r)(ha:PE X a ta)(hb:PE X b tb):PE X (.BinOp a op b pos) (tOp r ta tb):=by
 intro pins s σ H Q I h;exact wpAny_BinOp (binT ha hb I h λv u s2 x y H2 I2 rx ry q=>ho pins s2 σ H2 x y v u Q I2 rx ry q)
theorem oY {op:UnaryOp}{r:V->Hp->VK->Prop}(ho:UnR X (unaryOp op) r)(ha:PE X a ta):PE X (.UnaryOp op a pos) (tUn r ta):=by
 intro pins s σ H Q I h;exact UnaryOp_ (thn (ha pins s σ H _ I h) λv s1 ⟨x,H1,I1,r1,q1⟩=>ho pins s1 σ H1 x v Q I1 r1 q1)
theorem opI {f:bi->bi->Sem bi}{C:Int->Int->Prop}{g:Int->Int->Int}
  (rule:∀(i j:Int) (t u:Tok) (s:bn) (Q:bi->bn->Prop) (E:bi->bn->Prop),C i j->Q (.int (g i j) s.toks) {s with toks:=s.toks+1}->nw (pp X.prog X.w) X.A (f (.int i t) (.int j u)) Q E s) :
  OpR X f (rI C λi j=>.int (g i j)):=by
 intro pins s σ H x y v u Q I rx ry h;obtain⟨i,j,rfl,rfl,hc,q⟩:=h;obtain⟨t,rfl⟩:=rx;obtain⟨t',rfl⟩:=ry;exact rule i j t t' s _ _ hc ⟨.int (g i j),H,I.tok _,⟨_,rfl⟩,q⟩
theorem opI0 {f:bi->bi->Sem bi}{g:Int->Int->Int}
  (rule:∀(i j:Int) (t u:Tok) (s:bn) (Q:bi->bn->Prop) (E:bi->bn->Prop),Q (.int (g i j) s.toks) {s with toks:=s.toks+1}->nw (pp X.prog X.w) X.A (f (.int i t) (.int j u)) Q E s) :
  OpR X f (rI0 λi j=>.int (g i j)):=by
 intro pins s σ H x y v u Q I rx ry h;obtain⟨i,j,rfl,rfl,q⟩:=h;obtain⟨t,rfl⟩:=rx;obtain⟨t',rfl⟩:=ry;exact rule i j t t' s _ _ ⟨.int (g i j),H,I.tok _,⟨_,rfl⟩,q⟩
theorem opB0 {f:bi->bi->Sem bi}{g:Int->Int->Bool}
  (rule:∀(i j:Int) (t u:Tok) (s:bn) (Q:bi->bn->Prop) (E:bi->bn->Prop),Q (.bool (g i j)) s->nw (pp X.prog X.w) X.A (f (.int i t) (.int j u)) Q E s) :
  OpR X f (rI0 λi j=>.bl (g i j)):=by
 intro pins s σ H x y v u Q I rx ry h;obtain⟨i,j,rfl,rfl,q⟩:=h;obtain⟨t,rfl⟩:=rx;obtain⟨t',rfl⟩:=ry;exact rule i j t t' s _ _ ⟨.bl (g i j),H,I,rfl,q⟩
def CPow (i j:Int):Prop:=0<=j/\j<=1000000/\i.natAbs<2^64
def CMul (i j:Int):Prop:=(-(2^64)<i/\i<2^64)∨(-(2^64)<j/\j<2^64)
theorem CMul.ok {i j:Int}(h:CMul i j):IntMulOk i j:=by
 rcases h with⟨h1,h2⟩ | ⟨h1,h2⟩
 ·exact .of_left (intBits_le_64 h1 h2)
 ·exact .of_right (intBits_le_64 h1 h2)
theorem bN:OpR X (y4 .Add) (rI0 λi j=>.int (i+j)):=opI0 λ_ _ _ _ _ _ _ q=>add_int q
theorem cF:OpR X (y4 .Sub) (rI0 λi j=>.int (i - j)):=opI0 λ_ _ _ _ _ _ _ q=>sub_int q
theorem ky:OpR X (y4 .Mult) (rI CMul λi j=>.int (i*j)):=opI λ_ _ _ _ _ _ _ hc q=>mul_int q hc.ok
theorem fJ:OpR X (y4 .Mod) (rI (λ_ j=>0<j) λi j=>.int (i % j)):=opI λi j _ _ _ _ _ hc q=>by
 have h1:(0:Int)<j:=hc;exact mod_int' (by omega) (by rw[Int.fmod_eq_emod_of_nonneg i (by omega)];exact q)
theorem o9:OpR X (y4 .Pow) (rI CPow λi j=>.int (i^j.toNat)):=opI λ_ _ _ _ _ _ _ hc q=>pow_int_small hc.1 hc.2.1 hc.2.2 q
theorem o8:OpR X (y4 .LShift) (rI CPow λi j=>.int (i*2^j.toNat)):=opI λ_ _ _ _ _ _ _ hc q=>lshift_int_small hc.1 hc.2.1 hc.2.2 q
theorem o7:OpR X (y4 .BitXor) (rI0 λi j=>.int (zm i j)):=opI0 λ_ _ _ _ _ _ _ q=>xor_int q
theorem unI {f:bi->Sem bi}{g:Int->Int}
  (rule:∀(i:Int) (t:Tok) (s:bn) (Q:bi->bn->Prop) (E:bi->bn->Prop),Q (.int (g i) s.toks) {s with toks:=s.toks+1}->nw (pp X.prog X.w) X.A (f (.int i t)) Q E s) :
  UnR X f (rU λi=>.int (g i)):=by
 intro pins s σ H x v Q I rx h;obtain⟨i,rfl,q⟩:=h;obtain⟨t,rfl⟩:=rx;exact rule i t s _ _ ⟨.int (g i),H,I.tok _,⟨_,rfl⟩,q⟩
theorem j7:UnR X (unaryOp .USub) (rU λi=>.int (-i)):=unI λ_ _ _ _ _ q=>neg_int q
end
section
variable {X:Cx}{a b c:Expr}{ta tb tc:TE}{pos:Pos}
theorem va {pins:List (Addr×Obj)}{σ:St}{H:Hp}{s:bn}{Q:VK}{k k':Bool}(I:Inv X pins σ H s)(q:Q (.bl k) H)(e:k=k'):EP X pins σ Q (.bool k') s:=by
 subst e;exact⟨.bl k,H,I,rfl,q⟩
theorem vF:OpR X (yH .Lt) (rI0 λi j=>.bl (decide (i<j))):=opB0 λ_ _ _ _ _ _ _ q=>lt_int q
theorem gk:OpR X (yH .Gt) (rI0 λi j=>.bl (decide (j<i))):=opB0 λ_ _ _ _ _ _ _ q=>gt_int q
theorem vG:OpR X (yH .GtE) (rI0 λi j=>.bl (decide (j<=i))):=opB0 λ_ _ _ _ _ _ _ q=>ge_int q
theorem uG:OpR X (yH .Is) (λx y H Q=>y = .non/\Q (.bl (decide (x = .non))) H):=by
 intro pins s σ H x y v u Q I rx ry h;obtain⟨rfl,q⟩:=h;cases ry
 refine is_none_gen (va I q ?_);cases x <;> first
  | (cases rx;rfl)
  | (obtain⟨t,rfl⟩:=rx;rfl)
theorem bO (b:Expr){op:CmpOp}(h:op ≠ .In:=by decide)(h2:op ≠ .NotIn:=by decide):AR op b=false:=by
 have e1:(op==CmpOp.In)=false:=by cases op <;> first | rfl | exact absurd rfl h
 have e2:(op==CmpOp.NotIn)=false:=by cases op <;> first | rfl | exact absurd rfl h2
 cases b <;> simp[AR,e1,e2]
def t_ (t:TE):TT:=λσ H Q=>t σ H λx H'=>∃k,x = .bl k/\Q k H'
theorem bw {op:CmpOp}{r:R2}(ho:OpR X (yH op) r)(ha:PE X a ta)(hb:PE X b tb)(hm:AR op b=false):PT X (.Compare a [op] [b] pos) (t_ (tOp r ta tb)):=by
 intro pins s σ H Q I h;refine CY (thn (ha pins s σ H _ I h) λv s1 ⟨x,H1,I1,r1,q1⟩=>thn (hb pins s1 σ H1 _ I1 q1) λu s2 ⟨y,H2,I2,r2,q2⟩ =>
  thn (ho pins s2 σ H2 x y v u _ I2 r1 r2 q2) λc s3 ⟨z,H3,I3,r3,k,e,q3⟩=>?_) hm
 subst e;cases r3
 exact Bf ⟨H3,I3,q3⟩
def TruV (K:ac)(x:V)(H:Hp)(k:Bool):Prop :=
 match x with
 | .non=>k=false
 | .bl b=>k=b
 | .int i=>k=(i != 0)
 | .str y=>y.length<=v5/\k=((y.length:Int) != 0)
 | .byt y=>y.size<=v5/\k=((y.size:Int) != 0)
 | .ref p=>(∃xs,SqL K H p xs/\k = !xs.isEmpty)∨(∃xs,SqT K H p xs/\k = !xs.isEmpty) ∨ ∃kvs,H p=some (.dK kvs)/\k = !kvs.isEmpty
 | _=>False
theorem nN {κ:Type}{kvs:List (κ×V)}{vs:List (κ×bi)}(r:KV kvs vs):(!vs.isEmpty) = !kvs.isEmpty:=by
 cases r <;> rfl
theorem i6 {xs:List V}{its:List bi}(r:Vals xs its):(!its.toArray.isEmpty) = !xs.isEmpty:=by
 cases r <;> simp
theorem kC:(v5:Nat)<2^63:=by rw[xV];decide
theorem t7:TruR X (λx H Q=>∃k,TruV X.K x H k/\Q k H):=by
 intro pins s σ H x v Q I rx h;obtain⟨k,e,q⟩:=h;have hl:=kC;have hs:v5=16777216:=xV;cases x with
 | non =>
  cases rx
  have e':k=false:=e;subst e';exact truthy_none ⟨H,I,q⟩
 | bl b =>
  cases rx
  have e':k=b:=e;subst e';exact Bf ⟨H,I,q⟩
 | int i =>
  obtain⟨t,rfl⟩:=rx;have e':k=(i != 0):=e;subst e';exact PySem.P.truthy_int ⟨H,I,q⟩
 | str y =>
  obtain⟨t,rfl⟩:=rx;obtain⟨hy,e'⟩:y.length<=v5/\k=((y.length:Int) != 0):=e;subst e';exact PySem.P.truthy_str (by omega) ⟨H,I.tok _,q⟩
 | byt y =>
  obtain⟨t,rfl⟩:=rx;obtain⟨hy,e'⟩:y.size<=v5/\k=((y.size:Int) != 0):=e;subst e';exact PySem.W.truthy_bytes (by omega) ⟨H,I.tok _,q⟩
 | ref p =>
  cases rx
  have e':(∃xs,SqL X.K H p xs/\k = !xs.isEmpty)∨(∃xs,SqT X.K H p xs/\k = !xs.isEmpty) ∨ ∃kvs,H p=some (.dK kvs)/\k = !kvs.isEmpty:=e;rcases e' with⟨xs,hx,e'⟩ | ⟨xs,hx,e'⟩ | ⟨kvs,hx,e'⟩
  ·subst e';obtain⟨its,r,pl,hz⟩:=I.list hx;have hlen:=r.length;exact wpAny_truthy_list pl.isList (by simp only[kt];omega) ⟨H,I.tok _,by rw[i6 r];exact q⟩
  ·subst e';obtain⟨its,r,pl,hz⟩:=I.tuple hx;have hlen:=r.length;exact truthy_tuple pl (by simp only[kt];omega) ⟨H,I.tok _,by rw[i6 r];exact q⟩
  ·subst e';obtain⟨hz,hS,vs,r,m⟩:kvs.length<=v5/\(p==yF)=false/\∃vs,KV kvs vs/\s.heap.DictOf (cc X.prog X.w) p vs:=I.hok p _ hx;have hlen:kvs.length=vs.length:=Af r;exact wpAny_truthy_dict hS m (by omega) ⟨H,I.tok _,by rw[nN r];exact q⟩
 | _=>exact(show False from e).elim
theorem qw (ha:PE X a ta)(he:∀whole,CG a X.env whole=(do let v <- whole;standAt a.pos;holding [v] (truthy v))) :
  PT X a (λσ H Q=>ta σ H λx H'=>∃k,TruV X.K x H' k/\Q k H'):=by
 intro pins s σ H Q I h;exact isTrue_plain (thn (ha pins s σ H _ I h) λv s1 ⟨x,H1,I1,r1,q1⟩=>t7 pins s1 σ H1 x v Q I1 r1 q1) (he _)
theorem k9 {x:V}{us:List bi}(r:Vals [x] us):∃u,us=[u]/\RelV x u:=by
 cases r with
 | cons r1 r2=>cases r2;exact⟨_,rfl,r1⟩
theorem tY {x y:V}{us:List bi}(r:Vals [x,y] us):∃u w',us=[u,w']/\RelV x u/\RelV y w':=by
 cases r with
 | cons r1 r2 =>
  cases r2 with
  | cons r3 r4=>cases r4;exact⟨_,_,rfl,r1,r3⟩
theorem dF (hc:X.calm=true):gL X (.builtin "max") (λxs H Q=>∃i j,xs=[.int i,.int j]/\Q (.int (if j > i then j else i)) H):=by
 intro pins s σ H xs us Q I r h;obtain⟨i,j,rfl,q⟩:=h;obtain⟨u,w',rfl,⟨t,rfl⟩,⟨t',rfl⟩⟩:=tY r;refine max_two_ints (I.ok.hd hc) λh' tk k=>⟨_,H,I.kept k,?_,q⟩
 by_cases hj:j > i
 ·rw[if_pos hj,if_pos hj];exact⟨_,rfl⟩
 ·rw[if_neg hj,if_neg hj];exact⟨_,rfl⟩
theorem iF (hc:X.calm=true):gL X (.builtin "min") (λxs H Q=>∃i j,xs=[.int i,.int j]/\Q (.int (if j<i then j else i)) H):=by
 intro pins s σ H xs us Q I r h;obtain⟨i,j,rfl,q⟩:=h;obtain⟨u,w',rfl,⟨t,rfl⟩,⟨t',rfl⟩⟩:=tY r;refine min_two_ints (I.ok.hd hc) λh' tk k=>⟨_,H,I.kept k,?_,q⟩
 by_cases hj:j<i
 ·rw[if_pos hj,if_pos hj];exact⟨_,rfl⟩
 ·rw[if_neg hj,if_neg hj];exact⟨_,rfl⟩
end
theorem RelO.some_of {v:V}{o:Option bi}(r:RelO (some v) o):∃u,o=some u/\RelV v u:=by
 cases o with
 | none=>exact(show False from r).elim
 | some u=>exact⟨u,rfl,r⟩
theorem pH {v:V}{u:bi}(r:RelV v u):PySem.W.handedIn u=true:=by
 cases v with
 | non=>cases (show u=Value.none from r);rfl
 | bl b=>cases (show u=Value.bool b from r);rfl
 | int i=>obtain⟨t,e⟩:=(show ∃t,u=Value.int i t from r);cases e;rfl
 | str x=>obtain⟨t,e⟩:=(show ∃t,u=Value.str x t from r);cases e;rfl
 | byt b=>obtain⟨t,e⟩:=(show ∃t,u=Value.bytes b t from r);cases e;rfl
 | flt b=>obtain⟨t,e⟩:=(show ∃t,u=Value.float b t from r);cases e;rfl
 | ref a=>cases (show u=Value.ref a from r);rfl
 | ty n=>cases (show u=Value.type n from r);rfl
section
variable {X:Cx}{pins:List (Addr×Obj)}{σ:St}{H:Hp}{s:bn}{a C dx:Addr}{fs:List (Str×V)}{f:Str}{v:V}{A:wy}{E:bi->bn->Prop}
theorem tN {prog:v3}{w:wz}{env:Env}{e:Expr}{f:Str}{pos:Pos}{s:bn}{Q:bi->bn->Prop}(hb:AU e f env (eval e env)=eval e env)
  (h:nw (pp prog w) A (eval e env) (λo s₁=>nw (pp prog w) A (getAttr o f true) Q E s₁) E s):nw (pp prog w) A (eval (.Attribute e f pos) env) Q E s :=
 Attribute_any_ h (by rw[arm_eval_Attribute,hb])
end
structure Room (k:Nat)(A:wy):Prop where
 hd:A.handled=none
 dp:A.depth+3*k+5<recursionLimit
 un:A.units+16*k+200<zv
 gd:A.guards=some []
theorem Room.mono {j k:Nat}{A:wy}(r:Room k A)(h:j<=k):Room j A:=⟨r.hd,by have:=r.dp;omega,by have:=r.un;omega,r.gd⟩
theorem Room.deeper {k:Nat}{A:wy}(r:Room (k+1) A)(env:Env):Room k (A.deeper env) :=
 ⟨r.hd,by have:=r.dp;show A.depth+1+3*k+5<_;omega,by have:=r.un;show A.units+3+16*k+200<_;omega,r.gd⟩
theorem nH {A:wy}{C:Addr}{us:List bi}{kw:List (Str×bi)}:(A.under (.builtin "type.__call__" ⟨.ref C::us,kw⟩)).depth=A.depth+1:=by
 first | rfl | simp[Av,Code.weight,Code.isCreation,Code.isGuard,Code.isCaller,DY,BN,guardIds]
theorem nG {A:wy}{C:Addr}{us:List bi}{kw:List (Str×bi)}:(A.under (.builtin "type.__call__" ⟨.ref C::us,kw⟩)).units=A.units+1:=by
 first | rfl | simp[Av,Code.cUnits,DY,BN]
theorem lQ {A:wy}{C:Addr}{us:List bi}{kw:List (Str×bi)}:(A.under (.builtin "type.__call__" ⟨.ref C::us,kw⟩)).guards=A.guards:=by
 have:(Code.builtin "type.__call__" ⟨.ref C::us,kw⟩).guards=[]:=by
  unfold Code.guards;rw[if_neg];show ¬guardIds.contains "type.__call__" = true;decide +kernel
 unfold Av;rw[this];cases A with
 | mk a b c d e=>cases d <;> rfl
theorem Room.make {k:Nat}{A:wy}(r:Room (k+1) A)(C:Addr)(us:List bi)(kw:List (Str×bi)):Room k (A.under (.builtin "type.__call__" ⟨.ref C::us,kw⟩)) :=
 ⟨r.hd,by have:=r.dp;rw[nH];omega,by have:=r.un;rw[nG];omega,by rw[lQ];exact r.gd⟩
theorem Room.depth {k:Nat}{A:wy}(r:Room k A):A.depth<recursionLimit:=by have:=r.dp;omega
theorem Room.units {k:Nat}{A:wy}(r:Room k A):A.units+64<zv:=by have:=r.un;omega
def tNil:TA:=λ_ H Q=>Q [] H
def j_ (ta:TE)(tr:TA):TA:=λσ H Q=>ta σ H λx H1=>tr σ H1 λxs H2=>Q (x::xs) H2
section
variable {X:Cx}{e:Expr}{es:List Expr}{te:TE}{t:TA}{pos:Pos}
theorem ar:PA X [] tNil:=λ_ _ _ _ H Q I h=>yR ⟨[],H,I,.nil,h⟩
theorem af (ha:PE X e te)(hr:PA X es t)(hs:wq (e::es) X.env=(false,eval e X.env)::wq es X.env:=by rfl):PA X (e::es) (j_ te t):=by
 intro pos pins s σ H Q I h;rw[hs];show nw _ _ (DG ((false,eval e X.env)::yt pos (wq es X.env))) _ _ s;refine yJ (thn (ha pins s σ H _ I h) λu s1 ⟨x,H1,I1,r1,q1⟩=>?_);exact thn (hr pos pins s1 σ H1 _ I1 q1) λus s2 ⟨xs,H2,I2,r2,q2⟩=>⟨x::xs,H2,I2,.cons r1 r2,q2⟩
def tTup (t:TA):TE:=λσ H Q=>t σ H λxs H1=>xs.length<=v5/\∀p,H1 p=none->Q (.ref p) (upd H1 p (.tup xs))
def tLst (t:TA):TE:=λσ H Q=>t σ H λxs H1=>xs.length<=v5/\∀p,H1 p=none->Q (.ref p) (upd H1 p (.lst xs))
theorem cx {x1}(h:PA X es t):PE X (.Tuple es x1 pos) (tTup t):=by
 intro pins s σ H Q I hq;refine wpAny_Tuple_spliced (thn (h pos pins s σ H _ I hq) λus s1 ⟨xs,H1,I1,r,z,q⟩=>⟨by rw[<- r.length];exact z,?_⟩);have hf:H1 s1.heap.objs.size=none:=I1.hok.fresh (ms _);refine⟨.ref s1.heap.objs.size,upd H1 s1.heap.objs.size (.tup xs),I1.laid (t':=s1.toks) (λb u e=>bv _ e) (ms _) ?_,rfl,q _ hf⟩;exact⟨z,us,r,⟨_,wa _ rfl,rfl,_,rfl⟩⟩
theorem dv (h:PA X es t):PE X (.List es pos) (tLst t):=by
 intro pins s σ H Q I hq;refine wpAny_List_spliced (thn (h pos pins s σ H _ I hq) λus s1 ⟨xs,H1,I1,r,z,q⟩=>⟨by rw[<- r.length];exact z,?_⟩);have hf:H1 s1.heap.objs.size=none:=I1.hok.fresh (ms _);refine⟨.ref s1.heap.objs.size,upd H1 s1.heap.objs.size (.lst xs),I1.laid (t':=s1.toks) (λb u e=>bv _ e) (ms _) ?_,rfl,q _ hf⟩;exact⟨z,us,0,r,wa _ rfl⟩
end
abbrev Sp:=List V->Hp->VK->XK->Prop
abbrev CXT:=List Env->Hp->bn->XK->bi->bn->Prop
structure Env0 (P:v3)(w:wz)(K:ac)(mg:Str->Option bi)(base:Heap)(A:wy)(outer:List Env)(s:bn)(H:Hp):Prop where
 frames:A.frames=some outer
 mod:Mod K mg base
 bs:∀b o,base.get? b=some o->s.heap.get? b=some o/\H b=none
 bsz:base.objs.size<=s.heap.objs.size
 funs:s.heap.FunFrames base outer
 frf:∀b∈frs outer,H b=none
 hok:HOk P w H s.heap
 bare:zT s.gens
def CE (outer:List Env)(P:v3)(w:wz)(H:Hp)(s:bn)(Q:VK)(u:bi)(s':bn):Prop :=
 ∃v H',s'.os=s.os/\zT s'.gens/\Un (frs outer) [] H H' s.heap s'.heap/\HOk P w H' s'.heap/\RelV v u/\Q v H'
def CR (CX:CXT)(outer:List Env)(P:v3)(w:wz)(H:Hp)(s:bn)(Q:VK)(E:XK)(r:CK)(s':bn):Prop :=
 match r with
 | .ok (.ret u)=>CE outer P w H s Q u s'
 | .ok _=>False
 | .error e=>CX outer H s E e s'
structure FnOk (P:v3)(w:wz)(K:ac)(mg:Str->Option bi)(base:Heap)(CX:CXT)(k:Nat)(f:Addr)(fd:yP)(ps:List Str)(sp:Sp):Prop where
 len:∀vs H Q E,sp vs H Q E->vs.length=ps.length
 run:∀(A:wy) (outer:List Env) (s:bn) (H:Hp) (args:Args) (us:List bi) (vs:List V) (Q:VK) (E:XK),Room k A->Env0 P w K mg base A outer s H->BO s fd args (ps.zip us)->Vals vs us->sp vs H Q E ->
  zp (pp P w) A (.call (.ref f) args) (CR CX outer P w H s Q E) s
theorem FnOk.imp {P:v3}{w:wz}{K:ac}{mg:Str->Option bi}{base:Heap}{CX:CXT}{k:Nat}{f:Addr}{fd:yP}{ps:List Str}{sp sp':Sp}(F:FnOk P w K mg base CX k f fd ps sp)
  (h:∀vs H Q E,sp' vs H Q E->sp vs H Q E):FnOk P w K mg base CX k f fd ps sp' :=
 ⟨λvs H Q E q=>F.len vs H Q E (h _ _ _ _ q),λA outer s H args us vs Q E hr he hb hv hs=>F.run A outer s H args us vs Q E hr he hb hv (h _ _ _ _ hs)⟩
theorem Env0.make {P:v3}{w:wz}{K:ac}{mg:Str->Option bi}{base:Heap}{A:wy}{outer:List Env}{s:bn}{H:Hp}(e:Env0 P w K mg base A outer s H)(C:Addr)(us:List bi)(kw:List (Str×bi)) :
  Env0 P w K mg base (A.under (.builtin "type.__call__" ⟨.ref C::us,kw⟩)) outer s H:=⟨by first | exact e.frames | (simpa [Av,Code.envs,BN,pushEnvs] using e.frames),e.mod,e.bs,e.bsz,e.funs,e.frf,e.hok,e.bare⟩
section
variable {X:Cx}{pins:List (Addr×Obj)}{σ:St}{H:Hp}{s s':bn}
theorem Inv.env0 (I:Inv X pins σ H s):Env0 X.prog X.w X.K X.mg X.base X.A X.stack s H :=
 ⟨I.ok.frames,I.ok.mod,I.bs,wo I.ok.bsz I.sz,I.stack,I.stkFree,I.hok,I.bare⟩
theorem Inv.after {Q:VK}{u:bi}(I:Inv X pins σ H s)(h:CE X.stack X.prog X.w H s Q u s'):EP X pins σ Q u s':=by
 obtain⟨v,H',os,bare,un,hok,r,q⟩:=h;obtain⟨hh,g,d,t,os'⟩:=s';obtain rfl:os'=s.os:=os;exact⟨v,H',I.call (h':=hh) (g':=g) (d':=d) (t':=t) (ch:=[]) un hok bare (λb z=>absurd z (by simp)),r,q⟩
end
def lh (sp:Sp)(dvs:List V)(E:XK)(t:TA):TE:=λσ H Q=>t σ H λvs H1=>sp (vs++dvs) H1 Q E
def j4 (K:ac)(fd:yP)(ps:List Str)(ds:List bi):Prop :=
 ∀(s:bn) (us:List bi),K.In s.heap->(us++ds).length=ps.length->BO s fd ⟨us,[]⟩ (ps.zip (us++ds))
theorem j4.all {K:ac}{fd:yP}{ps:List Str}(h:∀us:List bi,us.length=ps.length->BU fd ⟨us,[]⟩=pure (ps.zip us)):j4 K fd ps []:=λs us _ hl=>by
 rw[yb]at hl ⊢;exact .of_eq (h us hl)
def iK (CX:CXT)(X:Cx)(E:XK):Prop:=∀(pins:List (Addr×Obj)) (σ:St) (H:Hp) (s:bn) (e:bi) (s':bn),Inv X pins σ H s->CX X.stack H s E e s'->X.xe e s'
section
variable {X:Cx}{CX:CXT}{k:Nat}{f C:Addr}{fd:yP}{ps:List Str}{sp:Sp}{dvs:List V}{ds:List bi}{E:XK}{x m:Str}{p pos apos:Pos}{e o:Expr}{es:List Expr}{ta:TE}{t:TA}
theorem uj {pins:List (Addr×Obj)}{σ:St}{H:Hp}{s:bn}{Q:VK}{us:List bi}{vs:List V}(F:FnOk X.prog X.w X.K X.mg X.base CX k f fd ps sp)(hr:Room k X.A)(hb:j4 X.K fd ps ds)(hd:Vals dvs ds)(hx:iK CX X E)
  (I:Inv X pins σ H s) (r:Vals vs us) (h:sp (vs++dvs) H Q E):nw (pp X.prog X.w) X.A (call (.ref f) us) (EP X pins σ Q) X.xe s:=by
 have r2:Vals (vs++dvs) (us++ds):=r.append hd;have hl:(us++ds).length=ps.length:=by rw[<- r2.length];exact F.len _ _ _ _ h
 refine A0 (Ac (F.run X.A X.stack s H ⟨us,[]⟩ (us++ds) (vs++dvs) Q E hr I.env0 (hb s us I.kIn hl) r2 h) λr s' hq=>?_);cases r with
 | error e=>exact hx pins σ H s e s' I hq
 | ok fl =>
  cases fl with
  | ret u=>exact I.after hq
  | next=>exact wD hq
  | brk=>exact wD hq
  | cont=>exact wD hq
theorem lA (F:FnOk X.prog X.w X.K X.mg X.base CX k f fd ps sp)(hr:Room k X.A)(hg:Gl X x)(hm:X.mg x=some (.ref f))(hk:xQ X.K (.ref f)=true)(hb:j4 X.K fd ps ds)(hd:Vals dvs ds)(hx:iK CX X E)
  (ha:PA X (e::es) t) (hdb:(x==("__debug__" : Str))=false:=by decide) (he:wq (e::es) X.env=(false,eval e X.env)::wq es X.env:=by rfl) (hpl:(yt pos (wq es X.env)).any (·.1)=false:=by rfl) :
  PE X (.Call (.Name x p) (e::es) [] pos) (lh sp dvs E t):=by
 intro pins s σ H Q I h;refine zO (eE I hg hm ?_ hdb);refine BX (h₀:=X.base) I.ok.mod.kin hk (thn (ha pos pins s σ H _ I h) λus s1 ⟨vs,H1,I1,r,q⟩=>⟨I1.kIn,?_⟩) he hpl;exact uj F hr hb hd hx I1 r q
end
structure bI (N P:List Str)(sc:xx):Prop where
 kind:sc.kind = .function
 co:sc.isCoroutine=false
 gen:sc.isGenerator=false
 nd:N.Nodup
 pre:N.take P.length=P
 par:∀x∈P,sc.names.lookup x=some .local∨sc.names.lookup x=some .cell
 nofree:∀y∈sc.names,y.2 ≠ .free
theorem kW {kindOf:Str->Option xY}{x:Str}:∀ {binds:List (Str×bi)} {m:Str->Option bi},(∀v,(x,v)∉binds)->Cs kindOf binds m x=m x
 | [],_,_=>rfl
 | (n,v)::r,m,h=>by
  unfold Cs;rw[kW λw hw=>h w (wQ _ hw)];split
  ·have:x≠n:=by rintro rfl;exact h v wV
   simp[this]
  ·rfl
theorem kY {kindOf:Str->Option xY}{x:Str}:∀ {binds:List (Str×bi)} {m:Str->Option bi},(∀v,(x,v)∉binds)->Ct kindOf binds m x=m x
 | [],_,_=>rfl
 | (n,v)::r,m,h=>by
  unfold Ct;rw[kY λw hw=>h w (wQ _ hw)];split
  ·rfl
  ·have:x≠n:=by rintro rfl;exact h v wV
   simp[this]
theorem kX {kindOf:Str->Option xY}{x:Str}{v:bi}:∀ {P:List Str} {vs:List bi} {i:Nat} {m:Str->Option bi},P.Nodup->P[i]? = some x->vs[i]? = some v->kindOf x=some .local ->
  Cs kindOf (P.zip vs) m x=some v
 | [],_,_,_,_,h,_,_=>by simp at h
 | _::_,[],_,_,_,_,h,_=>by simp at h
 | p::P,w::vs,0,m,nd,h1,h2,hk=>by
  simp at h1 h2;subst h1;subst h2;show Cs kindOf ((p,w)::P.zip vs) m p=_;unfold Cs;rw[kW λv hv=>(zX.mp nd).1 (Ba hv).1,if_pos hk];simp
 | p::P,w::vs,i+1,m,nd,h1,h2,hk=>by
  show Cs kindOf ((p,w)::P.zip vs) m x=_;unfold Cs;exact kX (i:=i) (zX.mp nd).2 (by simpa using h1) (by simpa using h2) hk
theorem kZ {kindOf:Str->Option xY}{x:Str}{v:bi}:∀ {P:List Str} {vs:List bi} {i:Nat} {m:Str->Option bi},P.Nodup->P[i]? = some x->vs[i]? = some v->kindOf x≠some .local ->
  Ct kindOf (P.zip vs) m x=some v
 | [],_,_,_,_,h,_,_=>by simp at h
 | _::_,[],_,_,_,_,h,_=>by simp at h
 | p::P,w::vs,0,m,nd,h1,h2,hk=>by
  simp at h1 h2;subst h1;subst h2;show Ct kindOf ((p,w)::P.zip vs) m p=_;unfold Ct;rw[kY λv hv=>(zX.mp nd).1 (Ba hv).1,if_neg hk];simp
 | p::P,w::vs,i+1,m,nd,h1,h2,hk=>by
  show Ct kindOf ((p,w)::P.zip vs) m x=_;unfold Ct;exact kZ (i:=i) (zX.mp nd).2 (by simpa using h1) (by simpa using h2) hk
def gG (N:List Str)(vs:List V):St:=vs.map some++im (N.length - vs.length) none
def cxOf (CX:CXT)(P:v3)(w:wz)(K:ac)(mg:Str->Option bi)(base:Heap)(N:List Str)(qual:Str)(scope:xx)(f:Addr)(cd:bi)(A:wy)(outer:List Env)(s:bn)(H:Hp)(E:XK):Cx where
 prog:=P
 w:=w
 K:=K
 mg:=mg
 base:=base
 A:=A.deeper (zf qual scope s.heap.objs.size f cd)
 N:=N
 s₀:=s
 H₀:=H
 env:=zf qual scope s.heap.objs.size f cd
 outer:=outer
 stack:=zf qual scope s.heap.objs.size f cd::outer
 ex:=[]
 calm:=true
 fn:=λ_=>true
 pn:=[]
 xe:=λe s'=>nw (pp P w) (A.deeper (zf qual scope s.heap.objs.size f cd)) (zS (zf qual scope s.heap.objs.size f cd) e) (λ_ s''=>CX outer H s E e s'') (λe' s''=>CX outer H s E e' s'') s'
theorem mU {sc:xx}{n:Nat}{x:Str}(h:sc.names.lookup x=some .cell):∃c,(xa n sc.names []).lookup x=some c:=by
 have q:=Bx sc.names n [] (.inl h);exact Option.isSome_iff_exists.mp q
theorem pD {CX:CXT}{P:v3}{w:wz}{K:ac}{mg:Str->Option bi}{base:Heap}{N ps:List Str}{qual:Str}{scope:xx}{f:Addr}{cd:bi}{A:wy}{outer:List Env}{s s1:bn}{H:Hp}{E:XK}{us:List bi}{vs:List V}
  (S:bI N ps scope) (hd:A.handled=none) (e0:Env0 P w K mg base A outer s H) (hl:vs.length=ps.length) (r:Vals vs us)
  (x:InCallC s s.heap.objs.size (Cs (zf qual scope s.heap.objs.size f cd).kindOf (ps.zip us) λ_=>none) (xa (s.heap.objs.size+1) scope.names []) (Ct (zf qual scope s.heap.objs.size f cd).kindOf (ps.zip us) λ_=>none) s1) :
  Inv (cxOf CX P w K mg base N qual scope f cd A outer s H E) [] (gG N vs) H s1:=by
 have hpl:ps.length<=N.length:=by have:=congrArg B6 S.pre;rw[xm]at this;omega
 obtain⟨h1,tk,rfl,hk⟩:=x.done;have noA:∀b:Addr,b∉(cxOf CX P w K mg base N qual scope f cd A outer s H E).ex:=λb z=>absurd (show b∈([]:List Addr)from z) (by simp);refine⟨⟨e0.mod,S.kind,rfl,rfl,ms _,λy z c h1 h2=>?_,λy hy=>?_,λy c _ h=>?_,λ_=>hd,Around.frames_deeper e0.frames,.inr ⟨rfl,rfl⟩,λb z=>absurd z (noA b),e0.bs,e0.bsz,λb _ _=>noA b,λb z=>absurd z (noA b),e0.funs,e0.frf⟩,
  rfl,e0.bare,Un.kept hk,⟨_,x.toInCall.ns,λi y v h1 h2 h3=>?_⟩,λy c h=>⟨_,x.cell y c h⟩,e0.hok.fresh (ms _),λy c h=>?_,λp hp=>absurd (show p∈([]:List (Addr×Obj))from hp) (by simp),e0.hok.kept hk,?_⟩
 ·exact name_of_addr x.apart (wI h1) (wI h2)
 ·have hy:scope.names.lookup y=some .cell∨scope.names.lookup y=some .free:=hy;rcases hy with hy | hy
  ·exact mU hy
  ·exact absurd rfl (S.nofree _ (wI hy))
 ·exact wT (x.above y c (wI h))
 ·have hi:i<vs.length:=by
   unfold gG at h2;by_cases hi:i<vs.length
   ·exact hi
   ·rw[xA (by simpa using hi)]at h2;rw[yL]at h2;split at h2 <;> cases h2
  have ha:vs[i]? = some v:=by
   unfold gG at h2;rw[wU (by simpa using hi),sB]at h2;cases e:vs[i]? with
   | none=>rw[e]at h2;cases h2
   | some a=>rw[e]at h2;cases h2;rfl
  obtain⟨u,hu,rv⟩:=r.get ha;have hp:ps[i]? = some y:=by
   rw[<- S.pre,List.getElem?_take_of_lt (by omega)];exact h1
  have ndP:ps.Nodup:=by rw[<- S.pre];exact S.nd.sublist (List.take_sublist _ _)
  refine⟨u,rv,?_⟩;rcases S.par y (wr hp)with k | k
  ·exact .inl ⟨k,kX ndP hp hu k⟩
  ·obtain⟨c,e⟩:=mU (n:=s.heap.objs.size+1) k;refine .inr ⟨.inl k,c,e,?_⟩;have q:=x.cell y c e;rw[kZ ndP hp hu (by show scope.names.lookup y≠_;rw[k];decide)]at q;exact q
 ·exact e0.hok.fresh (wT (x.above y c (wI h)))
 ·unfold gG;show _=N.length;rw[wb,db,xH];omega
theorem u_ {CX:CXT}{P:v3}{w:wz}{K:ac}{mg:Str->Option bi}{base:Heap}{k:Nat}{f:Addr}{name qual:Str}{params:Arguments}{body:List Stmt}{scope:xx}{dV kV doc pm cdv ct oc:bi}{an od:Option Addr}
  {osl:Array (Option bi)} {N ps:List Str} {sp:Sp} (lk:K.lookup f=some ⟨oc,od,.func (xN name qual params body scope dV kV doc pm an cdv ct),osl⟩) (hcd:yj K cdv qual=true) (S:bI N ps scope)
  (len:∀vs H Q E,sp vs H Q E->vs.length=ps.length)
  (hbody:∀(A:wy) (outer:List Env) (s:bn) (H:Hp) (vs:List V) (Q:VK) (E:XK),Room k (A.deeper (zf qual scope s.heap.objs.size f cdv))->sp vs H Q E ->
   ∃t,PSs (cxOf CX P w K mg base N qual scope f cdv A outer s H E) body t/\t {nx:=λ_ H'=>Q .non H',rt:=Q} (gG N vs) H) :
  FnOk P w K mg base CX (k+1) f (xN name qual params body scope dV kV doc pm an cdv ct) ps sp:=by
 refine⟨len,λA outer s H args us vs Q E hr e0 hb r hsp=>?_⟩;have hl:=len _ _ _ _ hsp;have KX:K.In s.heap:=e0.mod.kin.keeps λb o e=>(e0.bs b o e).1;have lim:s.heap.NoLimit:=e0.mod.nolimit.keeps λb o e=>(e0.bs b o e).1;have hkind:∀y∈ps.zip us,scope.names.lookup y.1=some .local∨(scope.names.lookup y.1=some .cell/\((xa (s.heap.objs.size+1) scope.names []).lookup y.1).isSome=true):=λ⟨n,v⟩ hy=>by
  rcases S.par n (Ba hy).1 with q | q
  ·exact .inl q
  ·exact .inr ⟨q,Bx _ _ _ (.inl q)⟩
 refine codeAny_call_function hr.depth (KX _ _ lk) rfl S.co S.gen rfl (PySem.W.codeRec_of KX hcd) (hb _ _ _ _ ?_);refine wpAny_newFunctionEnv_cells S.kind hkind λenv he s1 x=>?_;subst he;refine⟨lim.keeps x.toInCall.keep,codeAny_func ?_⟩;obtain⟨t,ht,hq⟩:=hbody A outer s H vs Q E (hr.deeper _) hsp;have I:Inv (cxOf CX P w K mg base N qual scope f cdv A outer s H E) [] (gG N vs) H s1:=pD S hr.hd e0 hl r x;refine wG (ht [] s1 (gG N vs) H _ I hq) (λfl s' hs=>?_) λe s' hs=>hs;have fin:∀ {σ':St} {H':Hp} {v:V} {u:bi},Inv (cxOf CX P w K mg base N qual scope f cdv A outer s H E) [] σ' H' s'->RelV v u->Q v H'->CE outer P w H s Q u s' :=
  λ{σ' H' v u} J rv q=>⟨v,H',J.os,J.bare,J.base,J.hok,rv,q⟩
 cases fl with
 | ret u =>
  obtain⟨v,σ',H',J,rv,q⟩:=hs;exact fin J rv q
 | next =>
  obtain⟨σ',H',J,q⟩:=hs;exact fin (v:=V.non) (u:=Value.none) J rfl q
 | brk =>
  obtain⟨_,_,_,q⟩:=hs;exact wD q
 | cont =>
  obtain⟨_,_,_,q⟩:=hs;exact wD q
section
variable {X:Cx}{x:Str}{p pos:Pos}{e:Expr}{es:List Expr}{t:TA}{id T:String}{r:List V->Hp->VK->Prop}
def tCB (r:List V->Hp->VK->Prop)(t:TA):TE:=λσ H Q=>t σ H λvs H1=>r vs H1 Q
theorem aJ (hc:gL X (.builtin id) r)(hg:Gl X x)(hm:X.mg x=none)(hv:xr x=some (.builtin id))(ha:PA X (e::es) t)(hn:x ≠ "__name__" := by decide)(hdb:(x==("__debug__" : Str))=false:=by decide)
  (he:wq (e::es) X.env=(false,eval e X.env)::wq es X.env:=by rfl) (hpl:(yt pos (wq es X.env)).any (·.1)=false:=by rfl):PE X (.Call (.Name x p) (e::es) [] pos) (tCB r t):=by
 intro pins s σ H Q I h;refine zO (eF I hg hm hv ?_ hn hdb);exact D9 (thn (ha pos pins s σ H _ I h) λus s1 ⟨vs,H1,I1,r1,q1⟩=>hc pins s1 σ H1 vs us Q I1 r1 q1) he hpl
theorem cP (hc:gL X (.type T) r)(hg:Gl X x)(hm:X.mg x=none)(hv:xr x=some (.type T))(ha:PA X (e::es) t)(hn:x ≠ "__name__" := by decide)(hdb:(x==("__debug__" : Str))=false:=by decide)
  (he:wq (e::es) X.env=(false,eval e X.env)::wq es X.env:=by rfl) (hpl:(yt pos (wq es X.env)).any (·.1)=false:=by rfl):PE X (.Call (.Name x p) (e::es) [] pos) (tCB r t):=by
 intro pins s σ H Q I h;refine zO (eF I hg hm hv ?_ hn hdb);exact wN (thn (ha pos pins s σ H _ I h) λus s1 ⟨vs,H1,I1,r1,q1⟩=>hc pins s1 σ H1 vs us Q I1 r1 q1) he hpl
end
end L2
namespace HT
open PySem PyProof.Rows
section
variable {prog:v3}{w:wz}{A:wy}{E:bi->bn->Prop}{s:bn}
def sIx (n d:Nat):Option Int->Nat
 | none=>d
 | some v=>if v<0 then(v+(n:Int)).toNat else min v.toNat n
theorem sIx_nat (n d k:Nat):sIx n d (some (k:Int))=min k n:=by
 show(if(k:Int)<0 then((k:Int)+(n:Int)).toNat else min (k:Int).toNat n)=min k n;rw[if_neg (by omega),xE]
theorem uh (n d:Nat)(hd:d<=n)(o:Option Int):sIx n d o<=n:=by
 cases o with
 | none=>exact hd
 | some v =>
  show(if v<0 then(v+(n:Int)).toNat else min v.toNat n)<=n;by_cases hv:v<0
  ·rw[if_pos hv];omega
  ·rw[if_neg hv];exact Nat.min_le_right _ _
theorem pV (v:Int)(n d:Nat):(if v<0 then max (v+(n:Int)) 0 else min v (n:Int))=((sIx n d (some v):Nat):Int):=by
 show(if v<0 then max (v+(n:Int)) 0 else min v (n:Int))=(((if v<0 then(v+(n:Int)).toNat else min v.toNat n):Nat):Int)
 by_cases hv:v<0
 ·simp only[if_pos hv];omega
 ·simp only[if_neg hv];omega
theorem nY (lo hi:Option Int)(n:Nat):y8 lo hi 1 (n:Int)=(((sIx n 0 lo:Nat):Int),((sIx n n hi:Nat):Int)):=by
 have h1:¬((1:Int)<0):=by omega
 unfold y8;simp only[h1,if_false];refine Prod.ext ?_ ?_
 ·cases lo with
  | none=>rfl
  | some v=>exact pV v n 0
 ·cases hi with
  | none=>rfl
  | some v=>exact pV v n n
theorem nu (i j:Nat):yc (i:Int) (j:Int) 1=j - i:=by
 unfold yc;have h1:(1:Int) > 0:=by omega
 simp only[h1,if_true,DW];split <;> omega
theorem iY {v:bi}{o:Option Int}{Q:Option Int->bn->Prop}(p:AD v o)(h:Q o s):nw (pp prog w) A (DZ v) Q E s:=by
 cases p with
 | none=>exact slicePart_none h
 | int i t=>exact slicePart_int h
theorem dU {sl:Addr}{vl vu:bi}{lo hi:Option Int}{n:Nat}{Q:Int×Int×Nat->bn->Prop}(hs:s.heap.IsSliceOf sl vl vu .none)(pl:AD vl lo)(pu:AD vu hi)
  (h:Q (((sIx n 0 lo:Nat):Int),1,sIx n n hi - sIx n 0 lo) s):nw (pp prog w) A (Ar (.ref sl) (pure (n:Int))) Q E s:=by
 obtain⟨os,hos,hcs,hds⟩:=id hs;unfold Ar D1;refine bd (bd (wx hos hds (x:=vl) rfl (bd (wx hos hds (x:=vu) rfl (bd (wx hos hds (x:=.none) rfl (lw ?_)))))));refine bd (slicePart_none ?_);show nw _ _ (if((1:Int)==0)=true then _ else _) _ _ s;rw[if_neg (by decide)];refine bd (iY pl (bd (iY pu (bd (lw ?_)))));show nw _ _ (match y8 lo hi 1 (n:Int)with | (lo,hi)=>pure (lo,(1:Int),yc lo hi 1)) _ _ s;rw[nY lo hi n];show nw _ _ (pure (((sIx n 0 lo:Nat):Int),(1:Int),yc ((sIx n 0 lo:Nat):Int) ((sIx n n hi:Nat):Int) 1)) _ _ s;rw[nu];exact lw h
theorem qy (xs:Array bi)(i k:Nat):((wF k).filterMap λ(m:Nat)=>xs[((i:Int)+(m:Int)*1).toNat]?).toArray=((xs.toList.drop i).take k).toArray:=by
 have e:(λ(m:Nat)=>xs[((i:Int)+(m:Int)*1).toNat]?)=λm=>xs[i+m]?:=by
  funext m;have:((i:Int)+(m:Int)*1).toNat=i+m:=by omega
  rw[this]
 rw[e];have:=pick_run xs i k;rw[List.filterMap_map]at this;have e2:((λx=>xs[x]?) ∘ λx=>i+x)=λm=>xs[i+m]?:=rfl;rw[e2]at this;rw[this]
theorem getItem_tuple_cut {t sl:Addr}{items:Array bi}{vl vu:bi}{lo hi:Option Int}{Q:bi->bn->Prop}(ht:IsTup s.heap t items)(hs:s.heap.IsSliceOf sl vl vu .none)(pl:AD vl lo)(pu:AD vu hi)
  (hw:¬(sIx items.size 0 lo=0/\sIx items.size items.size hi=items.size))
  (h:Q (.ref s.heap.objs.size) {s with heap:=s.heap.push {cls:=.type "tuple",data:=.seq ((items.toList.drop (sIx items.size 0 lo)).take (sIx items.size items.size hi - sIx items.size 0 lo)).toArray}})
  (hsz:items.size<=v5):nw (pp prog w) A (zn (.ref t) (.ref sl)) Q E s:=by
 have htake:sizeOk (.seq ((items.toList.drop (sIx items.size 0 lo)).take (sIx items.size items.size hi - sIx items.size 0 lo)).toArray):=by
  show((items.toList.drop (sIx items.size 0 lo)).take (sIx items.size items.size hi - sIx items.size 0 lo)).toArray.size<=v5;rw[kt,xm,zP,zc];omega
 have hj:sIx items.size items.size hi<=items.size:=uh _ _ (ms _) hi;obtain⟨os,hos,hcs,hds⟩:=id hs;have hTs:s.TypeIs (.ref sl) "slice" := ⟨os,hos,hcs⟩
 unfold zn;try with_reducible refine yp ?_
 first | refine bd (lw ?_) | skip
 refine bd (DE ht.typeIs (by decide) ?_);refine bd (xO (name:=yV "__getitem__") ht.typeIs xb
  (x_ xb ht.typeIs Dh ?_ (Dy _ _)))
 show nw _ _ (Ap (.ref t)>>=_) _ _ s;refine bd (tupleItemsOf_ ht ?_);refine bd (Aa hTs ?_);rw[if_pos (by decide)];refine bd (dU hs pl pu ?_);have hno:¬((((sIx items.size 0 lo:Nat):Int)==0&&(1:Int)==1&&(sIx items.size items.size hi - sIx items.size 0 lo)==items.size)=true):=by
  intro q;rw[wC,wC]at q;have q1:((sIx items.size 0 lo:Nat):Int)=0:=eq_of_beq q.1.1;have q2:sIx items.size items.size hi - sIx items.size 0 lo=items.size:=eq_of_beq q.2;exact hw ⟨by omega,by omega⟩
 show nw _ _ (if(((sIx items.size 0 lo:Nat):Int)==0&&(1:Int)==1&&(sIx items.size items.size hi - sIx items.size 0 lo)==items.size)=true then _ else _) _ _ s;rw[if_neg hno,qy];first
  | exact bd (m:=yn _) (w6 (lw ⟨_,rfl,lw h⟩) htake)
  | exact bd (m:=yn _) (w6 (bd (lw (lw ⟨_,rfl,lw h⟩))) htake)
  | exact bd (bd (m:=yn _) (w6 (lw (lw ⟨_,rfl,lw h⟩)) htake))
  | exact bd (bd (m:=yn _) (w6 (lw ⟨_,rfl,lw h⟩) htake))
end
end HT
namespace L2
open PySem PySem.Spec PyProof.Rows
abbrev TO:=St->Hp->(Option Int->Hp->Prop)->Prop
def PO (X:Cx)(e:Option Expr)(t:TO):Prop :=
 ∀(pins:List (Addr×Obj)) (s:bn) (σ:St) (H:Hp) (Q:Option Int->Hp->Prop),Inv X pins σ H s->t σ H Q ->
  nw (pp X.prog X.w) X.A (evalPart e X.env) (λu s'=>∃o H',Inv X pins σ H' s'/\AD u o/\Q o H') X.xe s
def tNoPart:TO:=λ_ H Q=>Q none H
def uc (t:TE):TO:=λσ H Q=>t σ H λx H1=>∃i,x = .int i/\Q (some i) H1
section
variable {X:Cx}{e:Expr}{te:TE}{lo hi:Option Expr}{tl th:TO}{pos p2:Pos}
theorem fv:PO X none tNoPart:=by
 intro pins s σ H Q I h;rw[Cd];exact lw ⟨none,H,I,.none,h⟩
theorem eA (h:PE X e te):PO X (some e) (uc te):=by
 intro pins s σ H Q I hw;rw[evalPart_some];refine thn (h pins s σ H _ I hw) λu s1 ⟨x,H1,I1,r1,q1⟩=>?_;obtain⟨i,rfl,q⟩:=q1;obtain⟨t,rfl⟩:=r1;exact⟨some i,H1,I1,.int i t,q⟩
def SlR (X:Cx)(r:V->Option Int->Option Int->Hp->VK->Prop):Prop :=
 ∀(pins:List (Addr×Obj)) (s:bn) (σ:St) (H:Hp) (x:V) (v vl vu:bi) (lo hi:Option Int) (sl:Addr) (Q:VK),Inv X pins σ H s->RelV x v->s.heap.IsSliceOf sl vl vu .none->AD vl lo->AD vu hi->r x lo hi H Q ->
  ∃T id,A2 (.type T) "__getitem__" = pure (some (.builtin id))/\s.TypeIs v T/\nw (pp X.prog X.w) X.A (zn v (.ref sl)) (EP X pins σ Q) X.xe s
def tSl (r:V->Option Int->Option Int->Hp->VK->Prop)(te:TE)(tl th:TO):TE:=λσ H Q=>te σ H λx H1=>tl σ H1 λl H2=>th σ H2 λu H3=>r x l u H3 Q
theorem dJ {r:V->Option Int->Option Int->Hp->VK->Prop}(hr:SlR X r)(he:PE X e te)(hl:PO X lo tl)(hu:PO X hi th):PE X (.Subscript e (.Slice lo hi none p2) pos) (tSl r te tl th):=by
 intro pins s σ H Q I h;refine BW (thn (he pins s σ H _ I h) λv s1 ⟨x,H1,I1,r1,q1⟩=>?_);refine wpAny_Slice (thn (hl pins s1 σ H1 _ I1 q1) λvl s2 ⟨l,H2,I2,pl,q2⟩=>thn (hu pins s2 σ H2 _ I2 q2) λvu s3 ⟨u,H3,I3,pu,q3⟩=>?_);rw[Cd];refine lw ?_;have I4:Inv X pins σ H3 {s3 with heap:=s3.heap.push {cls:=.type "slice",data:=.fields #[vl,vu,.none]}}:=I3.kept (t':=s3.toks) λb ob q=>bv _ q;obtain⟨T,id,hT,ht,hg⟩:=hr pins {s3 with heap:=s3.heap.push {cls:=.type "slice",data:=.fields #[vl,vu,.none]}} σ H3 x v vl vu l u s3.heap.objs.size Q I4 r1 (Bb ..) pl pu q3;show nw (pp X.prog X.w) X.A (AQ e (.Slice lo hi none p2) v (.ref s3.heap.objs.size)) (EP X pins σ Q) X.xe {s3 with heap:=s3.heap.push {cls:=.type "slice",data:=.fields #[vl,vu,.none]}};exact tail_any (ops:=[.ref s3.heap.objs.size,v]) ht hT hg (by with_unfolding_all rfl)
def cutV (xs:List V)(lo hi:Option Int):List V:=(xs.drop (HT.sIx xs.length 0 lo)).take (HT.sIx xs.length xs.length hi - HT.sIx xs.length 0 lo)
theorem iA (xs:List V)(lo hi:Option Int):(cutV xs lo hi).length<=xs.length:=by
 unfold cutV;rw[xm,zP];omega
def rSlT (K:ac):V->Option Int->Option Int->Hp->VK->Prop:=λx lo hi H Q=>∃a xs,x = .ref a/\SqT K H a xs /\
 ¬(HT.sIx xs.length 0 lo=0/\HT.sIx xs.length xs.length hi=xs.length)/\∀p,H p=none->Q (.ref p) (upd H p (.tup (cutV xs lo hi)))
theorem ug:SlR X (rSlT X.K):=by
 intro pins s σ H x v vl vu lo hi sl Q I rx hs pl pu h;obtain⟨a,xs,rfl,hx,hw,q⟩:=h;cases rx
 obtain⟨its,r,ht,hz⟩:=I.tuple hx;have hlen:its.toArray.size=xs.length:=by rw[kt];exact r.length.symm
 refine⟨"tuple",_,xb.lookup,ht.typeIs,?_⟩;refine HT.getItem_tuple_cut ht hs pl pu (by rw[hlen];exact hw) ?_ (by rw[hlen];exact hz);rw[hlen];refine⟨.ref s.heap.objs.size,_,I.laid (t':=s.toks) (o:=.tup (cutV xs lo hi)) (λb ob q=>bv _ q) (ms _) ?_,rfl,q _ (I.hok.fresh (ms _))⟩;exact⟨wo (iA xs lo hi) hz,_,(r.drop (HT.sIx xs.length 0 lo)).take (HT.sIx xs.length xs.length hi - HT.sIx xs.length 0 lo),Eb _ _⟩
end
def ixN (n:Nat)(i:Int):Option Nat:=if 0<=i then(if i<n then some i.toNat else none)else if -(n:Int)<=i then some (i+n).toNat else none
def atI {α:Type}(xs:List α)(i:Int):Option α:=(ixN xs.length i).bind λj=>xs[j]?
theorem tf {n:Nat}{i:Int}{j:Nat}(h:ixN n i=some j):seqIndex? i n=some j/\j<n/\-(n:Int)<=i/\i<n:=by
 unfold ixN at h;by_cases h0:0<=i
 ·rw[if_pos h0]at h;by_cases h1:i<n
  ·rw[if_pos h1]at h;have e:i.toNat=j:=xy h;exact⟨by rw[seqIndex_of h0 h1,e],by omega,by omega,h1⟩
  ·rw[if_neg h1]at h;cases h
 ·rw[if_neg h0]at h;by_cases h1:-(n:Int)<=i
  ·rw[if_pos h1]at h;have e:(i+n).toNat=j:=xy h;exact⟨by rw[seqIndex_neg (by omega) h1,e],by omega,h1,by omega⟩
  ·rw[if_neg h1]at h;cases h
theorem l3 {α:Type}{xs:List α}{i:Int}{v:α}(h:atI xs i=some v):∃j,seqIndex? i xs.length=some j/\xs[j]? = some v/\j<xs.length/\-(xs.length:Int)<=i/\i<xs.length:=by
 unfold atI at h;cases e:ixN xs.length i with
 | none=>rw[e]at h;cases h
 | some j =>
  rw[e]at h;obtain⟨h1,h2,h3,h4⟩:=tf e;exact⟨j,h1,h,h2,h3,h4⟩
theorem gq {α:Type}{xs:List α}{j:Nat}{v:α}(h:xs[j]? = some v):atI xs (j:Int)=some v:=by
 have hj:j<xs.length:=(lm.mp h).1;have e:ixN xs.length (j:Int)=some j:=by
  unfold ixN;rw[if_pos (by omega),if_pos (by omega)];simp
 unfold atI;rw[e];exact h
def tT (b:Expr):Prop:=∀o i,Aw b false o i=DH [o,i] (zn o i)
def IxR (X:Cx)(r:R2):Prop :=
 ∀(value slice:Expr) (pins:List (Addr×Obj)) (s:bn) (σ:St) (H:Hp) (x y:V) (v u:bi) (Q:VK),Inv X pins σ H s->RelV x v->RelV y u->r x y H Q ->
  Aw slice false v u=DH [v,u] (zn v u)->nw (pp X.prog X.w) X.A (AQ value slice v u) (EP X pins σ Q) X.xe s
def MtR (X:Cx)(id:String)(r:V->List V->Hp->VK->Prop):Prop :=
 ∀(pins:List (Addr×Obj)) (s:bn) (σ:St) (H:Hp) (x:V) (xs:List V) (v:bi) (us:List bi) (Q:VK),Inv X pins σ H s->RelV x v->Vals xs us->r x xs H Q ->
  nw (pp X.prog X.w) X.A (call (.builtin id) (v::us)) (EP X pins σ Q) X.xe s
section
variable {X:Cx}{a b:Expr}{ta tb:TE}{pos:Pos}
theorem IxR.or {r r':R2}(h:IxR X r)(h':IxR X r'):IxR X (λx y H Q=>r x y H Q∨r' x y H Q):=by
 intro value slice pins s σ H x y v u Q I rx ry q hs;rcases q with q | q
 ·exact h value slice pins s σ H x y v u Q I rx ry q hs
 ·exact h' value slice pins s σ H x y v u Q I rx ry q hs
theorem bA {r:R2}(hr:IxR X r)(ha:PE X a ta)(hb:PE X b tb)(hs:tT b):PE X (.Subscript a b pos) (tOp r ta tb):=by
 intro pins s σ H Q I h;exact BW (binT ha hb I h λv u s2 x y H2 I2 rx ry q=>hr a b pins s2 σ H2 x y v u Q I2 rx ry q (hs _ _))
def rIxL (K:ac):R2:=λx y H Q=>∃p xs i v,x = .ref p/\y = .int i/\SqL K H p xs/\atI xs i=some v/\Q v H
def rIxT (K:ac):R2:=λx y H Q=>∃p xs i v,x = .ref p/\y = .int i/\SqT K H p xs/\atI xs i=some v/\Q v H
def rIxS:R2:=λx y H Q=>∃z i c,x = .str z/\y = .int i/\z.length<=v5/\atI z.cps.toList i=some c/\Q (.str ⟨#[c]⟩) H
theorem s_:IxR X (rIxL X.K):=by
 intro value slice pins s σ H x y v u Q I rx ry h hs;obtain⟨p,xs,i,z,rfl,rfl,hq,he,q⟩:=h;cases rx
 obtain⟨t,rfl⟩:=ry;obtain⟨its,r,pl,hz⟩:=I.list hq;obtain⟨j,h1,h2,h3,h4,h5⟩:=l3 he;obtain⟨w,ew,rw'⟩:=r.get h2;have hl:=r.length;have hn:=kC;have fin:EP X pins σ Q w s:=⟨z,H,I,rw',q⟩
 by_cases h0:0<=i
 ·have hj:i.toNat=j:=by
   rw[seqIndex_of h0 h5]at h1;exact xy h1
  exact item_listR pl.isList h0 (by omega) (by rw[hj];simpa using ew) fin hs
 ·have hj:(i+(its.toArray.size:Int)).toNat=j:=by
   rw[seqIndex_neg (by omega) h4]at h1;rw[kt,<- hl];exact xy h1
  exact CF (x:=w) pl.isList.typeIs Bk.lookup
   (wpAny_getItem_list_neg (Q:=λr s'=>r=w/\EP X pins σ Q r s') pl.isList (by omega) (by rw[kt] <;> omega) (by omega) (by rw[hj];simpa using ew) ⟨rfl,fin⟩) hs
theorem uW:IxR X (rIxT X.K):=by
 intro value slice pins s σ H x y v u Q I rx ry h hs;obtain⟨p,xs,i,z,rfl,rfl,hq,he,q⟩:=h;cases rx
 obtain⟨t,rfl⟩:=ry;obtain⟨its,r,pl,hz⟩:=I.tuple hq;obtain⟨j,h1,h2,h3,h4,h5⟩:=l3 he;obtain⟨w,ew,rw'⟩:=r.get h2;have hl:=r.length;have hn:=kC;have fin:EP X pins σ Q w s:=⟨z,H,I,rw',q⟩
 exact CF (x:=w) pl.typeIs xb.lookup
  (getItem_tuple (j:=j) (Q:=λr s'=>r=w/\EP X pins σ Q r s') pl (by omega) (by omega) (by rw[kt,<- hl];exact h1) (by simpa using ew) ⟨rfl,fin⟩) hs
theorem uX:IxR X rIxS:=by
 intro value slice pins s σ H x y v u Q I rx ry h hs;obtain⟨z,i,c,rfl,rfl,hz,he,q⟩:=h;obtain⟨t,rfl⟩:=rx;obtain⟨t',rfl⟩:=ry;obtain⟨j,h1,h2,h3,h4,h5⟩:=l3 he;have hl:z.cps.toList.length=z.length:=by simp[Str.length]
 rw[hl]at h1 h4 h5;have hn:=kC;exact tail_any (typeIs_str s z t) slot_str_getitem.lookup (getItem_str (c:=c) (by
  have e1:decide (i < -(2^63:Int))=false:=decide_eq_false (by omega);have e2:decide (i>=2^63)=false:=decide_eq_false (by omega);rw[e1,e2,BE]) (by rw[h1];simpa using h2) ⟨.str ⟨#[c]⟩,H,I.tok _,⟨_,rfl⟩,q⟩) hs
def rIx (K:ac):R2:=λx y H Q=>rIxL K x y H Q∨rIxT K x y H Q∨rIxS x y H Q
theorem uY:IxR X (rIx X.K):=s_.or (uW.or uX)
theorem kg (lo hi:Option Int)(n:Nat):(zt lo hi none n).1=((HT.sIx n 0 lo:Nat):Int)/\(zt lo hi none n).2.1=((HT.sIx n n hi:Nat):Int)/\(zt lo hi none n).2.2=1:=by
 refine⟨?_,?_,rfl⟩
 ·cases lo with
  | none=>simp[zt,HT.sIx]
  | some i =>
   simp only[zt,HT.sIx,Cv,show(1:Int) > 0 by decide,if_true];by_cases h:i<0
   ·simp only[h,if_true] <;> omega
   ·simp only[h,if_false] <;> omega
 ·cases hi with
  | none=>simp[zt,HT.sIx]
  | some i =>
   simp only[zt,HT.sIx,Cv,show(1:Int) > 0 by decide,if_true];by_cases h:i<0
   ·simp only[h,if_true] <;> omega
   ·simp only[h,if_false] <;> omega
theorem jz (its:List bi)(lo hi:Option Int):slicePick its.toArray lo hi none=((its.drop (HT.sIx its.length 0 lo)).take (HT.sIx its.length its.length hi - HT.sIx its.length 0 lo)).toArray:=by
 obtain⟨h1,h2,h3⟩:=kg lo hi its.toArray.size;unfold slicePick;rw[h1,h2,h3];simp only[sliceRange_one,pick_run,kt] <;> rfl
def rSlL (K:ac):V->Option Int->Option Int->Hp->VK->Prop:=λx lo hi H Q=>∃a xs,x = .ref a/\SqL K H a xs/\∀p,H p=none->Q (.ref p) (upd H p (.lst (cutV xs lo hi)))
theorem sh:SlR X (rSlL X.K):=by
 intro pins s σ H x v vl vu lo hi sl Q I rx hs pl pu h;obtain⟨a,xs,rfl,hx,q⟩:=h;cases rx
 obtain⟨its,r,ht,hz⟩:=I.list hx;have hlen:=r.length;refine⟨"list",_,Bk.lookup,ht.isList.typeIs,?_⟩;refine B_ ht.isList hs pl pu .none (by simp) ?_ (by rw[kt] <;> omega);rw[jz,<- hlen];refine⟨.ref s.heap.objs.size,_,I.laid (t':=s.toks) (o:=.lst (cutV xs lo hi)) (λb ob q=>bv _ q) (ms _) ?_,rfl,q _ (I.hok.fresh (ms _))⟩;exact⟨wo (iA xs lo hi) hz,_,0,(r.drop (HT.sIx xs.length 0 lo)).take (HT.sIx xs.length xs.length hi - HT.sIx xs.length 0 lo),wa _ rfl⟩
def iQ:V->Bool
 | .non=>true
 | .bl _=>true
 | .int _=>true
 | .str _=>true
 | _=>false
def eqV:V->V->Bool
 | .non,.non=>true
 | .bl a,.bl b=>a==b
 | .bl a,.int b=>(if a then 1 else 0)==b
 | .int a,.bl b=>a==(if b then 1 else 0)
 | .int a,.int b=>a==b
 | .str a,.str b=>a==b
 | _,_=>false
theorem vb {A:wy}{s:bn}{y x:V}{u v:bi}(ry:RelV y u)(rx:RelV x v)(fy:iQ y=true)(fx:iQ x=true):zw A s u v (eqV y x):=by
 cases y with
 | non =>
  cases ry
  cases x with
  | non=>cases rx;exact SeqAt.EqAt.same _
  | bl b=>cases rx;exact SeqAt.EqAt.none_bool b
  | int b=>obtain⟨t,rfl⟩:=rx;exact SeqAt.EqAt.none_int b t
  | str b=>obtain⟨t,rfl⟩:=rx;exact SeqAt.EqAt.none_str b t
  | _=>exact absurd (show false=true from fx) wS
 | bl a =>
  cases ry
  cases x with
  | non=>cases rx;exact SeqAt.EqAt.bool_none a
  | bl b=>cases rx;exact SeqAt.EqAt.bool_bool a b
  | int b=>obtain⟨t,rfl⟩:=rx;exact SeqAt.EqAt.bool_int a b t
  | str b=>obtain⟨t,rfl⟩:=rx;exact SeqAt.EqAt.bool_str a b t
  | _=>exact absurd (show false=true from fx) wS
 | int a =>
  obtain⟨t',rfl⟩:=ry;cases x with
  | non=>cases rx;exact SeqAt.EqAt.int_none a t'
  | bl b=>cases rx;exact SeqAt.EqAt.int_bool a t' b
  | int b=>obtain⟨t,rfl⟩:=rx;exact SeqAt.EqAt.int_int a t' b t
  | str b=>obtain⟨t,rfl⟩:=rx;exact BA a t' b t
  | _=>exact absurd (show false=true from fx) wS
 | str a =>
  obtain⟨t',rfl⟩:=ry;cases x with
  | non=>cases rx;exact SeqAt.EqAt.str_none a t'
  | bl b=>cases rx;exact SeqAt.EqAt.str_bool a t' b
  | int b=>obtain⟨t,rfl⟩:=rx;exact Bz a t' b t
  | str b=>obtain⟨t,rfl⟩:=rx;exact SeqAt.EqAt.str_str a t' b t
  | _=>exact absurd (show false=true from fx) wS
 | _=>exact absurd (show false=true from fy) wS
def eqU (x:V)(u:bi):Bool:=match u with
 | .none=>eqV .non x
 | .bool b=>eqV (.bl b) x
 | .int i _=>eqV (.int i) x
 | .str z _=>eqV (.str z) x
 | _=>false
theorem rK {x y:V}{u:bi}(r:RelV y u)(f:iQ y=true):eqU x u=eqV y x:=by
 cases y with
 | non=>cases r;rfl
 | bl b=>cases r;rfl
 | int i=>obtain⟨t,rfl⟩:=r;rfl
 | str z=>obtain⟨t,rfl⟩:=r;rfl
 | _=>exact absurd (show false=true from f) wS
theorem l4 {x:V}:∀ {xs:List V} {us:List bi},Vals xs us->xs.all iQ=true->us.any (eqU x)=xs.any λy=>eqV y x
 | _,_,.nil,_=>rfl
 | y::xs,u::us,.cons r t,f=>by
  rw[zL,wC]at f;rw[xR,xR,rK r f.1,l4 t f.2]
theorem jM {A:wy}{s:bn}{x:V}{v:bi}(rx:RelV x v)(fx:iQ x=true):∀ {xs:List V} {us:List bi},Vals xs us->xs.all iQ=true->∀u∈us,zw A s u v (eqU x u)
 | _,_,.nil,_=>λu hu=>by cases hu
 | y::xs,u::us,.cons r t,f=>λu' hu=>by
  rw[zL,wC]at f;rcases we.mp hu with rfl | hu
  ·rw[rK r f.1];exact vb r rx f.1 fx
  ·exact jM rx fx t f.2 u' hu
def inV (x:V)(xs:List V):Bool:=xs.any λy=>eqV y x
def rIn (K:ac)(neg:Bool):R2:=λx y H Q=>∃p xs,y = .ref p/\(SqL K H p xs∨SqT K H p xs)/\iQ x=true/\xs.all iQ=true/\Q (.bl (if neg then !inV x xs else inV x xs)) H
theorem pb:OpR X (yH .In) (rIn X.K false):=by
 intro pins s σ H x y v u Q I rx ry h;obtain⟨p,xs,rfl,hq,fx,fs,q⟩:=h;cases ry
 rcases hq with hq | hq
 ·obtain⟨its,r,pl,hz⟩:=I.list hq;refine SeqAt.in_listAt (eqU x) pl.isList (λw hw=>jM rx fx r fs w (by simpa using hw)) ⟨.bl _,H,I,rfl,?_⟩;rw[show its.toArray.any (eqU x)=its.any (eqU x)by simp,l4 r fs];exact q
 ·obtain⟨its,r,pl,hz⟩:=I.tuple hq;refine SeqAt.in_tupleAt (eqU x) pl (λw hw=>jM rx fx r fs w (by simpa using hw)) ⟨.bl _,H,I,rfl,?_⟩;rw[show its.toArray.any (eqU x)=its.any (eqU x)by simp,l4 r fs];exact q
theorem kT:gL X (.builtin "len") (λxs H Q=>∃p ys,xs=[.ref p]/\(SqL X.K H p ys∨SqT X.K H p ys)/\Q (.int ys.length) H):=by
 intro pins s σ H xs us Q I r h;obtain⟨p,ys,rfl,hq,q⟩:=h;obtain⟨u,rfl,rx⟩:=k9 r;cases rx
 have hn:=kC;rcases hq with hq | hq
 ·obtain⟨its,r',pl,hz⟩:=I.list hq;have hlen:=r'.length;exact Calls.call_len_list pl.isList (by simp only[kt] <;> omega) ⟨.int ys.length,H,I.tok _,⟨s.toks+1,by rw[kt,hlen]⟩,q⟩
 ·obtain⟨its,r',pl,hz⟩:=I.tuple hq;have hlen:=r'.length;exact len_tuple pl (by simp only[kt] <;> omega) ⟨.int ys.length,H,I.tok _,⟨s.toks+1,by rw[kt,hlen]⟩,q⟩
theorem kS:gL X (.type "list") (λxs H Q=>∃p ys,xs=[.ref p]/\(SqL X.K H p ys∨SqT X.K H p ys)/\∀l,H l=none->Q (.ref l) (upd H l (.lst ys))):=by
 intro pins s σ H xs us Q I r h;obtain⟨p,ys,rfl,hq,q⟩:=h;obtain⟨u,rfl,rx⟩:=k9 r;cases rx
 have fin:∀(its:List bi),Vals ys its->ys.length<=v5->∀(h':Heap) (c':Nat),(∀b o',s.heap.get? b=some o'->h'.get? b=some o') ->
   h'.get? s.heap.objs.size=some {cls:=.type "list",dict:=none,data:=.seq its.toArray c',slots:=#[]}->EP X pins σ Q (.ref s.heap.objs.size) {s with heap:=h'}:=λits r' hz h' c' kp e =>
  ⟨.ref s.heap.objs.size,_,I.laid (t':=s.toks) kp (ms _) (show cK X.prog X.w _ h' _ (.lst ys)from⟨hz,its,c',r',e⟩),rfl,q _ (I.hok.fresh (ms _))⟩
 rcases hq with hq | hq
 ·obtain⟨its,r',pl,hz⟩:=I.list hq;have hlen:=r'.length;obtain⟨o,ho,hc,n,hd⟩:=pl.isList;exact call_list_seq p (.inl rfl) ho hc hd (λh' c' kp e=>fin its r' hz h' c' kp e) (by simp only[kt] <;> omega)
 ·obtain⟨its,r',pl,hz⟩:=I.tuple hq;have hlen:=r'.length;obtain⟨o,ho,hc,n,hd⟩:=pl;exact call_list_seq p (.inr rfl) ho hc hd (λh' c' kp e=>fin its r' hz h' c' kp e) (by simp only[kt] <;> omega)
theorem jW:gL X (.type "tuple") (λxs H Q=>∃p ys,xs=[.ref p]/\((SqL X.K H p ys/\∀l,H l=none->Q (.ref l) (upd H l (.tup ys)))∨(SqT X.K H p ys/\Q (.ref p) H))):=by
 intro pins s σ H xs us Q I r h;obtain⟨p,ys,rfl,h⟩:=h;obtain⟨u,rfl,rx⟩:=k9 r;cases rx
 rcases h with⟨hq,q⟩ | ⟨hq,q⟩
 ·obtain⟨its,r',pl,hz⟩:=I.list hq;have hlen:=r'.length;refine call_tuple_list pl.isList (λh' kp=>?_) (by simp only[kt] <;> omega);have I1:Inv X pins σ H {s with heap:=h'}:=I.kept (t':=s.toks) kp;have I2:Inv X pins σ (upd H h'.objs.size (.tup ys)) {s with heap:=h'.push {cls:=.type "tuple",data:=.seq its.toArray}} :=
   I1.laid (t':=s.toks) (λb o e=>bv _ e) (ms _) (show cK X.prog X.w _ _ _ (.tup ys)from⟨hz,its,r',Eb _ _⟩)
  exact⟨.ref h'.objs.size,_,I2,rfl,q _ (I1.hok.fresh (ms _))⟩
 ·obtain⟨its,r',pl,hz⟩:=I.tuple hq;exact call_tuple_same pl ⟨.ref p,H,I,rfl,q⟩
def tyV (K:ac)(T:String)(x:V)(H:Hp):Prop:=match x with
 | .str _=>T = "str"
 | .int _=>T = "int"
 | .ref p=>(T = "list" /\ ∃xs,SqL K H p xs)∨(T = "tuple" /\ ∃o,K.lookup p=some o/\o.cls = .type "tuple" /\ o.dict=none) ∨
   (T = "dict" /\ ((∃kvs,H p=some (.dK kvs)) ∨ ∃kvs,H p=some (.dT kvs)))∨(T = "set" /\ ∃S n,H p=some (.set S n))
 | _=>False
theorem t2 {pins:List (Addr×Obj)}{σ:St}{H:Hp}{s:bn}{T:String}{x:V}{v:bi}(I:Inv X pins σ H s)(r:RelV x v)(ty:tyV X.K T x H) :
  s.TypeIs v T/\∀a,v = .ref a->∃ob,s.heap.get? a=some ob/\ob.dict=none:=by
 cases x with
 | str z =>
  obtain⟨t,rfl⟩:=r;cases (show T = "str" from ty)
  exact⟨typeIs_str s z t,λ_ e=>nomatch e⟩
 | int i =>
  obtain⟨t,rfl⟩:=r;cases (show T = "int" from ty)
  exact⟨Dt s i t,λ_ e=>nomatch e⟩
 | ref p =>
  cases r
  rcases ty with⟨rfl,xs,hq⟩ | ⟨rfl,o,hk,hc,hd⟩ | ⟨rfl,hk⟩ | ⟨rfl,S,n,hk⟩
  ·obtain⟨its,_,pl,_⟩:=I.list hq;refine⟨pl.isList.typeIs,λa e=>?_⟩;cases e
   obtain⟨o,n,e,c,hd,_⟩:=pl;exact⟨o,e,hd⟩
  ·refine⟨⟨o,I.kIn p o hk,hc⟩,λa e=>?_⟩;cases e
   exact⟨o,I.kIn _ o hk,hd⟩
  ·have z:∃o,s.heap.get? p=some o/\o.ExactDict:=by
    rcases hk with⟨kvs,hk⟩ | ⟨kvs,hk⟩
    ·obtain⟨_,_,_,_,o,_,_,e,ex,_⟩:=I.hok p _ hk;exact⟨o,e,ex⟩
    ·obtain⟨_,_,_,_,o,_,_,e,ex,_⟩:=I.hok p _ hk;exact⟨o,e,ex⟩
   obtain⟨o,e,ex⟩:=z;refine⟨⟨o,e,ex.1⟩,λa e2=>?_⟩;cases e2
   exact⟨o,e,ex.2.1⟩
  ·obtain⟨o,_,_,_,e,ex,_⟩:=I.hok p _ hk;refine⟨⟨o,e,ex.1⟩,λa e2=>?_⟩;cases e2
   exact⟨o,e,ex.2.1⟩
 | _=>exact wD ty
def tBM (K:ac)(T:String)(r:V->List V->Hp->VK->Prop)(to:TE)(t:TA):TE:=λσ H Q=>to σ H λx H1=>tyV K T x H1/\t σ H1 λxs H2=>r x xs H2 Q
variable {o e:Expr}{es:List Expr}{to:TE}{t:TA}{name:Str}{apos cpos:Pos}{T id:String}{r:V->List V->Hp->VK->Prop}
theorem vD (pa:PlainAttrs T)(slot:Slot T name id)(hty:typeOf (.builtin id)=pure (.type "method_descriptor"))(hm:MtR X id r)(ho:PE X o to)(ha:PA X (e::es) t)
  (hbase:AU o name X.env (eval o X.env)=eval o X.env:=by rfl)
  (hfew:((yt cpos (wq (e::es) X.env)).all (λx=>!x.1)&&(backToKw cpos (C8 [] X.env)).all (λx=>x.1.isSome)
   && decide ((e::es).length+([]:List DP).length+(if([]:List DP).isEmpty then 0 else 1)<30))=true:=by rfl)
  (hline:(apos.endLine==cpos.line)=true:=by rfl) (hs:wq (e::es) X.env=(false,eval e X.env)::wq es X.env:=by rfl) (hplain:(yt cpos (wq es X.env)).any (·.1)=false:=by rfl) :
  PE X (.Call (.Attribute o name apos) (e::es) [] cpos) (tBM X.K T r to t):=by
 intro pins s σ H Q I h;refine wpAny_Call_method_late hbase hfew hline rfl (thn (ho pins s σ H _ I h) λv s1 ⟨x,H1,I1,r1,ty,q1⟩=>?_);obtain⟨h1,h2⟩:=t2 I1 r1 ty;refine⟨T,id,pa,slot,hty,h1,h2,?_⟩;have hA:=ha cpos pins s1 σ H1 _ I1 q1;rw[hs]at hA ⊢;refine BJ (by show(false||(yt cpos (wq es X.env)).any (·.1))=false;rw[hplain] <;> rfl) (y7 ?_);exact thn hA λus s2 ⟨vs,H2,I2,r2,q2⟩=>hm pins s2 σ H2 x vs v us Q I2 r1 r2 q2
end
def MtM (X:Cx)(id:String)(r:V->List V->Hp->VK->Prop):Prop :=
 ∀(pins:List (Addr×Obj)) (s:bn) (σ:St) (H:Hp) (x:V) (xs:List V) (v:bi) (us:List bi) (Q:VK),Inv X pins σ H s->RelV x v->Vals xs us->r x xs H Q ->
  nw (pp X.prog X.w) X.A (call (.builtin id) (v::us)) (EP X pins σ Q) X.xe s
theorem Vals.one:∀ {x:V} {us:List bi},Vals [x] us->∃u,us=[u]/\RelV x u
 | _,_,.cons r .nil=>⟨_,rfl,r⟩
section
variable {X:Cx}{pins:List (Addr×Obj)}{σ:St}{H:Hp}{s:bn}{l b:Addr}{xs ys zs:List V}
theorem Inv.lset {its its':List bi}{n:Nat}{f:Array bi->Array bi}{t':Nat}(I:Inv X pins σ H s)(hH:H l=some (.lst xs))
  (e:s.heap.get? l=some {cls:=.type "list",data:=.seq its.toArray n}) (hf:f its.toArray=its'.toArray) (hv:Vals ys its') (hz:ys.length<=v5) :
  Inv X pins σ (upd H l (.lst ys)) {s with heap:=s.heap.update l (xC f),toks:=t'}:=by
 have q:=An e f;rw[hf]at q;refine I.write (x:=l) (e:=l) (by rw[hH];exact trivial) (.inl rfl) (λb' u hb hu=>(vY s.heap (xC f) (xc hb)).trans hu) ⟨_,q⟩ ?_;exact⟨hz,its',_,hv,q⟩
theorem Inv.lstM (I:Inv X pins σ H s)(hH:H l=some (.lst xs)):xs.length<=v5/\∃(its:List bi) (n:Nat),Vals xs its/\xs.length=its.length/\s.heap.get? l=some {cls:=.type "list",data:=.seq its.toArray n}:=by
 obtain⟨z,its,n,r,e⟩:=I.hok l _ hH;exact⟨z,its,n,r,r.length,e⟩
end
section
variable {X:Cx}
def rAppend:V->List V->Hp->VK->Prop:=λx vs H Q=>∃l xs y,x = .ref l/\vs=[y]/\H l=some (.lst xs)/\xs.length<v5/\Q .non (upd H l (.lst (xs++[y])))
theorem bx:MtM X "list.append" rAppend:=by
 intro pins s σ H x vs v us Q I rx rv h;obtain⟨l,xs,y,rfl,rfl,hH,hz,q⟩:=h;cases rx
 obtain⟨u,rfl,ru⟩:=rv.one;obtain⟨z,its,n,r,hl,e⟩:=I.lstM hH;refine A6 v_ ⟨_,e,rfl⟩ AF (Ao _ _) (Az l its.toArray n u (by rw[kt];omega)) ⟨e,?_⟩;refine⟨.non,_,I.lset (its':=its++[u]) hH e (by simp) (r.append (.cons ru .nil)) ?_,rfl,q⟩;rw[wb,wH];omega
end
section
variable {κ:Type} [DecidableEq κ]
def valV (kvs:List (κ×V))(k:κ):Option V:=(kvs.find? λkv=>decide (kv.1=k)).map (·.2)
def putK (kvs:List (κ×V))(k:κ)(v:V):List (κ×V) :=
 if(kvs.any λkv=>decide (kv.1=k))=true then kvs.map (λkv=>if kv.1=k then(kv.1,v)else kv)else kvs++[(k,v)]
theorem gM {p:κ×V}{r:List (κ×V)}{k:κ}(e:p.1=k):valV (p::r) k=some p.2:=by simp[valV,xv,e]
theorem gN {p:κ×V}{r:List (κ×V)}{k:κ}(e:¬p.1=k):valV (p::r) k=valV r k:=by simp[valV,xv,e]
theorem l8 (k:κ):∀kvs:List (κ×V),(kvs.any λkv=>decide (kv.1=k))=(valV kvs k).isSome
 | []=>rfl
 | p::r=>by
  rw[xR];by_cases e:p.1=k
  ·simp only[gM e,decide_eq_true e,Bool.true_or,B4]
  ·rw[gN e,decide_eq_false e,DB];exact l8 k r
theorem fA (kvs:List (κ×V))(k:κ)(v:V):(putK kvs k v).length<=kvs.length+1:=by
 unfold putK;split
 ·rw[db];omega
 ·rw[wb,wn,za];omega
theorem RelO.isSome_eq {o:Option V}{u:Option bi}(r:RelO o u):o.isSome=u.isSome:=by
 cases o with
 | none=>cases u with
  | none=>rfl
  | some _=>exact(show False from r).elim
 | some _=>cases u with
  | none=>exact(show False from r).elim
  | some _=>rfl
theorem KV.val {kvs:List (κ×V)}{vs:List (κ×bi)}(r:KV kvs vs)(k:κ):RelO (valV kvs k) (Bj vs k):=by
 unfold KV at r;induction r with
 | nil=>exact True.intro
 | @cons p q ps qs h t ih =>
  obtain⟨h1,h2⟩:=h;by_cases e:p.1=k
  ·have e':q.1=k:=h1.symm.trans e;have b:Bj (q::qs) k=some q.2:=by simp[Bj,xv,e']
   rw[gM e,b];exact h2
  ·have e':¬q.1=k:=λz=>e (h1.trans z);have b:Bj (q::qs) k=Bj qs k:=by simp[Bj,xv,e']
   rw[gN e,b];exact ih
theorem KV.any {kvs:List (κ×V)}{vs:List (κ×bi)}(r:KV kvs vs)(k:κ):(kvs.any λkv=>decide (kv.1=k))=vs.any λkv=>decide (kv.1=k):=by
 unfold KV at r;induction r with
 | nil=>rfl
 | cons h t ih=>rw[xR,xR,ih,h.1]
theorem KV.repl {kvs:List (κ×V)}{vs:List (κ×bi)}(r:KV kvs vs)(k:κ){y:V}{u:bi}(ry:RelV y u) :
  KV (kvs.map λkv=>if kv.1=k then(kv.1,y)else kv) (vs.map λkv=>if kv.1=k then(kv.1,u)else kv):=by
 unfold KV at r ⊢;induction r with
 | nil=>exact .nil
 | @cons p q ps qs h t ih =>
  rw[wv,wv];refine .cons ?_ ih;obtain⟨h1,h2⟩:=h;by_cases e:p.1=k
  ·rw[if_pos e,if_pos (h1.symm.trans e)];exact⟨h1,ry⟩
  ·rw[if_neg e,if_neg (λz=>e (h1.trans z))];exact⟨h1,h2⟩
theorem KV.put {kvs:List (κ×V)}{vs:List (κ×bi)}(r:KV kvs vs)(k:κ){y:V}{u:bi}(ry:RelV y u):KV (putK kvs k y) (stored vs k u):=by
 unfold putK stored;rw[r.any k];by_cases e:(vs.any λkv=>decide (kv.1=k))=true
 ·rw[if_pos e,if_pos e];exact r.repl k ry
 ·rw[if_neg e,if_neg e];exact Dz r ⟨rfl,ry⟩
theorem KV.length {kvs:List (κ×V)}{vs:List (κ×bi)}(r:KV kvs vs):kvs.length=vs.length:=Af r
end
theorem pA {P:v3}{w:wz}{k:Key}{u:bi}(r:RelV (kV k) u):(cc P w).is k u=true:=by
 cases k with
 | inl i=>obtain⟨t,e⟩:=(show ∃t,u=Value.int i t from r);subst e;exact lO P w i t
 | inr x=>obtain⟨t,e⟩:=(show ∃t,u=Value.str x t from r);subst e;exact lN P w x t
theorem kF {P:v3}{w:wz}:∀ {ks:List Key} {us:List bi},Vals (ks.map kV) us->ItemsAre (cc P w) ks us
 | [],_,r=>by rw[yu]at r;cases r;exact .nil
 | k::ks,_,r=>by
  rw[wv]at r;cases r with
  | cons h t=>exact .cons (pA h) (kF t)
abbrev KT (H:Hp):List (List Key×V)->List (List Key×Addr×bi)->Prop:=BY λp q=>p.1=q.1/\H q.2.1=some (.tup (p.1.map kV))/\RelV p.2 q.2.2
theorem KT.val {H:Hp}{kvs:List (List Key×V)}{xs:List (List Key×Addr×bi)}(r:KT H kvs xs)(k:List Key):RelO (valV kvs k) ((BV xs k).map (·.2)):=by
 induction r with
 | nil=>exact True.intro
 | @cons p q ps qs h t ih =>
  obtain⟨h1,_,h2⟩:=h;by_cases e:p.1=k
  ·have e':q.1=k:=h1.symm.trans e;have b:BV (q::qs) k=some q.2:=by simp[BV,xv,e']
   rw[gM e,b];exact h2
  ·have e':¬q.1=k:=λz=>e (h1.trans z);have b:BV (q::qs) k=BV qs k:=by simp[BV,xv,e']
   rw[gN e,b];exact ih
theorem KT.repl {H:Hp}{kvs:List (List Key×V)}{xs:List (List Key×Addr×bi)}(r:KT H kvs xs)(k:List Key){y:V}{u:bi}(ry:RelV y u) :
  KT H (kvs.map λkv=>if kv.1=k then(kv.1,y)else kv) (xs.map (putAt k u)):=by
 induction r with
 | nil=>exact .nil
 | @cons p q ps qs h t ih =>
  rw[wv,wv];refine .cons ?_ ih;obtain⟨h1,h2,h3⟩:=h;unfold putAt;by_cases e:p.1=k
  ·rw[if_pos e,if_pos (h1.symm.trans e)];exact⟨h1,h2,ry⟩
  ·rw[if_neg e,if_neg (λz=>e (h1.trans z))];exact⟨h1,h2,h3⟩
theorem KT.put {H:Hp}{kvs:List (List Key×V)}{xs:List (List Key×Addr×bi)}(r:KT H kvs xs)(k:List Key){b:Addr}{y:V}{u:bi}(hb:H b=some (.tup (k.map kV)))(ry:RelV y u) :
  KT H (putK kvs k y) (storedH xs k b u):=by
 have e:(kvs.any λkv=>decide (kv.1=k))=(BV xs k).isSome:=by
  rw[l8,(r.val k).isSome_eq,Cf]
 unfold putK storedH;rw[e];by_cases q:(BV xs k).isSome=true
 ·rw[if_pos q,if_pos q];exact r.repl k ry
 ·rw[if_neg q,if_neg q];exact Dz r ⟨rfl,hb,ry⟩
theorem KT.keeps {H H':Hp}{kvs:List (List Key×V)}{xs:List (List Key×Addr×bi)}(r:KT H kvs xs)(ht:∀b ys,H b=some (.tup ys)->H' b=some (.tup ys)):KT H' kvs xs :=
 Paired.mapP r λ_ _ z=>⟨z.1,ht _ _ z.2.1,z.2.2⟩
section
variable {P:v3}{w:wz}{H:Hp}{h:Heap}{a:Addr}
theorem uk {u:HO}(ok:HOk P w H h)(e:Rd H a u):cK P w H h a u:=e.ok ok
theorem qQ {kvs:List (Key×V)}(ok:HOk P w H h)(e:Rd H a (.dK kvs)):kvs.length<=v5/\(a==yF)=false/\∃vs,KV kvs vs/\h.DictOf (cc P w) a vs :=
 show cK P w H h a (.dK kvs)from uk ok e
theorem vc {kvs:List (Key×V)}(ok:HOk P w H h)(e:H a=some (.dK kvs)):kvs.length<=v5/\(a==yF)=false/\∃vs,KV kvs vs/\h.DictOf (cc P w) a vs:=qQ ok (.inl e)
theorem mH {ks:List Key}(ok:HOk P w H h)(e:H a=some (.tup (ks.map kV))):(Bw (cc P w)).is h ks a:=by
 obtain⟨_,its,r,o,h1,h2,n,h3⟩:=(show cK P w H h a (.tup (ks.map kV))from ok a _ e)
 exact⟨o,its.toArray,n,h1,h2,h3,by simpa using kF r⟩
theorem qP {kvs:List (List Key×V)}(ok:HOk P w H h)(e:Rd H a (.dT kvs)):kvs.length<=v5/\(a==yF)=false /\
  ∃xs,KT H kvs xs/\h.DictOfH (Bw (cc P w)) a xs:=by
 obtain⟨z,y,xs,r,o,es,ep,h1,h2,h3,h4,h5⟩:=(show cK P w H h a (.dT kvs)from uk ok e)
 refine⟨z,y,xs,r,o,es,ep,h1,h2,h3,h4,λx hx=>?_,h5⟩;have all:∀ {l:List (List Key×V)} {m:List (List Key×Addr×bi)},KT H l m->∀x∈m,(Bw (cc P w)).is h x.1 x.2.1:=by
  intro l m q;induction q with
  | nil=>intro x hx;exact nomatch hx
  | @cons p q ps qs hq t ih =>
   intro x hx;rcases we.mp hx with e | hx
   ·subst e;exact mH ok (by rw[<- hq.1];exact hq.2.1)
   ·exact ih x hx
 exact all r x hx
theorem vI {kvs:List (List Key×V)}(ok:HOk P w H h)(e:H a=some (.dT kvs)):kvs.length<=v5/\(a==yF)=false /\
  ∃xs,KT H kvs xs/\h.DictOfH (Bw (cc P w)) a xs:=qP ok (.inl e)
end
def DGet (H:Hp)(a:Addr)(y:V)(r:Option V):Prop :=
 (∃kvs k,Rd H a (.dK kvs)/\y=kV k/\r=valV kvs k) ∨ ∃kvs k b,Rd H a (.dT kvs)/\y = .ref b/\H b=some (.tup (k.map kV))/\r=valV kvs k
def DPut (H:Hp)(a:Addr)(y v:V)(H':Hp):Prop :=
 (∃kvs k,H a=some (.dK kvs)/\y=kV k/\kvs.length<v5/\H'=upd H a (.dK (putK kvs k v))) ∨
 ∃kvs k b,H a=some (.dT kvs)/\y = .ref b/\H b=some (.tup (k.map kV))/\kvs.length<v5/\H'=upd H a (.dT (putK kvs k v))
theorem DGet.k {H:Hp}{a:Addr}{kvs:List (Key×V)}{k:Key}(e:H a=some (.dK kvs)):DGet H a (kV k) (valV kvs k):=.inl ⟨kvs,k,.inl e,rfl,rfl⟩
theorem DPut.k {H:Hp}{a:Addr}{kvs:List (Key×V)}{k:Key}{v:V}(e:H a=some (.dK kvs))(hl:kvs.length<v5):DPut H a (kV k) v (upd H a (.dK (putK kvs k v))):=.inl ⟨kvs,k,e,rfl,hl,rfl⟩
section
variable {X:Cx}{pins:List (Addr×Obj)}{σ:St}{H:Hp}{s:bn}{a:Addr}{y v:V}{u r:bi}{o:Option V}{A:wy}{E:bi->bn->Prop}
theorem Inv.big (I:Inv X pins σ H s):yF<s.heap.objs.size:=by
 have h:vZ<s.heap.objs.size:=(I.mod.glob.keeps I.bk).lt;exact yD (by decide) h
theorem pS {Q:bi->bn->Prop}(hu:A.units+1<zv)(I:Inv X pins σ H s)(g:DGet H a y (some v))(ry:RelV y u)(h:∀w' s',Inv X pins σ H s'->RelV v w'->Q w' s') :
  nw (pp X.prog X.w) A (zn (.ref a) u) Q E s:=by
 rcases g with⟨kvs,k,e,ey,l⟩ | ⟨kvs,k,b,e,ey,eb,l⟩
 ·subst ey;obtain⟨z,hd,vs,rel,dd⟩:=qQ I.hok e;obtain⟨w',hw,rw'⟩:=RelO.some_of (v:=v) (o:=Bj vs k) (by rw[l];exact rel.val k);exact wpAny_getItem_of (pA ry) dd.mapOf hw (h w' _ (I.tok _) rw')
 ·subst ey;cases (show u=Value.ref b from ry)
  obtain⟨z,hd,xs,rel,dd⟩:=qP I.hok e;obtain⟨w',hw,rw'⟩:=RelO.some_of (v:=v) (o:=(BV xs k).map (·.2)) (by rw[l];exact rel.val k);obtain⟨p,hp,hp2⟩:=wt.mp hw;refine wpAny_getItem_heap (A3 hu) (mH I.hok eb) dd hp ?_;rw[hp2];exact h w' _ (I.tok _) rw'
theorem tJ {Q:bi->bn->Prop}(hu:A.units+1<zv)(I:Inv X pins σ H s)(g:DGet H a y o)(ry:RelV y u)(h:∀s',Inv X pins σ H s'->Q (.bool (!o.isSome)) s') :
  nw (pp X.prog X.w) A (yH .NotIn u (.ref a)) Q E s:=by
 rcases g with⟨kvs,k,e,ey,l⟩ | ⟨kvs,k,b,e,ey,eb,l⟩
 ·subst ey;obtain⟨z,hd,vs,rel,dd⟩:=qQ I.hok e;refine wpAny_notIn_of (pA ry) hd dd.mapOf ?_;rw[<- (rel.val k).isSome_eq,<- l];exact h _ (I.tok _)
 ·subst ey;cases (show u=Value.ref b from ry)
  obtain⟨z,hd,xs,rel,dd⟩:=qP I.hok e;refine wpAny_notIn_heap (A3 hu) (mH I.hok eb) hd dd ?_;have q:=(rel.val k).isSome_eq;rw[Cf]at q;rw[<- q,<- l];exact h _ (I.tok _)
theorem lW {h':Heap}{t':Nat}{ob:HO}(I:Inv X pins σ H s)(mu:Mut (H a))(hs:w_ a s.heap h')(he:∃q,h'.get? a=some q)(new:cK X.prog X.w (upd H a ob) h' a ob) :
  Inv X pins σ (upd H a ob) {s with heap:=h',toks:=t'} :=
 I.write (x:=a) (e:=a) mu (.inl rfl) (λb q hb z=>(hs.2 b hb).trans z) he new
theorem rL {P:v3}{w:wz}{H':Hp}{h':Heap}{kvs:List (Key×V)}{vs:List (Key×bi)}(z:kvs.length<=v5)(hd:(a==yF)=false)(rel:KV kvs vs)(dd:h'.DictOf (cc P w) a vs) :
  cK P w H' h' a (.dK kvs):=⟨z,hd,vs,rel,dd⟩
theorem pR {H':Hp}{Q:Unit->bn->Prop}(hu:A.units+1<zv)(I:Inv X pins σ H s)(g:DPut H a y v H')(ry:RelV y u)(rv:RelV v r)(h:∀s',Inv X pins σ H' s'->Q () s') :
  nw (pp X.prog X.w) A (setItem (.ref a) u r) Q E s:=by
 rcases g with⟨kvs,k,e,ey,l,eH⟩ | ⟨kvs,k,b,e,ey,eb,l,eH⟩
 ·subst ey eH;obtain⟨z,hd,vs,rel,dd⟩:=vc I.hok e;have hz:vs.length<=v5:=by rw[<- rel.length];exact z
  have hl:(putK kvs k v).length<=v5:=by have:=fA kvs k v;omega
  refine wpAny_setItem_pairs (hsz:=hz) (pA ry) dd λh' dd' hs=>h _ ?_;have he:∃q,h'.get? a=some q:=let ⟨q,_,_,hq,_⟩:=dd';⟨q,hq⟩;exact lW I (by rw[e];exact True.intro) hs he (rL hl hd (rel.put k rv) dd')
 ·subst ey eH;cases (show u=Value.ref b from ry)
  obtain⟨z,hd,xs,rel,dd⟩:=vI I.hok e;have hz:xs.length<=v5:=by rw[<- Af rel];exact z
  have hl:(putK kvs k v).length<=v5:=by have:=fA kvs k v;omega
  refine wpAny_setItem_heap (hsz:=hz) (A3 hu) (mH I.hok eb) dd λh' dd' hs=>h _ ?_;obtain⟨q,es,ep,hq,h2,h3,h4,_,h5⟩:=dd';refine lW I (by rw[e];exact True.intro) hs ⟨q,hq⟩ ⟨hl,hd,_,(rel.put k eb rv).keeps λc ys ec=>?_,q,es,ep,hq,h2,h3,h4,h5⟩;rw[aI (sT ec e (λz=>nomatch z))];exact ec
end
def NoSl (i:Expr):Prop:=∀ov iv,Aw i false ov iv=DH [ov,iv] (zn ov iv)
theorem r9 {prog:v3}{w:wz}{A:wy}{E:bi->bn->Prop}{s:bn}{env:Env}{value slice:Expr}{pos:Pos}{T id:String}{Q:bi->bn->Prop}
  (hl:A2 (.type T) "__getitem__" = pure (some (.builtin id))) (hs:NoSl slice)
  (h:nw (pp prog w) A (eval value env) (λo s₁=>nw (pp prog w) A (eval slice env) (λi s₂=>s₂.TypeIs o T/\nw (pp prog w) A (zn o i) Q E s₂) E s₁) E s) :
  nw (pp prog w) A (eval (.Subscript value slice pos) env) Q E s:=by
 refine BW (wG h (λo s₁ h₁=>wG h₁ (λi s₂ h₂=>?_) λ_ _ x=>x) λ_ _ x=>x);obtain⟨hT,h₂⟩:=h₂;unfold AQ;refine bd ?_;rw[getitemInPython_of_ne hT.not_modules];refine bd (Aj hT hl ?_);have fin:nw (pp prog w) A (Aw slice false o i) (λr s₃=>nw (pp prog w) A (letTemporaryGo value o r>>=λ_=>pure r) Q E s₃) E s₂:=by
  rw[hs o i];exact wpAny_operating (wG h₂ (λr s₃ h₃=>bd (wpAny_letTemporaryGo (lw h₃))) λ_ _ x=>x)
 first
  | exact lw (bd fin)
  | exact bd (lw (bd fin))
  | exact bd fin
theorem lV {X:Cx}{pins:List (Addr×Obj)}{σ:St}{H:Hp}{s:bn}{a:Addr}{y:V}{o:Option V}(I:Inv X pins σ H s)(g:DGet H a y o):s.TypeIs (.ref a) "dict" := by
 rcases g with⟨kvs,k,e,_,_⟩ | ⟨kvs,k,b,e,_,_,_⟩
 ·obtain⟨_,_,vs,_,dd⟩:=qQ I.hok e;exact dd.typeIs
 ·obtain⟨_,_,xs,_,dd⟩:=qP I.hok e;exact dd.typeIs
def uf (td ty:TE):TE:=λσ H Q=>td σ H λx H1=>ty σ H1 λy H2=>∃a v,x = .ref a/\DGet H2 a y (some v)/\Q v H2
def oo (ty td:TE):TE:=λσ H Q=>ty σ H λy H1=>td σ H1 λx H2=>∃a o,x = .ref a/\DGet H2 a y o/\Q (.bl (!o.isSome)) H2
def ui (td ty tv:TE):TS:=λD σ H=>tv σ H λv H1=>td σ H1 λx H2=>ty σ H2 λy H3=>∃a H4,x = .ref a/\DPut H3 a y v H4/\D.nx σ H4
section
variable {X:Cx}{o i e value:Expr}{pos pos' tpos:Pos}{td ty tv:TE}
theorem fw (hu:X.A.units+1<zv)(ho:PE X o td)(hi:PE X i ty)(hs:NoSl i):PE X (.Subscript o i pos) (uf td ty):=by
 intro pins s σ H Q I h;refine r9 PySem.F.slot_dict_getitem.lookup hs (thn (ho pins s σ H _ I h) λu s1 ⟨x,H1,I1,rx,q1⟩=>thn (hi pins s1 σ H1 _ I1 q1) λiv s2 ⟨y,H2,I2,ry,a,v,ex,g,q2⟩=>?_);subst ex;obtain rfl:u=Value.ref a:=rx;exact⟨lV I2 g,pS hu I2 g ry λw' s3 I3 rw'=>⟨v,H2,I3,rw',q2⟩⟩
theorem o5 (hu:X.A.units+1<zv)(hi:PE X i ty)(ho:PE X o td):PC X .NotIn i o (oo ty td):=by
 intro pins s σ H Q I h;refine thn (hi pins s σ H _ I h) λiv s1 ⟨y,H1,I1,ry,q1⟩=>thn (ho pins s1 σ H1 _ I1 q1) λu s2 ⟨x,H2,I2,rx,a,ov,ex,g,q2⟩=>?_;subst ex;obtain rfl:u=Value.ref a:=rx;exact tJ hu I2 g ry λs3 I3=>⟨.bl (!ov.isSome),H2,I3,rfl,q2⟩
theorem gi (hu:X.A.units+1<zv)(ho:PE X o td)(hi:PE X i ty)(hv:PE X value tv)(hs:zd value (some (.Subscript o i pos')) pos.line X.env=pure false) :
  PS X (.Assign [.Subscript o i pos'] value pos) (ui td ty tv):=by
 intro pins s σ H D I h;refine wpAny_Assign_Subscript (thn (hv pins s σ H _ I h) λr s1 ⟨v,H1,I1,rv,q1⟩=>thn (ho pins s1 σ H1 _ I1 q1) λu s2 ⟨x,H2,I2,rx,q2⟩=>thn (hi pins s2 σ H2 _ I2 q2) λiv s3 ⟨y,H3,I3,ry,a,H4,ex,g,q3⟩=>?_) hs;subst ex;obtain rfl:u=Value.ref a:=rx;exact pR hu I3 g ry rv λs4 I4=>⟨σ,H4,I4,q3⟩
end
theorem mS {P:v3}{w:wz}{H:Hp}(h:Heap)(hb:yF<h.objs.size):cK P w H (h.push {cls:=.type "dict",data:=.dict #[]}) h.objs.size (.dK []) :=
 ⟨wp _,beq_eq_false_iff_ne.mpr (xc (wm hb)),[],.nil,Heap.DictOf.new h⟩
def tDNewK:TE:=λ_ H Q=>∀p,H p=none->Q (.ref p) (upd H p (.dK []))
section
variable {X:Cx}{pos:Pos}
theorem my:PE X (.Dict [] [] pos) tDNewK:=λpins s σ H Q I h =>
 wpAny_Dict_empty ⟨.ref s.heap.objs.size,_,I.laid (a:=s.heap.objs.size) (o:=.dK []) (t':=s.toks) (λ_ _ q=>bv _ q) (ms _) (mS s.heap I.big),rfl,h _ (I.hok.fresh (ms _))⟩
end
def om:List (TE×TE)->St->Hp->(List (V×V)->Hp->Prop)->Prop
 | [],_,H,Q=>Q [] H
 | (tk,tv)::r,σ,H,Q=>tk σ H λx H1=>tv σ H1 λy H2=>om r σ H2 λps H3=>Q ((x,y)::ps) H3
abbrev VV:List (V×V)->List (bi×bi)->Prop:=BY λp q=>RelV p.1 q.1/\RelV p.2 q.2
def PPs (X:Cx)(pos:Pos)(keys:List (Option Expr))(values:List Expr)(trs:List (TE×TE)):Prop :=
 ∀(pins:List (Addr×Obj)) (s:bn) (σ:St) (H:Hp) (Q:List (V×V)->Hp->Prop),Inv X pins σ H s->om trs σ H Q ->
  nw (pp X.prog X.w) X.A (evalPairs (pairTrees keys values X.env pos)) (λvs s'=>∃ps H',Inv X pins σ H' s'/\VV ps vs/\Q ps H') X.xe s
theorem sF {X:Cx}{pos:Pos}:PPs X pos [] [] []:=λpins s σ H Q I h=>pairTrees_nil_walk ⟨[],H,I,.nil,h⟩
theorem jH {X:Cx}{pos:Pos}{k v:Expr}{ks:List (Option Expr)}{vs:List Expr}{tk tv:TE}{trs:List (TE×TE)}(hk:PE X k tk)(hv:PE X v tv)(hr:PPs X pos ks vs trs) :
  PPs X pos (some k::ks) (v::vs) ((tk,tv)::trs):=λpins s σ H Q I h =>
 pairTrees_cons_walk (thn (hk pins s σ H _ I h) λu s1 ⟨x,H1,I1,rx,q1⟩=>thn (hv pins s1 σ H1 _ I1 q1) λw2 s2 ⟨y,H2,I2,ry,q2⟩ =>
  thn (hr pins s2 σ H2 _ I2 q2) λws s3 ⟨ps,H3,I3,rel,q3⟩=>⟨(x,y)::ps,H3,I3,.cons ⟨rx,ry⟩ rel,q3⟩)
def ig (kvs more:List (Key×V)):List (Key×V):=more.foldl (λacc kv=>putK acc kv.1 kv.2) kvs
theorem KV.merge:∀ {more:List (Key×V)} {rs:List (Key×bi)} {kvs:List (Key×V)} {vs:List (Key×bi)},KV more rs->KV kvs vs->KV (ig kvs more) (merged vs rs):=by
 intro more rs kvs vs r;unfold KV at r;induction r generalizing kvs vs with
 | nil=>intro q;exact q
 | @cons p q ps qs h t ih =>
  intro r0;have e:KV (putK kvs p.1 p.2) (stored vs q.1 q.2):=by
   have:=r0.put p.1 h.2;rw[<- h.1];exact this
  exact ih e
theorem fM:∀(more kvs:List (Key×V)),(ig kvs more).length<=kvs.length+more.length
 | [],kvs=>by show kvs.length<=kvs.length+0;omega
 | p::r,kvs=>by
  have h1:=fM r (putK kvs p.1 p.2);have h2:=fA kvs p.1 p.2;show(ig (putK kvs p.1 p.2) r).length<=_;rw[wn];omega
theorem jg {P:v3}{w:wz}:∀ {kvs:List (Key×V)} {ws:List (bi×bi)},VV (kvs.map λkv=>(kV kv.1,kv.2)) ws->∃rs,Carries (cc P w) ws rs/\KV kvs rs
 | [],_,r=>by rw[yu]at r;cases r;exact⟨[],True.intro,.nil⟩
 | p::kvs,_,r=>by
  rw[wv]at r;cases r with
  | @cons a b as bs h t =>
   obtain⟨rs,c,q⟩:=jg (P:=P) (w:=w) t;obtain⟨b1,b2⟩:=b;exact⟨(p.1,b2)::rs,⟨pA h.1,rfl,c⟩,.cons ⟨rfl,h.2⟩ q⟩
def vB (trs:List (TE×TE)):TE:=λσ H Q=>∀p,H p=none->om trs σ (upd H p (.dK [])) λps H2=>H2 p=some (.dK [])/\∃kvs:List (Key×V),ps=kvs.map (λkv=>(kV kv.1,kv.2))/\kvs.length<=15/\Q (.ref p) (upd H2 p (.dK (ig [] kvs)))
theorem sH {X:Cx}{pos:Pos}{keys:List (Option Expr)}{values:List Expr}{trs:List (TE×TE)}(h:PPs X pos keys values trs)(hall:keys.all (·.isSome)=true)(hl:keys.length=values.length)(h0:keys≠[])
  (h15:keys.length<=15):PE X (.Dict keys values pos) (vB trs):=by
 intro pins s σ H Q I q;have hn:=I.hok.fresh (ms s.heap.objs.size);have I1:=I.laid (a:=s.heap.objs.size) (o:=.dK []) (h':=s.heap.push {cls:=.type "dict",data:=.dict #[]}) (t':=s.toks) (λ_ _ q=>bv _ q) (ms _) (mS s.heap I.big);refine wpAny_Dict_walk (knd:=cc X.prog X.w) hall hl h0 h15 (thn (h pins _ σ _ _ I1 (q _ hn)) λws s2 ⟨ps,H2,I2,rel,e,kvs,ep,lk,q2⟩=>?_);subst ep;obtain⟨rs,c,rk⟩:=jg (P:=X.prog) (w:=X.w) rel;obtain⟨z,hd,vs0,r0,dd⟩:=vc I2.hok e;cases r0
 refine⟨rs,c,dd,λh' dd' hs=>⟨.ref s.heap.objs.size,_,?_,rfl,q2⟩⟩;have hz:(ig [] kvs).length<=v5:=by
  have h1:=fM kvs [];rw[za]at h1;rw[xV];omega
 have he:∃q,h'.get? s.heap.objs.size=some q:=let ⟨q,_,_,hq,_⟩:=dd';⟨q,hq⟩;exact lW I2 (by rw[e];exact True.intro) hs he (rL hz hd (rk.merge .nil) dd')
end L2
namespace Att
open PySem PySem.W PySem.Calls PyProof.Rows
theorem iq {P:Params}{h:Heap}:∀(ns:List Int) (vs:List bi),WellAll P h vs (ns.map WData.int)->CQ vs ns:=by
 intro ns;induction ns with
 | nil =>
  intro vs w;rw[yu]at w;cases w
  exact .nil
 | cons n ns ih =>
  intro vs w;rw[wv]at w;cases w with
  | cons a b =>
   cases a
   exact .cons _ _ (ih _ b)
theorem oF {l:Cu}{n:Nat}(hn:l.most=some n){P:Params}{h:Heap}{args:List WData}{vals:List bi}
  (hpre:l.row.toRowW.claim.pre args=true) (hwl:WellAll P h vals args) :
  ∃a vs ns,vals=[Value.ref a]/\args=[WData.list (ns.map WData.int)]/\h.get? a=some {cls:=.type "list",data:=.seq vs.toArray}/\CQ vs ns/\ns.length<=n:=by
 have hsh:WShape.hasAll [] args [.list .int]=true:=(pre_splitW hpre).1;have hc:l.pre.holds [] {args:=args}=true:=(pre_splitW hpre).2;obtain⟨d,r,rfl,h1,h2⟩:=hasAllW_cons hsh;obtain rfl:=hasAllW_nil h2;obtain⟨xs,rfl,h3⟩:=hasW_list h1;obtain⟨ns,rfl⟩:=items_int h3;have hlen:ns.length<=n:=by
  unfold OpenLaw.pre at hc;have h4:(WTm.not (.lt (.lit (.int (n:Int))) (.len (.arg 0)))).holds [] {args:=[.list (ns.map .int)]}=true:=by
   have h4:=(holds_andW hc).1;rw[hn]at h4;exact h4
  have h5:=condW_of h4 (w_not (w_lt w_lit (w_len_list (w_arg rfl))));rw[db]at h5;refine Nat.le_of_not_lt λq=>?_;have q':(n:Int)<((ns.length:Nat):Int):=by omega
  first
   | (rw[decide_eq_true q']at h5;exact absurd h5 (by decide))
   | (simp at h5;omega)
 cases hwl with
 | cons w1 w2 =>
  cases w2
  cases w1 with
  | list ho hall=>exact⟨_,_,ns,rfl,rfl,ho,iq ns _ hall,hlen⟩
theorem oV (l:Cu)(args:List WData):l.row.toRowW.claim.post args (.bool true) args=true :=
 postW_of (r:=l.row.toRowW) (X:=(true==true))
  (show DL [] (.bool true) .bool=true by first | rfl | decide | simp[DL,WShape.arms,WShape.armsAll])
  (show(WTm.eq .res (.lit (.bool true))).value [] {args:=args,res:=some (.bool true),after:=args}=some (.bool (true==true))from w_eq_bool (w_res rfl) w_lit) rfl
theorem attach_call {l:Cu}{n:Nat}{q:v3}{loose:List Str}{XP:(Str->Option bi)->Heap->Prop}{YP:wz->Heap->Prop}{d:DefRec}
  (hn:l.most=some n) (hdf:d.params.defaults=[])
  (call:∀(w:wz) (s₀ s₁:bn) (mg mb:Str->Option bi) (fa:Addr) (o:Obj) (pm cd doc:bi) (a:Addr) (vs:List bi) (ns:List Int),
   Ground q loose [] XP w s₀ mg mb s₁.heap->YP w s₁.heap ->
   s₁.heap.get? fa=some o->o.data = .func (docDef d.name d.params d.body d.scope pm cd doc)->s₁.heap.CodeRec cd d.name->mg d.name=some (.ref fa) ->
   s₁.heap.get? a=some {cls:=.type "list",data:=.seq vs.toArray}->CQ vs ns->ns.length<=n->s₁.gens = #[] ->
   zp (pp l.prog w) AH (.call (.ref fa) ⟨[.ref a],[]⟩) (λr s'=>r = .ok (.ret (.bool true))/\OldK s₁.heap s'.heap/\s'.os=s₁.os/\zT s'.gens) s₁) :
  C2 q loose XP YP l.row.toRowW d [] (λf vs=>Ce f vs):=by
 intro w s₀ s₁ mg mb G Y fa o pm cd doc dV kV ho hd hcd hD hmg hg args vals as hpre hlay hrd hwl hlo;obtain rfl:dV = .none:=Dflts.none hD hdf;obtain rfl:kV = .none:=Dflts.noKw hD;obtain⟨a,vs,ns,rfl,rfl,hobj,hints,hlen⟩:=oF hn hpre hwl;refine enter_call (Ac (call w s₀ s₁ mg mb fa o pm cd doc a vs ns G Y ho (fd_plain hd) hcd hmg hobj hints hlen hg) λr s' hq=>?_);obtain⟨rfl,h2,h3,h4⟩:=hq;exact⟨.inl ⟨.bool true,.bool true,[],rfl,λ_=>rfl,.bool true,oV l _,λ_=>⟨List.Pairwise.nil,λ_ hm=>(nomatch hm)⟩⟩,h2,h3,h4⟩
end Att
namespace L2
open PySem PySem.Spec PyProof.Rows
theorem j6:∀ {vs:List bi} {ns:List Int},CQ vs ns->Vals (ns.map V.int) vs
 | _,_,.nil=>.nil
 | _,_,.cons n t h=>.cons ⟨t,rfl⟩ (j6 h)
def Only (H:Hp):Prop:=∀b,H b=none ∨ ∃o xs,H b=some (.frz o (.lst xs))
theorem qD {P:v3}{w:wz}{K:ac}{mg mb:Str->Option bi}{CX:CXT}{k:Nat}{fa a:Addr}{fd:yP}{x:Str}{sp:Sp}{s₁:bn}{vs:List bi}{ns:List Int}
  (KX:K.In s₁.heap) (hns:s₁.heap.Ns vZ mg) (hb:s₁.heap.Ns Dw mb) (hbb:∀x:Str,x ≠ "__name__" -> mb x=xr x) (hlim:s₁.heap.NoLimit) (hg:s₁.gens = #[])
  (ha:s₁.heap.get? a=some {cls:=.type "list",data:=.seq vs.toArray}) (hi:CQ vs ns) (hl:ns.length<=v5) (hr:Room k AH)
  (F:∀base:Heap,K.In base->base.Ns vZ mg->FnOk P w K mg base CX k fa fd [x] sp) (hbind:∀(s:bn) (u:bi),BO s fd ⟨[u],[]⟩ [(x,u)])
  (hsp:∀H:Hp,Only H->SqL K H a (ns.map V.int)->sp [.ref a] H (λv _=>v = .bl true) λ_ _ _=>False)
  (hCX:∀H e s',CX [] H s₁ (λ_ _ _=>False) e s'->False) :
  zp (pp P w) AH (.call (.ref fa) ⟨[.ref a],[]⟩) (λr s'=>r = .ok (.ret (.bool true))/\OldK s₁.heap s'.heap/\s'.os=s₁.os/\zT s'.gens) s₁:=by
 have rv:=j6 hi;have lenV:=hi.length;have core:∀H:Hp,Only H->SqL K H a (ns.map V.int)->HOk P w H s₁.heap->(∀b,H b≠none->b=a)->(H a≠none->K.lookup a=none) ->
   zp (pp P w) AH (.call (.ref fa) ⟨[.ref a],[]⟩) (λr s'=>r = .ok (.ret (.bool true))/\OldK s₁.heap s'.heap/\s'.os=s₁.os/\zT s'.gens) s₁:=by
  intro H hO hS hok hA hK;have base_of:∀ {b:Addr} {o:Obj},s₁.heap.get? b=some o->H b=none->(hidT s₁.heap H).get? b=some o:=λe n=>qJ e n;have noA:∀ {b:Addr} {o:Obj} {es:Array DictEntry} {ep:Nat},s₁.heap.get? b=some o->o.data = .dict es ep->H b=none:=λ{b o es ep} e d=>by
   cases q:H b with
   | none=>rfl
   | some u =>
    have e':b=a:=hA b (by rw[q];simp);subst e';rw[ha]at e;cases e;have d':Data.seq vs.toArray _=Data.dict es ep:=d;cases d'
  have nsK:∀ {b:Addr} {m:Str->Option bi},s₁.heap.Ns b m->(hidT s₁.heap H).Ns b m:=λ{b m} ⟨o,es,ep,e,d,r⟩=>⟨o,es,ep,base_of e (noA e d),d,r⟩
  have hKb:K.In (hidT s₁.heap H):=λb o e=>base_of (KX b o e) (by
   cases q:H b with
   | none=>rfl
   | some u =>
    have e':b=a:=hA b (by rw[q];simp);subst e';rw[hK (by rw[q];simp)]at e;cases e)
  have hM:Mod K mg (hidT s₁.heap H):=⟨hKb,nsK hns,⟨mb,nsK hb,hbb⟩,let ⟨mc,h1,h2⟩:=hlim;⟨mc,nsK h1,h2⟩⟩
  have e0:Env0 P w K mg (hidT s₁.heap H) AH [] s₁ H:=⟨rfl,hM,λb o e=>sQ e,B0 (pF _ _),trivial,λb hb=>absurd (show b∈([]:List Addr)from hb) (by simp),hok,.of_eq hg⟩
  refine Ac ((F _ hKb (nsK hns)).run AH [] s₁ H ⟨[.ref a],[]⟩ [.ref a] [.ref a] _ _ hr e0 (hbind s₁ (.ref a)) (.cons rfl .nil) (hsp H hO hS)) λr s' h=>?_;cases r with
  | error e=>exact(hCX H e s' h).elim
  | ok fl =>
   cases fl with
   | next=>exact wD h
   | brk=>exact wD h
   | cont=>exact wD h
   | ret u =>
    obtain⟨v,H',os,bare,un,hok',r',q⟩:=h;have q':v = .bl true:=q;subst q';obtain rfl:u=Value.bool true:=r';refine⟨rfl,OldK.of_keep λb o e=>?_,os,bare⟩;cases q:H b with
    | none=>exact un.keep b o e q (by intro z;exact absurd (show b∈([]:List Addr)from z) (by simp)) (by simp)
    | some u =>
     rcases hO b with z | ⟨ob,xs,z⟩
     ·rw[q]at z;cases z
     ·have z2:=un.frzs b ob _ z;obtain⟨e1,_⟩:=hok b _ z;obtain⟨e2,_⟩:=hok' b _ z2;rw[e]at e1;cases e1;exact e2
 cases hk:K.lookup a with
 | some o =>
  have e:=KX a o hk;rw[ha]at e;cases e
  refine core (λ_=>none) (λ_=>.inl rfl) (.inr ⟨_,vs.toArray,_,hk,rfl,rfl,rfl,by rw[kt,lenV];exact hl,by simpa using rv⟩) (λb u z=>by have z':(none:Option HO)=some u:=z;cases z') (λb z=>absurd rfl z) λz=>absurd rfl z
 | none =>
  refine core (λb=>if b=a then some (.frz {cls:=.type "list",data:=.seq vs.toArray} (.lst (ns.map V.int)))else none) (λb=>?_) (.inl (.inr ⟨{cls:=.type "list",data:=.seq vs.toArray},if_pos rfl⟩)) (λb u z=>?_) (λb z=>?_) λ_=>hk
  ·by_cases hb:b=a
   ·exact .inr ⟨_,_,if_pos hb⟩
   ·exact .inl (if_neg hb)
  ·by_cases hb:b=a
   ·have z':=(if_pos hb).symm.trans z;cases z'
    subst hb;exact⟨ha,by rw[db];exact hl,vs,_,rv,ha⟩
   ·have z':=(if_neg hb).symm.trans z;cases z'
  ·by_cases hb:b=a
   ·exact hb
   ·exact absurd (if_neg hb) z
abbrev KOf {K:ac}{h:Heap}(_:K.In h):ac:=K
theorem rO {l:Cu}{n k:Nat}{q:v3}{loose:List Str}{XP:(Str->Option bi)->Heap->Prop}{YP:wz->Heap->Prop}{d:DefRec}{K:Params->ac}{CX:wz->CXT}{sp:wz->Sp}{x:Str}
  (hn:l.most=some n) (hn2:n<=v5) (hdf:d.params.defaults=[]) (hr:Room k AH)
  (hY:∀(w:wz) (h:Heap),YP w h->(K w.params).In h)
  (F:∀(w:wz) (mg:Str->Option bi) (fa:Addr) (h:Heap),(K w.params).In h->h.Ns vZ mg->mg d.name=some (.ref fa) ->
   ∃fd:yP,(∀(s:bn) (u:bi),BO s fd ⟨[u],[]⟩ [(x,u)]) /\
    ∀base:Heap,(K w.params).In base->base.Ns vZ mg->FnOk l.prog w (K w.params) mg base (CX w) k fa fd [x] (sp w))
  (hsp:∀(w:wz) (H:Hp) (a:Addr) (ns:List Int),ns.length<=n->Only H->SqL (K w.params) H a (ns.map V.int)->sp w [.ref a] H (λv _=>v = .bl true) λ_ _ _=>False)
  (hCX:∀(w:wz) (H:Hp) (s:bn) (e:bi) (s':bn),CX w [] H s (λ_ _ _=>False) e s'->False) :
  C2 q loose XP YP l.row.toRowW d [] (λf vs=>Ce f vs):=by
 refine Att.attach_call hn hdf λw s₀ s₁ mg mb fa o pm cd doc a vs ns G Y ho hd hcd hmg hobj hints hlen hg=>?_;have KX:=hY w _ Y;obtain⟨fd,hb,hF⟩:=F w mg fa _ KX G.T.g hmg;exact qD KX G.T.g G.T.b G.T.builtins G.T.nolimit hg hobj hints (wo hlen hn2) hr hF hb (λH hO hS=>hsp w H a ns hlen hO hS) λH e s'=>hCX w H s₁ e s'
theorem qj {l:Cu}{n k:Nat}{q:v3}{loose:List Str}{XP:(Str->Option bi)->Heap->Prop}{YP:wz->Heap->Prop}{d:DefRec}{K:Params->ac}{CX:CXT}{sp:ac->Sp}{x:Str}
  (hn:l.most=some n) (hn2:n<=v5) (hdf:d.params.defaults=[]) (hr:Room k AH)
  (hY:∀(w:wz) (h:Heap),YP w h->(K w.params).In h)
  (F:∀(w:wz) (mg:Str->Option bi) (fa:Addr) (h:Heap),(K w.params).In h->h.Ns vZ mg->mg d.name=some (.ref fa) ->
   ∃fd:yP,(∀(s:bn) (u:bi),BO s fd ⟨[u],[]⟩ [(x,u)]) /\
    ∀base:Heap,(K w.params).In base->base.Ns vZ mg->FnOk l.prog w (K w.params) mg base CX k fa fd [x] (sp (K w.params)))
  (hsp:∀(K:ac) (H:Hp) (a:Addr) (ns:List Int),ns.length<=n->Only H->SqL K H a (ns.map V.int)->sp K [.ref a] H (λv _=>v = .bl true) λ_ _ _=>False)
  (hCX:∀(H:Hp) (s:bn) (e:bi) (s':bn),CX [] H s (λ_ _ _=>False) e s'->False) :
  C2 q loose XP YP l.row.toRowW d [] (λf vs=>Ce f vs) :=
 rO (K:=K) (CX:=λ_=>CX) (sp:=λw=>sp (K w.params)) hn hn2 hdf hr hY F (λw H a ns h1 h2 h3=>hsp (K w.params) H a ns h1 h2 h3) λ_ H s e s'=>hCX H s e s'
def dN (s:Stmt):Arguments:=match s with
 | .FunctionDef _ a _ _ _ _ _ _ _ _=>a
 | _=>{posonlyargs:=[],args:=[],vararg:=none,kwonlyargs:=[],kw_defaults:=[],kwarg:=none,defaults:=[]}
def cf (s:Stmt):List Stmt:=match s with
 | .FunctionDef _ _ b _ _ _ _ _ _ _=>b
 | _=>[]
def aK (s:Stmt):xx:=match s with
 | .FunctionDef _ _ _ _ _ _ sc _ _ _=>sc
 | _=>{kind:=.function,names:=[],isGenerator:=false,isCoroutine:=false}
abbrev CX0:CXT:=λ_ _ _ _ _ _=>False
abbrev E0:XK:=λ_ _ _=>False
theorem vE {X:Cx}:iK CX0 X E0:=λ_ _ _ _ _ _ _ h=>h.elim
structure Fun (K:ac)(x qual:Str)(st:Stmt)(f:Addr)(fd:yP):Prop where
 ex:∃(oc:bi) (od:Option Addr) (kV doc pm:bi) (an:Option Addr) (cdv ct:bi) (osl:Array (Option bi)),
  fd=xN x qual (dN st) (cf st) (aK st) .none kV doc pm an cdv ct/\K.lookup f=some ⟨oc,od,.func fd,osl⟩/\yj K cdv qual=true
 kp:xQ K (.ref f)=true
section
variable {P:v3}{w:wz}{K:ac}{mg:Str->Option bi}{base:Heap}
theorem Fun.ok {x qual:Str}{st:Stmt}{f:Addr}{fd:yP}{N ps:List Str}{k:Nat}{sp:Sp}(F:Fun K x qual st f fd)(S:bI N ps (aK st))(len:∀vs H Q E,sp vs H Q E->vs.length=ps.length)
  (hbody:∀(cdv:bi) (A:wy) (outer:List Env) (s:bn) (H:Hp) (vs:List V) (Q:VK) (E:XK),Room k (A.deeper (zf qual (aK st) s.heap.objs.size f cdv))->sp vs H Q E ->
   ∃t,PSs (cxOf CX0 P w K mg base N qual (aK st) f cdv A outer s H E).nox (cf st) t/\t {nx:=λ_ H'=>Q .non H',rt:=Q} (gG N vs) H):FnOk P w K mg base CX0 (k+1) f fd ps sp:=by
 obtain⟨oc,od,kV,doc,pm,an,cdv,ct,osl,rfl,lk,hcd⟩:=F.ex;refine u_ lk hcd S len λA outer s H vs Q E hr hsp=>?_;obtain⟨t,h,q⟩:=hbody cdv A outer s H vs Q E hr hsp;exact⟨t,h.nox,q⟩
theorem rJ {x qual:Str}{st:Stmt}{f:Addr}{oc:bi}{od an:Option Addr}{osl:Array (Option bi)}{kV doc pm cdv ct:bi}(l:K.lookup f=some ⟨oc,od,.func (xN x qual (dN st) (cf st) (aK st) .none kV doc pm an cdv ct),osl⟩)
  (c:yj K cdv qual=true) (k:xQ K (.ref f)=true):Fun K x qual st f (xN x qual (dN st) (cf st) (aK st) .none kV doc pm an cdv ct):=⟨⟨oc,od,kV,doc,pm,an,cdv,ct,osl,rfl,l,c⟩,k⟩
end
theorem eK {A:wy}{k:Nat}(hr:Room k A):A.units+1<zv:=CP (Nat.add_le_add_left (by decide:1<=64) _) hr.units
theorem fG {n:Nat}(h:n<=1000):n<v5:=CP h (by decide)
section
variable {X:Cx}
theorem pv (i:Nat){x:Str}{pos:Pos}(hN:X.N[i]? = some x:=by rfl)(hv:Vis X.env.scope x:=by first | exact Or.inl rfl | exact Or.inr (Or.inl rfl) | exact Or.inr (Or.inr rfl))(hd:(x==("__debug__" : Str))=false:=by decide)
  (hcd:(x==("__classdict__" : Str))=false:=by decide):PE X (.Name x pos) (tVar i):=uD hN hv hd hcd
end
theorem ite2 {c A B:Prop} [Decidable c](h1:c->A)(h2:¬c->B):if c then A else B:=by
 by_cases h:c
 ·rw[if_pos h];exact h1 h
 ·rw[if_neg h];exact h2 h
def Same (H H':Hp):Prop:=∀b o,H b=some o->H' b=some o
theorem Same.refl (H:Hp):Same H H:=λ_ _ h=>h
theorem Same.trans {H H1 H2:Hp}(a:Same H H1)(b:Same H1 H2):Same H H2:=λc o h=>b c o (a c o h)
theorem Same.free {H H':Hp}(e:Same H H'){l:Addr}(h:H' l=Option.none):H l=Option.none:=by
 cases q:H l with
 | none=>rfl
 | some o =>
  rw[e l o q]at h;cases h
theorem Same.seq {K:ac}{H H':Hp}{a:Addr}{xs:List V}(e:Same H H')(h:SqL K H a xs):SqL K H' a xs:=by
 rcases h with(h | ⟨o,h⟩) | h
 ·exact .inl (.inl (e _ _ h))
 ·exact .inl (.inr ⟨o,e _ _ h⟩)
 ·exact .inr h
def eQ (cells:List (Str×Addr)):List (Str×xY)->List (Str×Addr)->List (Str×Addr)
 | [],cs=>cs
 | (n,k)::r,cs=>eQ cells r (if k == .free then(match cells.lookup n with | some c=>(n,c)::cs | none=>cs)else cs)
def dZ (scope:xx)(env:Env):List (Str×Addr):=eQ env.cells scope.names []
theorem nV (env:Env):∀(names:List (Str×xY)) (cs:List (Str×Addr)),(∀x∈names,x.2 = .free->∃c,env.cells.lookup x.1=some c) ->
  (forIn names cs λ(x:Str×xY) (r:List (Str×Addr))=>(if(x.2 == .free)=true then(do let a <- Du env x.1;pure (ForInStep.yield ((x.1,a)::r)))else pure (ForInStep.yield r):Sem (ForInStep (List (Str×Addr)))))=pure (eQ env.cells names cs):=by
 intro names;induction names with
 | nil=>intro cs _;rfl
 | cons x r ih =>
  intro cs h;obtain⟨n,k⟩:=x;rw[List.forIn_cons];have hr:∀y∈r,y.2 = .free->∃c,env.cells.lookup y.1=some c:=λy hy=>h y (wQ _ hy);unfold eQ;by_cases hk:k = .free
  ·subst hk;obtain⟨c,hc⟩:=h (n,.free) wV rfl;have e:Du env n=pure c:=by unfold Du;rw[hc]
   rw[if_pos (show(NameKind.free==NameKind.free)=true from rfl),if_pos (show(NameKind.free==NameKind.free)=true from rfl),hc];show(Du env n>>=λa=>_)>>=_=_;rw[e];exact ih _ hr
  ·have hb:(k==NameKind.free)=false:=by simpa using hk
   rw[if_neg (show ¬(k==NameKind.free)=true by rw[hb];exact wS),if_neg (show ¬(k==NameKind.free)=true by rw[hb];exact wS)];exact ih _ hr
theorem dO {scope:xx}{env:Env}(h:∀x∈scope.names,x.2 = .free->∃c,env.cells.lookup x.1=some c):A4 scope env=pure (dZ scope env):=by
 have run:=nV env scope.names [] h;unfold A4 dZ;have e:(forIn scope.names ([]:List (Str×Addr)) λ(x:Str×xY) (r:List (Str×Addr))=>(match x with
   | (name,kind)=>if(kind==NameKind.free)=true then(do let a <- Du env name;pure (ForInStep.yield ((name,a)::r)))else pure (ForInStep.yield r):Sem (ForInStep (List (Str×Addr)))))=pure (eQ env.cells scope.names []):=run
 show(forIn scope.names ([]:List (Str×Addr)) _>>=λcs=>pure cs)=_;exact(congrArg (λm:Sem (List (Str×Addr))=>m>>=λcs=>pure cs) e)
theorem jc (cells:List (Str×Addr)):∀(names:List (Str×xY)) (cs:List (Str×Addr)),(∀p∈cs,cells.lookup p.1=some p.2)->∀p∈eQ cells names cs,cells.lookup p.1=some p.2
 | [],cs,h=>h
 | (n,k)::r,cs,h=>by
  unfold eQ;refine jc cells r _ λp hp=>?_;by_cases hk:(k==NameKind.free)=true
  ·rw[if_pos hk]at hp;cases e:cells.lookup n with
   | none=>rw[e]at hp;exact h p hp
   | some c =>
    rw[e]at hp;rcases we.mp hp with rfl | hp
    ·exact e
    ·exact h p hp
  ·rw[if_neg hk]at hp;exact h p hp
theorem jb {scope:xx}{env:Env}{x:Str}{c:Addr}(h:(dZ scope env).lookup x=some c):env.cells.lookup x=some c :=
 jc env.cells scope.names [] (λ_ z=>nomatch z) (x,c) (wI h)
theorem cV {cs:List (Str×Addr)}{x:Str}{c:Addr}(h:(x,c)∈cs):∃d,cs.lookup x=some d:=by
 induction cs with
 | nil=>cases h
 | cons p r ih =>
  obtain⟨y,d⟩:=p;by_cases e:x==y
  ·exact⟨d,by rw[xw,e]⟩
  ·rcases we.mp h with z | z
   ·cases z;simp at e
   ·obtain⟨d',q⟩:=ih z;exact⟨d',by simp only[Bool.not_eq_true]at e;rw[xw,e];exact q⟩
theorem iE (cells:List (Str×Addr)):∀(names:List (Str×xY)) (cs:List (Str×Addr)) (p:Str×Addr),p∈cs->p∈eQ cells names cs
 | [],_,_,h=>h
 | (n,k)::r,cs,p,h=>by
  unfold eQ;refine iE cells r _ p ?_;split
  ·split
   ·exact wQ _ h
   ·exact h
  ·exact h
theorem jd (cells:List (Str×Addr)){x:Str}{c:Addr}(hc:cells.lookup x=some c):∀(names:List (Str×xY)) (cs:List (Str×Addr)),(x,NameKind.free)∈names->(x,c)∈eQ cells names cs
 | [],_,h=>nomatch h
 | (n,k)::r,cs,h=>by
  unfold eQ;rcases we.mp h with z | z
  ·cases z
   refine iE cells r _ _ ?_;rw[if_pos (show(NameKind.free==NameKind.free)=true from rfl),hc];exact wV
  ·exact jd cells hc r _ z
theorem nU {scope:xx}{env:Env}{x:Str}{c:Addr}(h:(x,NameKind.free)∈scope.names)(hc:env.cells.lookup x=some c):(dZ scope env).lookup x=some c:=by
 obtain⟨d,e⟩:=cV (jd env.cells hc scope.names [] h);have e':(dZ scope env).lookup x=some d:=e;rw[e',<- jb e',hc]
def blk (X:Cx)(scope:xx)(N:List Str)(s:bn)(H:Hp)(C:Addr)(fp:List Addr):Cx where
 prog:=X.prog
 w:=X.w
 K:=X.K
 mg:=X.mg
 base:=X.base
 A:=X.A
 N:=N
 s₀:=s
 H₀:=H
 env:=C_ scope (dZ scope X.env) C X.env
 outer:=X.stack
 stack:=X.stack
 ex:=fp
 fn:=λ_=>false
 calm:=X.calm
 pn:=[]
 xe:=λ_ _=>False
def capt (σ:St)(js:List Nat):St:=js.map λj=>(σ[j]?).getD none
def capN (N:List Str)(js:List Nat):List Str:=js.map λj=>(N[j]?).getD ""
def bst (n:Nat)(σ:St)(js:List Nat):St:=im n none++capt σ js
theorem iH {n:Nat}{σ:St}{js:List Nat}:(bst n σ js).length=n+js.length:=by unfold bst capt;simp
section
variable {P:v3}{w:wz}{A:wy}{R:CK->bn->Prop}{s:bn}
theorem lY {elt tg iter:Expr}{ifs:List Expr}{scope:xx}{pos:Pos}{it acc:bi}{env:Env}(J:Nat->bn->Prop)
  (turn:∀n s,J n s->nw (pp P w) A (Ax it) (λr s1=>match r with
   | none=>R (.ok .next) s1
   | some v=>nw (pp P w) A (zA tg it v) (λ_ s2=>nw (pp P w) A (zV tg env v) (λ_ s3 =>
     nw (pp P w) A (forIn ifs true λc r=>if r=true then do let ok <- CG c env (eval c env);pure (ForInStep.yield ok)else pure (ForInStep.yield r)) (λok s4 =>
      if ok=true then nw (pp P w) A (eval elt env) (λx s5=>nw (pp P w) A (call (.builtin "list.append") [acc,x]) (λ_ s6=>∃m,m<n/\J m s6) (λ_ _=>False) s5) (λ_ _=>False) s4
      else ∃m,m<n/\J m s4) (λ_ _=>False) s3) (λ_ _=>False) s2) (λ_ _=>False) s1) (λ_ _=>False) s)
  (n:Nat) (h:J n s):zp (pp P w) A (.compLoop (.ListComp elt [⟨tg,iter,ifs,0⟩] scope pos) 0 it acc env) R s:=by
 have no:∀ {α:Type} {t:Sem α} {Q Q':α->bn->Prop} {E:bi->bn->Prop} {s:bn},nw (pp P w) A t Q (λ_ _=>False) s->(∀a s,Q a s->Q' a s)->nw (pp P w) A t Q' E s :=
  λh hq=>wG h hq λ_ _ f=>f.elim
 refine codeAny_loop rfl J (λn s hJ=>?_) n h;show nw _ A ((compTurn (.ListComp elt [⟨tg,iter,ifs,0⟩] scope pos) 0 it acc env).onRaise (λx=>do x6 x env;D4 x)) _ _ s;refine wpAny_noted ?_;rw[compTurn_list];refine bd (yO (bd (no (turn n s hJ) λr s1 h1=>?_)));cases r with
 | none=>exact lw h1
 | some v =>
  refine bd (no h1 λ_ s2 h2=>bd (no h2 λ_ s3 h3=>bd (no h3 λok s4 h4=>?_)));cases ok with
  | false=>exact lw ⟨rfl,h4⟩
  | true=>exact bd (bd (no h4 λx s5 h5=>bd (no h5 λ_ s6 h6=>lw (lw ⟨rfl,h6⟩))))
end
def PTs (X:Cx)(ifs:List Expr)(t:TT):Prop :=
 ∀(pins:List (Addr×Obj)) (s:bn) (σ:St) (H:Hp) (Q:Bool->Hp->Prop),Inv X pins σ H s->t σ H Q ->
  nw (pp X.prog X.w) X.A (forIn ifs true λc r=>if r=true then do let ok <- CG c X.env (eval c X.env);pure (ForInStep.yield ok)else pure (ForInStep.yield r)) (TP X pins σ Q) X.xe s
def tAll:TT:=λ_ H Q=>Q true H
theorem fu {X:Cx}:PTs X [] tAll:=λ_ _ _ H _ I h=>D2 ⟨H,I,h⟩
theorem oP {X:Cx}{c:Expr}{t:TT}(h:PT X c t):PTs X [c] t:=λpins s σ H Q I hq=>wpAny_tests_one (h pins s σ H Q I hq)
def vx (J:It)(n:Nat)(js:List Nat)(g:TG)(tc:TT)(te:TE)(Q:VK)(σ:St)(H1:Hp):Prop:=∃W:Nat->Nat->List V->Hp->Prop,(∃m,W 0 m [] H1)/\∀i m ys H,W i m ys H ->
 (J.stop i H/\ys.length<=v5/\∀l,H l=none->Q (.ref l) (upd H l (.lst ys))) ∨
 (J.go i H/\ys.length<v5/\∃N:List V->Hp->Prop,(∀zs H',N zs H'->∃m',m'<m/\W (i+1) m' zs H')/\∀x H',J.yld i H x H'->g x (bst n σ js) H' λσ2 H2=>σ2.drop n=capt σ js/\tc σ2 H2 λb H3 =>
  if b=true then te σ2 H3 λv H4=>N (ys++[v]) H4 else N ys H3)
def ka (n:Nat)(js:List Nat)(wi:TI)(g:TG)(tc:TT)(te:TE):TE:=λσ H Q=>wi σ H λJ H1=>vx J n js g tc te Q σ H1
section
variable {X:Cx}
structure Blk (X:Cx)(scope:xx)(own:List Str)(js:List Nat):Prop where
 kind:scope.kind = .function
 nocell:∀y∈scope.names,y.2 ≠ .cell
 names:∀y∈scope.names,y.2 = .local->scope.names.lookup y.1=some .local
 free:∀y∈scope.names,y.2 = .free->X.env.kindOf y.1=some .cell∨X.env.kindOf y.1=some .free
 uniq:∀x,(x,NameKind.free)∈scope.names->scope.names.lookup x=some .free
 nd:(own++capN X.N js).Nodup
 cap:∀j∈js,j<X.N.length/\((X.N[j]?).getD "",NameKind.free)∈scope.names
def blkB (sc:xx)(N:List Str)(scope:xx)(own:List Str)(js:List Nat):Bool :=
 scope.kind == .function&&scope.names.all (λy=>y.2 != .cell)&&scope.names.all (λy=>y.2 != .local||scope.names.lookup y.1==some .local) &&
 scope.names.all (λy=>y.2 != .free||sc.names.lookup y.1==some .cell||sc.names.lookup y.1==some .free)&&scope.names.all (λy=>y.2 != .free||scope.names.lookup y.1==some .free) &&
 decide (own++capN N js).Nodup&&js.all (λj=>decide (j<N.length)&&scope.names.any λy=>y.1==(N[j]?).getD "" && y.2 == .free)
theorem Blk.of {scope:xx}{own:List Str}{js:List Nat}(sc:xx)(N:List Str)(h:blkB sc N scope own js=true:=by decide +kernel)(e1:X.env.scope=sc:=by rfl)(e2:X.N=N:=by rfl):Blk X scope own js:=by
 subst e1 e2;unfold blkB at h;simp only[wC,zQ,decide_eq_true_eq,beq_iff_eq]at h;obtain⟨⟨⟨⟨⟨⟨h1,h2⟩,h3⟩,h4⟩,h5⟩,h6⟩,h7⟩:=h;refine⟨h1,λy hy=>by simpa using h2 y hy,λy hy e=>?_,λy hy e=>?_,λx hx=>?_,h6,λj hj=>?_⟩
 ·have:=h3 y hy;simpa [e] using this
 ·have:=h4 y hy;simp only[e,bne_self_eq_false,DB,Be,beq_iff_eq]at this;exact this
 ·have:=h5 _ hx;simpa using this
 ·obtain⟨a,b⟩:=h7 j hj;refine⟨a,?_⟩;obtain⟨y,hy,e⟩:=C5.mp b;simp only[wC,beq_iff_eq]at e;obtain⟨e1,e2⟩:=e;rw[<- e1,<- e2];exact hy
theorem cL {env:Env}:∀ {names:List (Str×xY)} {x:Str} {k:xY},
  (names.map λ(n,k)=>if(k==NameKind.free&&env.scope.kind == .function&&env.kindOf n==some .cell)then(n,NameKind.cell)else(n,k)).lookup x=some k->names.lookup x=some k∨(k = .cell/\names.lookup x=some .free)
 | [],_,_,h=>by simp at h
 | (n,q)::r,x,k,h=>by
  have ih:=@cL env r x k;cases hx:x==n with
  | true =>
   by_cases hc:(q==NameKind.free&&env.scope.kind == .function&&env.kindOf n==some .cell)=true
   ·simp only[wv,if_pos hc,xw,hx]at h;cases h
    simp only[wC,beq_iff_eq]at hc;obtain⟨⟨hq,_⟩,_⟩:=hc;subst hq;exact .inr ⟨rfl,by rw[xw,hx]⟩
   ·simp only[wv,if_neg hc,xw,hx]at h;cases h
    exact .inl (by rw[xw,hx])
  | false =>
   have h':(r.map λ(n,k)=>if(k==NameKind.free&&env.scope.kind == .function&&env.kindOf n==some .cell)then(n,NameKind.cell)else(n,k)).lookup x=some k:=by
    by_cases hc:(q==NameKind.free&&env.scope.kind == .function&&env.kindOf n==some .cell)=true
    ·simp only[wv,if_pos hc,xw,hx]at h;exact h
    ·simp only[wv,if_neg hc,xw,hx]at h;exact h
   rcases ih h' with z | ⟨z,z'⟩
   ·exact .inl (by rw[xw,hx];exact z)
   ·exact .inr ⟨z,by rw[xw,hx];exact z'⟩
theorem bU:∀(names:List (Str×xY)) (n:Nat) (acc:List (Str×Addr)),xa n names acc=xa n names []++acc
 | [],n,acc=>rfl
 | (x,k)::r,n,acc=>by
  unfold xa;split
  ·rw[bU r (n+1) ((x,n)::acc),bU r (n+1) [(x,n)],AJ];rfl
  ·exact bU r n acc
theorem dP:∀(names:List (Str×xY)) (n:Nat) (acc:List (Str×Addr)) {x:Str} {c:Addr},(x,c)∈xa n names acc->(x,NameKind.cell)∈names∨(x,c)∈acc
 | [],n,acc,x,c,h=>.inr h
 | (y,k)::r,n,acc,x,c,h=>by
  unfold xa at h;split at h
  ·rename_i hk;rcases dP r _ _ h with q | q
   ·exact .inl (.tail _ q)
   ·rcases we.mp q with z | z
    ·cases z
     have:k = .cell:=by simpa using hk
     subst this;exact .inl (.head _)
    ·exact .inr z
  ·rcases dP r _ _ h with q | q
   ·exact .inl (.tail _ q)
   ·exact .inr q
theorem dQ:∀(names:List (Str×xY)) (n:Nat) (acc:List (Str×Addr)) {x:Str},(x,NameKind.cell)∈names->∃c,(x,c)∈xa n names acc
 | [],n,acc,x,h=>nomatch h
 | (y,k)::r,n,acc,x,h=>by
  unfold xa;rcases we.mp h with z | z
  ·cases z
   rw[if_pos (show(NameKind.cell==NameKind.cell)=true from rfl),bU];exact⟨n,xM.mpr (.inr (.head _))⟩
  ·split
   ·exact dQ r _ _ z
   ·exact dQ r _ _ z
def d5 (scope:xx)(C:Addr)(env:Env):List (Str×Addr):=xa (C+1) scope.names (dZ scope env)
def blkC (X:Cx)(scope:xx)(N:List Str)(s:bn)(H:Hp)(C:Addr)(fp:List Addr):Cx where
 prog:=X.prog
 w:=X.w
 K:=X.K
 mg:=X.mg
 base:=X.base
 A:=X.A
 N:=N
 s₀:=s
 H₀:=H
 env:=C_ scope (d5 scope C X.env) C X.env
 outer:=X.stack
 stack:=X.stack
 ex:=fp
 fn:=λx=>scope.names.lookup x==some .cell
 calm:=X.calm
 pn:=[]
 xe:=λ_ _=>False
end
section
variable {M:Bp}{A:wy}{E:bi->bn->Prop}{s:bn}
theorem d9 {scope:xx}{cl:List (Str×Addr)}{env:Env}{Q:Env->bn->Prop}
  (h:Q {scope,locals:=s.heap.objs.size,globals:=env.globals,cells:=xa (s.heap.objs.size+1) scope.names cl,qual:=env.qual,func:=none,code:=env.code,frame:=env.frame,builtins:=env.builtins}
   {s with heap:=ze (s.heap.push {cls:=.type "dict",data:=.dict #[]}) scope.names}) :
  nw M A (Ay scope env.globals cl [] env.qual none .none (some env)) Q E s:=by
 simp only[Ay,B4,if_true];refine bd (wpAny_alloc ?_);refine bd (wpAny_layCells _ (λname kind cells=>by cases hkc:kind==NameKind.cell <;> simp[hkc]) _ _ _ _ ?_);rw[show({s with heap:=s.heap.push {cls:=.type "dict",data:=.dict #[]}}:bn).heap.objs.size=s.heap.objs.size+1 from xL ..];refine bd ?_;rw[List.forIn_nil];exact lw (lw h)
end
section
variable {X:Cx}
structure BlkC (X:Cx)(scope:xx)(own:List Str)(js:List Nat):Prop where
 kind:scope.kind = .function
 cells:∀y∈scope.names,y.2 = .cell->scope.names.lookup y.1=some .cell
 names:∀y∈scope.names,y.2 = .local->scope.names.lookup y.1=some .local
 free:∀y∈scope.names,y.2 = .free->X.env.kindOf y.1=some .cell∨X.env.kindOf y.1=some .free
 uniq:∀x,(x,NameKind.free)∈scope.names->scope.names.lookup x=some .free
 nd:(own++capN X.N js).Nodup
 cap:∀j∈js,j<X.N.length/\((X.N[j]?).getD "",NameKind.free)∈scope.names
theorem cS {scope:xx}{C:Addr}{env:Env}{x:Str}{c:Addr}(h:(d5 scope C env).lookup x=some c):((x,c)∈xa (C+1) scope.names [])∨env.cells.lookup x=some c:=by
 unfold d5 at h;rw[bU,At]at h;cases e:(xa (C+1) scope.names []).lookup x with
 | some d=>rw[e]at h;cases h;exact .inl (wI e)
 | none=>rw[e]at h;exact .inr (jb h)
theorem je {scope:xx}{C:Addr}{env:Env}{x:Str}(h:(x,NameKind.cell)∈scope.names):∃c,(d5 scope C env).lookup x=some c/\(x,c)∈xa (C+1) scope.names []:=by
 obtain⟨c,hc⟩:=dQ scope.names (C+1) [] h;obtain⟨d,hd⟩:=cV hc;refine⟨d,?_,wI hd⟩;unfold d5;rw[bU,At,hd];rfl
theorem jf {scope:xx}{C:Addr}{env:Env}{x:Str}{c:Addr}(hn:(x,NameKind.cell)∉scope.names)(h:(x,NameKind.free)∈scope.names)(hc:env.cells.lookup x=some c):(d5 scope C env).lookup x=some c:=by
 unfold d5;rw[bU,At];have:(xa (C+1) scope.names []).lookup x=none:=by
  cases e:(xa (C+1) scope.names []).lookup x with
  | none=>rfl
  | some d =>
   rcases dP _ _ _ (wI e)with q | q
   ·exact(hn q).elim
   ·cases q
 rw[this];exact nU h hc
theorem mX {scope:xx}{own:List Str}{js:List Nat}{pins:List (Addr×Obj)}{σ:St}{H:Hp}{s:bn}{fp:List Addr}{C:Addr}{h1:Heap}{tk:Nat}(B:BlkC X scope own js)(I:Inv X pins σ H s)
  (hfp:∀b∈fp,FpOk X pins H b) (hfo:∀b∈fp,∃o,s.heap.get? b=some o) (hC:s.heap.objs.size<=C) (hns:h1.Ns C λ_=>none) (hcs:CellsOk h1 (C+1) (xa (C+1) scope.names [])) (hk:∀b o,s.heap.get? b=some o->h1.get? b=some o) :
  Inv (blkC X scope (own++capN X.N js) s H C fp) [] (bst own.length σ js) H {s with heap:=h1,toks:=tk}:=by
 have kindC:∀x,(blkC X scope (own++capN X.N js) s H C fp).env.kindOf x=some .cell∨(blkC X scope (own++capN X.N js) s H C fp).env.kindOf x=some .free->(x,NameKind.cell)∈scope.names∨(x,NameKind.free)∈scope.names:=λx hx=>by
  have hx':(BK scope X.env).names.lookup x=some .cell∨(BK scope X.env).names.lookup x=some .free:=hx;rcases hx' with z | z
  ·rcases cL z with q | ⟨_,q⟩
   ·exact .inl (wI q)
   ·exact .inr (wI q)
  ·rcases cL z with q | ⟨_,q⟩
   ·exact .inr (wI q)
   ·exact .inr (wI q)
 have notC:∀x,(x,NameKind.free)∈scope.names->(x,NameKind.cell)∉scope.names:=λx hf hc=>by
  have:=B.cells (x,.cell) hc rfl;rw[B.uniq x hf]at this;cases this
 have ownGt:∀ {x c},(x,c)∈xa (C+1) scope.names []->C<c/\h1.IsCell c none:=λ{x c} e=>⟨(hcs.empty x c e).2,(hcs.empty x c e).1⟩
 have has:∀x,(x,NameKind.free)∈scope.names->∃c,X.env.cells.lookup x=some c:=λx hx=>I.ok.has x (B.free (x,.free) hx rfl);have old:∀ {x c},(d5 scope C X.env).lookup x=some c->((x,c)∈xa (C+1) scope.names [])∨X.env.cells.lookup x=some c:=λe=>cS e;have cellLt:∀ {x c},X.env.cells.lookup x=some c->c<s.heap.objs.size:=λ{x c} e=>by
  obtain⟨v,o,ho,_⟩:=I.cell x c e;exact lc ho
 have fpLt:∀b∈fp,b<s.heap.objs.size:=λb hb=>let ⟨_,e⟩:=hfo b hb;lc e;have fsOk:∀b∈frs X.stack,b∈X.env.locals::X.fs:=I.stkSub;refine⟨⟨I.ok.mod,?_,I.ok.glob,I.ok.blt,hC,λx y c e1 e2=>?_,λx hx=>?_,λx c z e=>?_,I.ok.hd,I.ok.frames,.inl rfl,λb hb=>⟨?_,λx c e=>?_⟩,I.bs,wo I.ok.bsz I.sz,
   λb o e hb=>?_,λb hb hf=>?_,I.stack,I.stkFree⟩,rfl,I.bare,Un.kept hk,⟨_,hns,λi x v e1 e2 e3=>?_⟩,λx c e=>?_,?_,λx c e=>?_,λp hp=>absurd hp (by show p∉[]++[];simp),I.hok.kept hk,?_⟩
 ·show(BK scope X.env).kind = .function;exact B.kind
 ·rcases old e1 with q1 | q1
  ·rcases old e2 with q2 | q2
   ·exact PySem.name_of_addr hcs.apart q1 q2
   ·exact absurd (cellLt q2) (zC.mpr (wo hC (wT (ownGt q1).1)))
  ·rcases old e2 with q2 | q2
   ·exact absurd (cellLt q1) (zC.mpr (wo hC (wT (ownGt q2).1)))
   ·exact I.ok.inj x y c q1 q2
 ·rcases kindC x hx with q | q
  ·obtain⟨c,e,_⟩:=je (C:=C) (env:=X.env) q;exact⟨c,e⟩
  ·obtain⟨c,e⟩:=has x q;exact⟨c,jf (notC x q) q e⟩
 ·have z0:(scope.names.lookup x==some NameKind.cell)=true:=z;have z':scope.names.lookup x=some .cell:=by simpa using z0
  obtain⟨c',e',m'⟩:=je (C:=C) (env:=X.env) (wI z');have e'':(d5 scope C X.env).lookup x=some c:=e;rw[e']at e'';cases e''
  exact wo hC (wT (ownGt m').1)
 ·exact wm (o0 (fpLt b hb) hC)
 ·rcases old e with q | q
  ·exact wM (o0 (fpLt b hb) (wo hC (wT (ownGt q).1)))
  ·exact(hfp b hb).2.2.2.2.1 x c q
 ·have e1:=I.bs b o e;obtain⟨f0,f1,f2,f3,f4,f5⟩:=hfp b hb;rcases f3 with z | z
  ·exact I.ok.noex b o e z
  ·exact absurd (o0 (lc (I.ok.bs b o e).1) z) (xS _)
 ·obtain⟨f0,f1,f2,f3,f4,f5⟩:=hfp b hb;rcases we.mp (fsOk b hf)with z | z
  ·exact f1 z
  ·exact f2 z
 ·-- a captured name's value
  have hi:own.length<=i:=by
   rcases wu i own.length with z | z
   ·exfalso;have e2':(im own.length (none:Option V)++capt σ js)[i]? = some (some v):=e2;rw[wU (by simpa using z),yL]at e2';split at e2' <;> cases e2'
   ·exact z
  have e1':(own++capN X.N js)[i]? = some x:=e1;have e2':(im own.length (none:Option V)++capt σ js)[i]? = some (some v):=e2;rw[xA hi]at e1';rw[xA (by simpa using hi),xH]at e2';unfold capN at e1';unfold capt at e2';rw[sB]at e1' e2';cases ej:js[i - own.length]? with
  | none=>rw[ej]at e1';cases e1'
  | some j =>
   rw[ej]at e1' e2';have e1'':(X.N[j]?).getD "" = x:=xy e1';have e2'':(σ[j]?).getD none=some v:=xy e2';obtain⟨hj,hm⟩:=B.cap j (wr ej);have eN:X.N[j]? = some x:=by
    rw[dL hj]at e1'' ⊢;exact congrArg some e1''
   have eS:σ[j]? = some (some v):=by
    cases q:σ[j]? with
    | none=>rw[q]at e2'';cases e2''
    | some u=>rw[q]at e2'';exact congrArg some e2''
   rw[e1'']at hm;obtain⟨m,_,hl⟩:=I.loc;have hv:Vis X.env.scope x:=by
    rcases B.free (x,.free) hm rfl with z | z
    ·exact .inr (.inl z)
    ·exact .inr (.inr z)
   obtain⟨u,r,l⟩:=hl j x v eN eS hv;obtain⟨c,hc⟩:=has x hm;refine⟨u,r,.inr ⟨?_,c,jf (notC x hm) hm hc,?_⟩⟩
   ·rcases e3 with z | z | z
    ·exfalso;have z':(BK scope X.env).names.lookup x=some .local:=z;rcases cL z' with q | ⟨q,_⟩
     ·rw[B.uniq x hm]at q;cases q
     ·cases q
    ·exact .inl z
    ·exact .inr z
   ·rcases l with⟨k1,_⟩ | ⟨k2,c2,e2,ic⟩
    ·rcases B.free (x,.free) hm rfl with t | t <;> (rw[k1]at t;cases t)
    ·rw[hc]at e2;cases e2;obtain⟨o,ho,hd⟩:=ic;exact⟨o,hk c o ho,hd⟩
 ·rcases old e with q | q
  ·exact⟨none,(ownGt q).2⟩
  ·obtain⟨v,o,ho,hd⟩:=I.cell x c q;exact⟨v,o,hk c o ho,hd⟩
 ·exact I.hok.fresh hC
 ·rcases old e with q | q
  ·exact I.hok.fresh (wo hC (wT (ownGt q).1))
  ·exact I.freeC x c q
 ·rw[iH];show _=(own++capN X.N js).length;unfold capN;simp
theorem gB:∀ {names:List (Str×xY)} {n:Nat} {acc:List (Str×Addr)},(∀y∈names,y.2 ≠ .cell)->xa n names acc=acc
 | [],_,_,_=>rfl
 | (x,k)::r,n,acc,h=>by
  unfold xa;rw[if_neg (by have:=h (x,k) (.head _);simpa using this)];exact gB λy hy=>h y (.tail _ hy)
section
variable {scope:xx}{own:List Str}{js:List Nat}
theorem Blk.c (B:Blk X scope own js):BlkC X scope own js:=⟨B.kind,λy hy e=>absurd e (B.nocell y hy),B.names,B.free,B.uniq,B.nd,B.cap⟩
theorem gF (B:Blk X scope own js){N:List Str}{s:bn}{H:Hp}{C:Addr}{fp:List Addr}:blkC X scope N s H C fp=blk X scope N s H C fp:=by
 have e1:(λx=>scope.names.lookup x==some NameKind.cell)=λ_=>false:=funext λx=>by
  rw[beq_eq_false_iff_ne];exact λz=>B.nocell _ (wI z) rfl
 unfold blkC blk d5;rw[gB B.nocell,e1]
end
end
section
variable {X:Cx}
theorem Inv.young {pins:List (Addr×Obj)}{σ:St}{H:Hp}{s:bn}{h':Heap}{c:Addr}(I:Inv X pins σ H s)(hs:w_ c s.heap h')(hn:H c=none)(h1:X.s₀.heap.objs.size<=c)(hL:c≠X.env.locals)
  (h2:∀x d,X.env.cells.lookup x=some d->d≠c) (h3:∀p∈X.pn++pins,p.1≠c):Inv X pins σ H {s with heap:=h'} :=
 I.turned (t':=s.toks) (λb o hb e=>(hs.2 b hb).trans e) hn hL (.inr h1) h2 h3
theorem Inv.track {pins:List (Addr×Obj)}{σ:St}{H:Hp}{s:bn}{D:Addr}{ys:List V}{its:List bi}{n:Nat}(I:Inv X pins σ H s)(hn:H D=none)(h1:X.s₀.heap.objs.size<=D)(hL:D≠X.env.locals)
  (h2:∀x d,X.env.cells.lookup x=some d->d≠D) (h3:∀p∈X.pn++pins,p.1≠D) (hz:ys.length<=v5) (r:Vals ys its) (e:s.heap.get? D=some {cls:=.type "list",data:=.seq its.toArray n}) :
  Inv X pins σ (upd H D (.lst ys)) s:=by
 have ne:∀ {b u},H b=some u->b≠D:=λ{b u} q=>bg q hn;refine⟨I.ok,I.os,I.bare,⟨I.base.keep,I.base.slot,λb o q z hx=>?_,I.base.there,λb xs q=>?_,λb o u q=>?_,λb ps q=>?_⟩,I.loc,I.cell,?_,λx c q=>?_,λp hp=>?_,λb o q=>?_,I.len⟩
 ·rw[aI (wm (o0 (lc q) h1))];exact I.base.free b o q z hx
 ·have q':=I.base.tups b xs q;rw[aI (ne q')];exact q'
 ·have q':=I.base.frzs b o u q;rw[aI (ne q')];exact q'
 ·obtain⟨more,q'⟩:=I.base.tbls b ps q;exact⟨more,by rw[aI (ne q')];exact q'⟩
 ·rw[aI (xc hL)];exact I.free
 ·rw[aI (h2 x c q)];exact I.freeC x c q
 ·obtain⟨a1,a2,a3⟩:=I.pin p hp;exact⟨a1,by rw[aI (h3 p hp)];exact a2,a3⟩
 ·by_cases hb:b=D
  ·subst hb;rw[aX]at q;cases q
   exact⟨hz,its,n,r,e⟩
  ·rw[aI hb]at q;refine(I.hok b o q).stay (λ_ _ _ z=>z) (λc z=>?_) λc xs z=>?_
   ·rw[aI (ne z)];exact z
   ·rw[aI (ne z)];exact z
def vy (X:Cx)(pins:List (Addr×Obj))(σ:St)(Q:VK)(C:Addr)(acc:bi)(s':bn):Prop :=
 ∃(D:Addr) (H:Hp) (m:Str->Option bi),acc = .ref D/\s'.heap.Ns C m/\Inv X pins σ H s'/\H C=none/\X.s₀.heap.objs.size<=C/\C≠X.env.locals/\(∀x d,X.env.cells.lookup x=some d->d≠C)/\(∀p∈X.pn++pins,p.1≠C)/\Q (.ref D) H
theorem iC {elt tg iter:Expr}{ifs:List Expr}{scope:xx}{pos:Pos}{own:List Str}{js:List Nat}{g:TG}{tc:TT}{te:TE}{Q:VK}{pins:List (Addr×Obj)}{σ:St}{s2:bn}{itv:bi}{E:bi->bn->Prop}
  {RR:bi->Addr->CK->bn->Prop} (hc:X.calm=true) (B:BlkC X scope own js) (hg:∀s H C fp,(own++capN X.N js).Nodup->PG (blkC X scope (own++capN X.N js) s H C fp) tg g) (ht:∀s H C fp,PTs (blkC X scope (own++capN X.N js) s H C fp) ifs tc)
  (he:∀s H C fp,PE (blkC X scope (own++capN X.N js) s H C fp) elt te)
  (h:PIE X pins σ tg (λJ H1=>vx J own.length js g tc te Q σ H1) itv s2)
  (hR:∀C acc s',vy X pins σ Q C acc s'->RR acc C (.ok .next) s') :
  nw (pp X.prog X.w) X.A (DJ []) (λacc s3=>nw (pp X.prog X.w) X.A (Ay scope X.env.globals (dZ scope X.env) [] X.env.qual none .none (some X.env)) (λcenv s4 =>
   zp (pp X.prog X.w) X.A (.compStart (.ListComp elt [⟨tg,iter,ifs,0⟩] scope pos) 0 itv acc {cenv with scope:=BK scope X.env}) (RR acc cenv.locals) s4) E s3) E s2:=by
 obtain⟨it,fp,tn,J,H2,rfl,I2,T,st2,f2,W,⟨m0,w0⟩,turn⟩:=h;refine w6 (d9 ?_);generalize hPu:s2.heap.push {cls:=.type "list",dict:=none,data:=.seq ([]:List bi).toArray}=Pu;dsimp only;have hDC:Pu.objs.size=s2.heap.objs.size+1:=by rw[<- hPu,xL]
 generalize hD:s2.heap.objs.size=D at hDC ⊢;have gD:Pu.get? D=some {cls:=.type "list",dict:=none,data:=.seq ([]:List bi).toArray}:=by
  rw[<- hPu,<- hD];exact wa _ rfl
 have hns1:(ze (Pu.push {cls:=.type "dict",data:=.dict #[]}) scope.names).Ns Pu.objs.size λ_=>none:=(Dp Pu (.type "dict")).keeps (Ak _ _);have hcs1:CellsOk (ze (Pu.push {cls:=.type "dict",data:=.dict #[]}) scope.names) (Pu.objs.size+1) (xa (Pu.objs.size+1) scope.names []):=by
  have ok:=cellsFrom_ok scope.names (Pu.push {cls:=.type "dict",data:=.dict #[]}) (Pu.objs.size+1) [] ⟨λ_ _ hm=>(nomatch hm),List.Pairwise.nil⟩ (by rw[xL];exact ms _);rw[xL]at ok;exact ok
 have keep0:∀b o,Pu.get? b=some o->(ze (Pu.push {cls:=.type "dict",data:=.dict #[]}) scope.names).get? b=some o:=λb o e=>Ak _ _ b o (bv _ e);generalize hh1:ze (Pu.push {cls:=.type "dict",data:=.dict #[]}) scope.names=h1 at hns1 hcs1 keep0 ⊢;generalize hC:Pu.objs.size=C at hns1 hcs1 hDC ⊢;have ltDC:D<C:=by rw[hDC];exact Df D
 have neDC:D≠C:=wm ltDC;have keep1:∀b o,s2.heap.get? b=some o->h1.get? b=some o:=λb o e=>keep0 b o (by
  rw[<- hPu];exact bv _ e)
 have gD1:h1.get? D=some {cls:=.type "list",dict:=none,data:=.seq ([]:List bi).toArray}:=keep0 D _ gD;have szD:s2.heap.objs.size<=D:=B0 hD;have szC:s2.heap.objs.size<=C:=wo szD (wT ltDC);have old:∀ {b:Addr},b<s2.heap.objs.size->b≠D/\b≠C:=λhb=>⟨wm (o0 hb szD),wm (o0 hb szC)⟩
 have fpo:∀b∈fp,∃o,s2.heap.get? b=some o:=λb hb=>let ⟨o,e,_⟩:=T.obj 0 _ st2 b hb;⟨o,e⟩;have fpD:∀b∈fp,b≠D/\b≠C:=λb hb=>by
  obtain⟨o,e⟩:=fpo b hb;exact old (lc e)
 have clD:∀x d,X.env.cells.lookup x=some d->d≠D/\d≠C:=λx d e=>by
  obtain⟨v,o,ho,_⟩:=I2.cell x d e;exact old (lc ho)
 have pinD:∀p∈X.pn++pins,p.1≠D/\p.1≠C:=λp hp=>by
  exact old (lc (I2.pin p hp).1)
 have locD:D≠X.env.locals/\C≠X.env.locals:=by
  exact⟨(old I2.lt).1.symm,(old I2.lt).2.symm⟩
 let Y:=blkC X scope (own++capN X.N js) s2 H2 C fp;have IB:Inv Y [] (bst own.length σ js) H2 {s2 with heap:=h1}:=mX B I2 f2 fpo szC hns1 hcs1 keep1;have fpB:∀ {H':Hp} {pl:List (Addr×Obj)},(∀b∈fp,H' b=none)->(∀p∈pl,p.1=D)->∀b∈fp,FpOk Y pl H' b:=λ{H' pl} hn hp b hb=>by
  obtain⟨f0,f1,f3,f4,f5,f6⟩:=f2 b hb;refine⟨hn b hb,(fpD b hb).2,λz=>?_,.inl hb,λx c e=>?_,λp q=>?_⟩
  ·rcases we.mp (I2.stkSub b z)with z | z
   ·exact f1 z
   ·exact f3 z
  ·rcases cS e with q | q
   ·obtain⟨o,eo⟩:=fpo b hb;exact wM (o0 (lc eo) (wo szC (wT (hcs1.empty _ _ q).2)))
   ·exact f5 x c q
  ·have q':p∈pl:=by simpa [Y,blkC] using q
   rw[hp p q'];exact(fpD b hb).1.symm
 have clB:∀x d,Y.env.cells.lookup x=some d->d≠D:=λx d e=>by
  rcases cS e with q | q
  ·exact wM (yD ltDC (hcs1.empty _ _ q).2)
  ·exact(clD x d q).1
 have notFs:D∉Y.fs:=λz=>by
  obtain⟨_,o,ho,_⟩:=IB.ok.funs.mem z;exact(old (lc (show s2.heap.get? D=some o from ho))).1 rfl
 have loop:∀s3:bn,s3={s2 with heap:=h1} ->
   zp (pp X.prog X.w) X.A (.compLoop (.ListComp elt [⟨tg,iter,ifs,0⟩] scope pos) 0 (.ref it) (.ref D) (C_ scope (d5 scope C X.env) C X.env)) (RR (.ref D) C) s3:=by
  rintro s3 rfl;refine lY (λn s'=>∃(i:Nat) (ys:List V) (its:List bi) (k:Nat) (H':Hp),Inv Y [] (bst own.length σ js) H' s'/\tn i s'.heap/\(∀b∈fp,H' b=none)/\H' D=none/\Vals ys its /\
   s'.heap.get? D=some {cls:=.type "list",data:=.seq its.toArray k}/\W i n ys H') ?_ m0 ⟨0,[],[],0,H2,IB,T.keep 0 _ _ st2 (λb hb o e=>keep1 b o e),λb hb=>(f2 b hb).1,I2.hok.fresh szD,.nil,gD1,w0⟩
  rintro n s3 ⟨i,ys,its,k,H3,I3,st3,fr3,hD3,r3,g3,w3⟩;have I3p:Inv Y [(D,{cls:=.type "list",data:=.seq its.toArray k})] (bst own.length σ js) H3 s3:=I3.pins_of λp hp=>by
   have e:p=(D,{cls:=.type "list",data:=.seq its.toArray k}):=by simpa using hp
   subst e;exact⟨g3,hD3,neDC,notFs,λv z=>by cases z⟩
  have f3:∀b∈fp,FpOk Y [(D,{cls:=.type "list",data:=.seq its.toArray k})] H3 b:=fpB fr3 λp hp=>by
   have e:p=(D,{cls:=.type "list",data:=.seq its.toArray k}):=by simpa using hp
   rw[e]
  rcases turn i n ys H3 w3 with⟨stop,hz,qn⟩ | ⟨go,hz,N,hN,step⟩
  ·refine thn (T.done Y rfl rfl rfl hc i _ s3 _ H3 (λ_ _=>False) I3p f3 st3 stop) λr s4 ⟨hr,I4⟩=>?_;subst hr;refine hR C _ s4 ?_;have g4:=(I4.pin (D,{cls:=.type "list",data:=.seq its.toArray k}) (by simp[Y,blkC])).1;obtain⟨m,hn4,_⟩:=id I4.loc;have un:Un (frs X.stack) fp H2 H3 s2.heap s4.heap:=I4.base;have I5:Inv X pins σ H3 s4:=I2.call' I4.os un I4.hok I4.bare λb hb=>let ⟨_,b1,_,b3,b4,b5⟩:=f2 b hb;⟨b3,b1,b4,b5⟩;have I6:=I5.track (ys:=ys) (its:=its) (n:=k) hD3 (wo I2.sz szD) locD.1 (λx d e=>(clD x d e).1) (λp hp=>(pinD p hp).1) hz r3 g4;refine⟨D,_,m,rfl,hn4,I6,?_,wo I2.sz szC,locD.2,λx d e=>(clD x d e).2,λp hp=>(pinD p hp).2,qn D hD3⟩;rw[aI (xc neDC)];exact I4.free
  ·refine thn (T.item Y rfl rfl rfl hc i _ s3 _ H3 (λ_ _=>False) I3p f3 st3 go) λr s4 ⟨u,hr,h4⟩=>?_;subst hr;refine thn h4 λ_ s5 ⟨x,H5,I5,r5,y5,st5,fr5⟩=>?_;have f5:∀b∈fp,FpOk Y [(D,{cls:=.type "list",data:=.seq its.toArray k})] H5 b:=λb hb=>⟨fr5 b hb,(f3 b hb).2⟩
   have I5':=I5.pinned f5 (T.obj _ _ st5);refine thn (hg s2 H2 C fp B.nd _ s5 _ H5 x u _ I5' r5 (step x H5 y5)) λ_ s6 ⟨σ6,H6,I6,d6,q6⟩=>?_;refine thn (ht s2 H2 C fp _ s6 σ6 H6 _ I6 q6) λok s7 ⟨H7,I7,q7⟩=>?_;have after:∀ {s8:bn} {H8:Hp},Inv Y ([(D,{cls:=.type "list",data:=.seq its.toArray k})]++hV fp s5.heap) σ6 H8 s8 ->
     s8.heap.get? D=some {cls:=.type "list",data:=.seq its.toArray k}/\H8 D=none/\tn (i+1) s8.heap/\(∀b∈fp,H8 b=none)/\Inv Y [] (bst own.length σ js) H8 s8:=λ{s8 H8} I8=>by
    have p8:=I8.pin (D,{cls:=.type "list",data:=.seq its.toArray k}) (by simp[Y,blkC]);refine⟨p8.1,p8.2.1,T.keep _ _ _ st5 λb hb o e=>(I8.pin (b,o) (wg _ (wg _ (cy hb e)))).1,λb hb=>?_,?_⟩
    ·obtain⟨o,e,_⟩:=T.obj _ _ st5 b hb;exact(I8.pin (b,o) (wg _ (wg _ (cy hb e)))).2.1
    ·refine(I8.pins_of (pins':=[]) λp hp=>absurd hp (by simp[Y,blkC])).weak ?_ λj v e=>?_
     ·rw[I8.len,iH];show _=(own++capN X.N js).length;unfold capN;simp
     ·rcases wu j own.length with z | z
      ·exfalso;unfold bst at e;rw[wU (by simpa using z),yL]at e;split at e <;> cases e
      ·unfold bst at e;rw[xA (by simpa using z),xH,<- d6,xK]at e;rw[<- e];congr 1;omega
   cases ok with
   | false =>
    rw[if_neg wS]at q7 ⊢;obtain⟨m',hm,w7⟩:=hN _ _ q7;obtain⟨a1,a2,a3,a4,a5⟩:=after I7;exact⟨m',hm,i+1,ys,its,k,H7,a5,a3,a4,a2,r3,a1,w7⟩
   | true =>
    rw[if_pos rfl]at q7 ⊢;refine thn (he s2 H2 C fp _ s7 σ6 H7 _ I7 q7) λu8 s8 ⟨v8,H8,I8,r8,n8⟩=>?_;obtain⟨m',hm,w8⟩:=hN _ _ n8;obtain⟨a1,a2,a3,a4,a5⟩:=after I8;have hsz:its.toArray.size<v5:=by rw[kt,<- r3.length];exact hz
    refine A6 v_ ⟨_,a1,rfl⟩ AF (Ao _ _) (Az D its.toArray k u8 (by omega)) ⟨a1,?_⟩;have q9:=An a1 (λxs=>xs.push u8);have sb:w_ D s8.heap (s8.heap.update D (xC λxs=>xs.push u8)):=xX ..;have I9:=a5.young sb a2 szD neDC clB (λp hp=>absurd hp (by show p∉[]++[];simp));have fin:∃k',(s8.heap.update D (xC λxs=>xs.push u8)).get? D=some {cls:=.type "list",data:=.seq (its++[u8]).toArray k'}:=⟨_,by
     rw[show(its++[u8]).toArray=its.toArray.push u8 by simp];exact q9⟩
    obtain⟨k',fin⟩:=fin;exact⟨m',hm,i+1,ys++[v8],its++[u8],k',H8,I9,T.keep _ _ _ a3 (λb hb o e=>(sb.2 b (fpD b hb).1).trans e),a4,a2,r3.append (.cons r8 .nil),fin,w8⟩
 exact CJ (loop _ rfl) (T.self _ 0 _ _ _ (T.keep 0 _ _ st2 λb hb o e=>keep1 b o e) (loop _ rfl))
theorem qA {elt tg iter:Expr}{ifs:List Expr}{scope:xx}{pos:Pos}(own:List Str)(js:List Nat){wi:TI}{g:TG}{tc:TT}{te:TE}(hc:X.calm=true)(B:BlkC X scope own js)(hi:PI X tg iter wi)
  (hg:∀s H C fp,(own++capN X.N js).Nodup->PG (blkC X scope (own++capN X.N js) s H C fp) tg g) (ht:∀s H C fp,PTs (blkC X scope (own++capN X.N js) s H C fp) ifs tc) (he:∀s H C fp,PE (blkC X scope (own++capN X.N js) s H C fp) elt te)
  (hs:∀x,x8 iter X.env x=pure x:=by intro _;rfl):PE X (.ListComp elt [⟨tg,iter,ifs,0⟩] scope pos) (ka own.length js wi g tc te):=by
 intro pins s σ H Q I h;have hcl:A4 scope X.env=pure (dZ scope X.env):=dO λx hx hf=>I.ok.has x.1 (B.free x hx hf);rw[eval_ListComp];refine zU (use:=none) rfl hs hcl B.kind B.names (thn (hi pins s σ H _ I h) λv s1 h1=>thn h1 λitv s2 h2=>?_);refine iC (RR:=λacc C=>C9 (pp X.prog X.w) X.A X.xe none (EP X pins σ Q) acc C) hc B hg ht he h2 λC acc s' hb=>?_;obtain⟨D,H',m,rfl,hn,I',c1,c2,c3,c4,c5,q⟩:=hb;exact⟨m,hn,λh' hs'=>⟨.ref D,H',I'.young hs' c1 c2 c3 c4 c5,rfl,q⟩⟩
theorem qx {elt tg iter:Expr}{ifs:List Expr}{scope:xx}{pos pos' spos:Pos}{i:Nat}{x:Str}(own:List Str)(js:List Nat){wi:TI}{g:TG}{tc:TT}{te:TE}(hN:X.N.Nodup)(hi:X.N[i]? = some x)(hx:Loc X.env.scope x)
  (hc:X.calm=true) (B:BlkC X scope own js) (hit:PI X tg iter wi)
  (hg:∀s H C fp,(own++capN X.N js).Nodup->PG (blkC X scope (own++capN X.N js) s H C fp) tg g) (ht:∀s H C fp,PTs (blkC X scope (own++capN X.N js) s H C fp) ifs tc) (he:∀s H C fp,PE (blkC X scope (own++capN X.N js) s H C fp) elt te)
  (hf:X.fn x=true∨X.env.scope.names.lookup x=some .local:=by first | exact .inl rfl | exact .inr rfl | assumption)
  (hw:zd (.ListComp elt [⟨tg,iter,ifs,0⟩] scope pos) (some (.Name x pos')) spos.line X.env=pure true:=by rfl)
  (hs:∀x,x8 iter X.env x=pure x:=by intro _;rfl) :
  PS X (.Assign [.Name x pos'] (.ListComp elt [⟨tg,iter,ifs,0⟩] scope pos) spos) (λD σ H=>ka own.length js wi g tc te σ H λv H'=>D.nx (σ.set i (some v)) H'):=by
 intro pins s σ H D I h;have hcl:A4 scope X.env=pure (dZ scope X.env):=dO λx hx hf=>I.ok.has x.1 (B.free x hx hf);rw[CZ _ _ _ _ hw];refine bd (yO (bd ?_));show nw _ X.A (do let _ <- comprehension (.ListComp elt [⟨tg,iter,ifs,0⟩] scope pos) scope X.env _ (DJ []) false (eval iter X.env) (some (zV (.Name x pos') X.env))) _ _ s;refine bd (thn (Q:=λ_ s'=>SP X pins D .next s') (zU (use:=some (zV (.Name x pos') X.env)) rfl hs hcl B.kind B.names (thn (hit pins s σ H _ I h) λv s1 h1=>thn h1 λitv s2 h2=>?_)) λ_ s' q=>lw (lw q));refine iC (Q:=λv H'=>D.nx (σ.set i (some v)) H') (RR:=λacc C=>C9 (pp X.prog X.w) X.A X.xe (some (zV (.Name x pos') X.env)) (λ_ s'=>SP X pins D .next s') acc C) hc B hg ht he h2 λC acc s' hb=>?_;obtain⟨l,H',m,rfl,hn,I',c1,c2,c3,c4,c5,q⟩:=hb;show nw _ X.A (zV (.Name x pos') X.env (.ref l)) _ _ _;refine DF (g5 (v:=.ref l) I' hN hi hx rfl (λs3 I3 ⟨a,sb,ha⟩=>?_) hf);have ne:C≠a:=by
  rcases ha with z | z
  ·rw[z];exact c3
  ·exact(c4 x a z).symm
 exact⟨m,hn.sameBut sb ne,λh' hs'=>⟨_,H',I3.young hs' c1 c2 c3 c4 c5,q⟩⟩
theorem hZ {elt tg iter:Expr}{ifs:List Expr}{scope:xx}{pos:Pos}(own:List Str)(js:List Nat){wi:TI}{g:TG}{tc:TT}{te:TE}(hc:X.calm=true)(B:Blk X scope own js)(hi:PI X tg iter wi)
  (hg:∀s H C fp,(own++capN X.N js).Nodup->PG (blk X scope (own++capN X.N js) s H C fp) tg g) (ht:∀s H C fp,PTs (blk X scope (own++capN X.N js) s H C fp) ifs tc) (he:∀s H C fp,PE (blk X scope (own++capN X.N js) s H C fp) elt te)
  (hs:∀x,x8 iter X.env x=pure x:=by intro _;rfl):PE X (.ListComp elt [⟨tg,iter,ifs,0⟩] scope pos) (ka own.length js wi g tc te) :=
 qA own js hc B.c hi (λs H C fp nd=>by rw[gF B];exact hg s H C fp nd) (λs H C fp=>by rw[gF B];exact ht s H C fp) (λs H C fp=>by rw[gF B];exact he s H C fp) hs
theorem jF {elt tg iter:Expr}{ifs:List Expr}{scope:xx}{pos pos' spos:Pos}{i:Nat}{x:Str}(own:List Str)(js:List Nat){wi:TI}{g:TG}{tc:TT}{te:TE}(hN:X.N.Nodup)(hi:X.N[i]? = some x)(hx:Loc X.env.scope x)
  (hc:X.calm=true) (B:Blk X scope own js) (hit:PI X tg iter wi)
  (hg:∀s H C fp,(own++capN X.N js).Nodup->PG (blk X scope (own++capN X.N js) s H C fp) tg g) (ht:∀s H C fp,PTs (blk X scope (own++capN X.N js) s H C fp) ifs tc) (he:∀s H C fp,PE (blk X scope (own++capN X.N js) s H C fp) elt te)
  (hf:X.fn x=true∨X.env.scope.names.lookup x=some .local:=by first | exact .inl rfl | exact .inr rfl | assumption)
  (hw:zd (.ListComp elt [⟨tg,iter,ifs,0⟩] scope pos) (some (.Name x pos')) spos.line X.env=pure true:=by rfl)
  (hs:∀x,x8 iter X.env x=pure x:=by intro _;rfl) :
  PS X (.Assign [.Name x pos'] (.ListComp elt [⟨tg,iter,ifs,0⟩] scope pos) spos) (λD σ H=>ka own.length js wi g tc te σ H λv H'=>D.nx (σ.set i (some v)) H') :=
 qx own js hN hi hx hc B.c hit (λs H C fp nd=>by rw[gF B];exact hg s H C fp nd) (λs H C fp=>by rw[gF B];exact ht s H C fp) (λs H C fp=>by rw[gF B];exact he s H C fp) hf hw hs
end
section
variable {X:Cx}
def Dv (j:Int):Prop:=0<j/\j.natAbs.log2<9000
theorem Dv.small {j:Int}(h:0<j)(h2:j<1073741824):Dv j:=⟨h,by
 have e:j.natAbs≠0:=by omega
 have:j.natAbs.log2<30:=(D_ e).mpr (by omega);omega⟩
theorem jK:OpR X (y4 .FloorDiv) (rI (λ_ j=>Dv j) λi j=>.int (i / j)):=opI λi j _ _ _ _ _ hc q=>by
 rw[<- Int.fdiv_eq_ediv_of_nonneg i (AN hc.1)]at q;exact floordiv_int (DV hc.1) q (.inl (PyProof.noPylong_of_log2 hc.2))
theorem vC {x:Str}{T:String}{pos:Pos}(hg:Gl X x)(hm:X.mg x=none)(hv:xr x=some (.type T))(hn:x ≠ "__name__" := by decide)(hd:(x==("__debug__" : Str))=false:=by decide):PE X (.Name x pos) (tC (.ty T)) :=
 sI hg hm hv rfl hn hd
structure OkN (P:v3)(w:wz)(K:ac)(mg:Str->Option bi)(base:Heap)(k:Nat)(x:Str)(ps:List Str)(sp:Sp):Prop where
 ex:∃f fd,mg x=some (.ref f)/\xQ K (.ref f)=true/\j4 K fd ps []/\(∃oc od osl,K.lookup f=some ⟨oc,od,.func fd,osl⟩)/\FnOk P w K mg base CX0 k f fd ps sp
theorem b_ {k:Nat}{x:Str}{ps:List Str}{sp:Sp}{p pos:Pos}{e:Expr}{es:List Expr}{t:TA}(F:OkN X.prog X.w X.K X.mg X.base k x ps sp)(hr:Room k X.A)(ha:PA X (e::es) t)(hg:Gl X x:=by rfl)
  (hdb:(x==("__debug__" : Str))=false:=by decide) (he:wq (e::es) X.env=(false,eval e X.env)::wq es X.env:=by rfl) (hpl:(yt pos (wq es X.env)).any (·.1)=false:=by rfl) :
  PE X (.Call (.Name x p) (e::es) [] pos) (lh sp [] E0 t):=by
 obtain⟨f,fd,hm,hk,hb,lk,F⟩:=F.ex;exact lA F hr hg hm hk hb .nil vE ha hdb he hpl
structure DefN (K:ac)(mg:Str->Option bi)(x:Str)(st:Stmt)(ps:List Str):Prop where
 ex:∃f fd,mg x=some (.ref f)/\Fun K x x st f fd/\∀us:List bi,us.length=ps.length->BU fd ⟨us,[]⟩=pure (ps.zip us)
theorem DefN.ok {P:v3}{w:wz}{K:ac}{mg:Str->Option bi}{base:Heap}{x:Str}{st:Stmt}{N ps:List Str}{k:Nat}{sp:Sp}(D:DefN K mg x st ps)(S:bI N ps (aK st))(len:∀vs H Q E,sp vs H Q E->vs.length=ps.length)
  (hbody:∀(f:Addr) (cdv:bi) (A:wy) (outer:List Env) (s:bn) (H:Hp) (vs:List V) (Q:VK) (E:XK),Room k (A.deeper (zf x (aK st) s.heap.objs.size f cdv))->sp vs H Q E ->
   ∃t,PSs (cxOf CX0 P w K mg base N x (aK st) f cdv A outer s H E).nox (cf st) t/\t {nx:=λ_ H'=>Q .non H',rt:=Q} (gG N vs) H):OkN P w K mg base (k+1) x ps sp:=by
 obtain⟨f,fd,hm,F,hb⟩:=D.ex;refine⟨f,fd,hm,F.kp,.all hb,?_,F.ok S len λcdv A outer s H vs Q E hr h=>hbody f cdv A outer s H vs Q E hr h⟩;obtain⟨oc,od,kV,doc,pm,an,cdv,ct,osl,_,lk,_⟩:=F.ex;exact⟨oc,od,osl,lk⟩
theorem vd {K:ac}{mg:Str->Option bi}{h:Heap}{x:Str}{st:Stmt}{ps:List Str}{f:Addr}{oc:bi}{od an:Option Addr}{osl:Array (Option bi)}{kV doc pm cdv ct:bi}(KX:K.In h)(G:h.Ns vZ mg)
  (a:wd K vZ x=some (some (.ref f))) (l:K.lookup f=some ⟨oc,od,.func (xN x x (dN st) (cf st) (aK st) .none kV doc pm an cdv ct),osl⟩)
  (c:yj K cdv x=true) (k:xQ K (.ref f)=true)
  (hb:∀(kV doc pm:bi) (an:Option Addr) (cdv ct:bi) (us:List bi),us.length=ps.length->BU (xN x x (dN st) (cf st) (aK st) .none kV doc pm an cdv ct) ⟨us,[]⟩=pure (ps.zip us)):DefN K mg x st ps :=
 ⟨f,_,xk KX G a,rJ l c k,λus hl=>hb kV doc pm an cdv ct us hl⟩
theorem sY {P:v3}{w:wz}{K:ac}{mg:Str->Option bi}{x p:Str}{st:Stmt}{k:Nat}{fa:Addr}{sp:Sp}(D:DefN K mg x st [p])(hfa:mg x=some (.ref fa))
  (F:∀base:Heap,OkN P w K mg base k x [p] sp):∃fd:yP,(∀(s:bn) (v:bi),BO s fd ⟨[v],[]⟩ [(p,v)])/\∀base:Heap,K.In base->base.Ns vZ mg->FnOk P w K mg base CX0 k fa fd [p] sp:=by
 obtain⟨f,fd,hm,F0,hb⟩:=D.ex;obtain⟨oc,od,kV,doc,pm,an,cdv,ct,osl,_,lk,_⟩:=F0.ex;refine⟨fd,λs v=>.of_eq (hb [v] rfl),λbase _ _=>?_⟩;obtain⟨f',fd',hm',_,_,⟨oc',od',osl',lk'⟩,G⟩:=(F base).ex;rw[hfa]at hm';cases hm'
 rw[hfa]at hm;cases hm
 rw[lk]at lk';cases lk'
 exact G
end
structure BI (mg:Str->Option bi):Prop where
 len_:mg "len" = none
 range_:mg "range" = none
 isinstance_:mg "isinstance" = none
 int_:mg "int" = none
 bool_:mg "bool" = none
 list_:mg "list" = none
 tuple_:mg "tuple" = none
 str_:mg "str" = none
 sum_:mg "sum" = none
 all_:mg "all" = none
 max_:mg "max" = none
 min_:mg "min" = none
 sorted_:mg "sorted" = none
 set_:mg "set" = none
 zip_:mg "zip" = none
 enumerate_:mg "enumerate" = none
 reversed_:mg "reversed" = none
 dict_:mg "dict" = none
 any_:mg "any" = none
 abs_:mg "abs" = none
 repr_:mg "repr" = none
theorem vL {K:ac}{mg:Str->Option bi}{h:Heap}(KX:K.In h)(G:h.Ns vZ mg)
  (len_:wd K vZ "len" = some none) (range_:wd K vZ "range" = some none) (isinstance_:wd K vZ "isinstance" = some none) (int_:wd K vZ "int" = some none) (bool_:wd K vZ "bool" = some none) (list_:wd K vZ "list" = some none) (tuple_:wd K vZ "tuple" = some none) (str_:wd K vZ "str" = some none) (sum_:wd K vZ "sum" = some none) (all_:wd K vZ "all" = some none) (max_:wd K vZ "max" = some none) (min_:wd K vZ "min" = some none) (sorted_:wd K vZ "sorted" = some none) (set_:wd K vZ "set" = some none) (zip_:wd K vZ "zip" = some none) (enumerate_:wd K vZ "enumerate" = some none) (reversed_:wd K vZ "reversed" = some none) (dict_:wd K vZ "dict" = some none) (any_:wd K vZ "any" = some none) (abs_:wd K vZ "abs" = some none) (repr_:wd K vZ "repr" = some none):BI mg :=
 ⟨wj KX G len_,wj KX G range_,wj KX G isinstance_,wj KX G int_,wj KX G bool_,wj KX G list_,wj KX G tuple_,wj KX G str_,wj KX G sum_,wj KX G all_,wj KX G max_,wj KX G min_,wj KX G sorted_,wj KX G set_,wj KX G zip_,wj KX G enumerate_,wj KX G reversed_,wj KX G dict_,wj KX G any_,wj KX G abs_,wj KX G repr_⟩
def Grow (t:Addr)(H H':Hp):Prop:=∀b o,H b=some o->b≠t->H' b=some o
theorem Grow.refl {t:Addr}{H:Hp}:Grow t H H:=λ_ _ h _=>h
theorem Grow.upd {t:Addr}{H H':Hp}(g:Grow t H H')(o:HO):Grow t H (L2.upd H' t o):=λb u h n=>by rw[aI n];exact g b u h n
theorem Same.new {H H':Hp}{l:Addr}{o:HO}(s:Same H H')(h:H' l=none):Same H (L2.upd H' l o):=λb u e=>by
 have:=s b u e;rw[aI (bg this h)];exact this
theorem Same.seqT {K:ac}{H H':Hp}{a:Addr}{xs:List V}(e:Same H H')(h:SqT K H a xs):SqT K H' a xs:=by
 rcases h with(h | ⟨o,h⟩) | h
 ·exact .inl (.inl (e _ _ h))
 ·exact .inl (.inr ⟨o,e _ _ h⟩)
 ·exact .inr h
theorem Grow.seq {K:ac}{t:Addr}{H H':Hp}{a:Addr}{xs:List V}{kvs:List (Key×V)}(g:Grow t H H')(ht:H t=some (.dK kvs))(h:SqL K H a xs):SqL K H' a xs:=by
 rcases h with(h | ⟨o,h⟩) | h
 ·exact .inl (.inl (g _ _ h (sT h ht (by intro z;cases z))))
 ·exact .inl (.inr ⟨o,g _ _ h (sT h ht (by intro z;cases z))⟩)
 ·exact .inr h
def cj (c:Addr)(sp lf:Int):List (Key×V):=[(Sum.inr "cells",.ref c),(Sum.inr "spot",.int sp),(Sum.inr "left",.int lf)]
theorem tK:¬((Sum.inr ("cells" : Str):Key)=Sum.inr ("spot" : Str)):=by decide +kernel
theorem tL:¬((Sum.inr ("cells" : Str):Key)=Sum.inr ("left" : Str)):=by decide +kernel
theorem qr:¬((Sum.inr ("spot" : Str):Key)=Sum.inr ("left" : Str)):=by decide +kernel
theorem iU {c:Addr}{sp lf:Int}:valV (cj c sp lf) (Sum.inr "cells" : Key)=some (.ref c):=by
 simp[valV,cj]
theorem og {c:Addr}{sp lf:Int}:valV (cj c sp lf) (Sum.inr "spot" : Key)=some (.int sp):=by
 simp only[valV,cj,xv,decide_eq_false tK,decide_true,CO]
theorem oj {c:Addr}{sp lf:Int}:valV (cj c sp lf) (Sum.inr "left" : Key)=some (.int lf):=by
 simp only[valV,cj,xv,decide_eq_false tL,decide_eq_false qr,decide_true,CO]
theorem jD {c:Addr}{sp lf x:Int}:putK (cj c sp lf) (Sum.inr "left" : Key) (.int x)=cj c sp x:=by
 unfold putK;rw[if_pos (by simp[cj])];simp only[cj,wv,yu,if_neg tL,if_neg qr,if_pos]
theorem qv {c:Addr}{sp lf x:Int}:putK (cj c sp lf) (Sum.inr "spot" : Key) (.int x)=cj c x lf:=by
 unfold putK;rw[if_pos (by simp[cj])];simp only[cj,wv,yu,if_neg tK,if_pos,if_neg (show ¬((Sum.inr ("left" : Str):Key)=Sum.inr ("spot" : Str))from λe=>qr e.symm)]
theorem oh {c:Addr}:ig [] [((Sum.inr ("cells" : Str):Key),V.ref c),((Sum.inr ("spot" : Str):Key),V.int 0),((Sum.inr ("left" : Str):Key),V.int 0)]=cj c 0 0:=by
 simp only[ig,zY,Dm];have e1:putK ([]:List (Key×V)) (Sum.inr ("cells" : Str)) (V.ref c)=[((Sum.inr ("cells" : Str):Key),V.ref c)]:=by simp[putK]
 have e2:putK [((Sum.inr ("cells" : Str):Key),V.ref c)] (Sum.inr ("spot" : Str)) (V.int 0)=[((Sum.inr ("cells" : Str):Key),V.ref c),((Sum.inr ("spot" : Str):Key),V.int 0)]:=by
  unfold putK;rw[if_neg (by simp only[xR,DO,decide_eq_false tK];simp)];rfl
 have e3:putK [((Sum.inr ("cells" : Str):Key),V.ref c),((Sum.inr ("spot" : Str):Key),V.int 0)] (Sum.inr ("left" : Str)) (V.int 0)=cj c 0 0:=by
  unfold putK;rw[if_neg (by simp only[xR,DO,decide_eq_false tL,decide_eq_false qr];simp)];rfl
 rw[e1,e2,e3]
theorem vJ {ns:List Int}:cutV (ns.map V.int) none (some 63)=(ns.take 63).map V.int:=by
 unfold cutV;have e0:HT.sIx (ns.map V.int).length 0 none=0:=rfl;rw[e0,Dn,BZ,BC];show List.take (HT.sIx _ _ (some ((63:Nat):Int))) _=_;rw[HT.sIx_nat];rcases zW 63 (ns.map V.int).length with h | h
 ·rw[yf h]
 ·rw[yB h,x9 (ms _),x9 h]
end L2
namespace L2
theorem drawn {Q:Int->Hp->Prop}{m x:Int}{H':Hp}(hm:0<m)(k:∀r:Nat,(r:Int)<m->Q (r:Nat) H'):Q (x % m) H':=by
 obtain⟨r,e⟩:=yN (Do x (DV hm));have:=CT x hm;rw[e]at this ⊢;exact k r this
theorem mn {y:Int}:-(2^64)<y % 2147483647/\y % 2147483647<2^64:=by omega
theorem dv64:Dv 64:=Dv.small (by decide) (by decide)
end L2
namespace L2
open PySem PySem.Spec PyProof.Rows
theorem tP (a b:Nat):A9 (a:Int) (b:Int)=((a &&& b:Nat):Int):=by
 unfold A9;rw[decide_eq_true (CS a),decide_eq_true (CS b)];simp
theorem uF (a b:Nat):C6 (a:Int) (b:Int)=((a ||| b:Nat):Int):=by
 unfold C6 A9 Builtin.bitNot;rw[decide_eq_false (show ¬(0:Int) <= -(a:Int) - 1 by omega),decide_eq_false (show ¬(0:Int) <= -(b:Int) - 1 by omega)];have h1:(-(-(a:Int) - 1) - 1).toNat=a:=by omega
 have h2:(-(-(b:Int) - 1) - 1).toNat=b:=by omega
 simp only[h1,h2];omega
theorem ft:∀(a b:Nat),(a ^^^ b)+2*(a &&& b)=a+b:=by
 intro a;induction a using Nat.strongRecOn with
 | ind a ih =>
  intro b;by_cases h0:a=0
  ·subst h0;simp
  ·have h:=ih (a / 2) (by omega) (b / 2);have e1:(a ^^^ b) / 2=a / 2 ^^^ b / 2:=Nat.xor_div_two;have e2:(a &&& b) / 2=a / 2 &&& b / 2:=Nat.and_div_two;have e3:(a ^^^ b) % 2=(a+b) % 2:=by
    have:=Bn a b 0;rw[yA,yA,yA]at this;rcases wY a with p | p <;> rcases wY b with q | q <;> rcases wY (a ^^^ b)with r | r <;> simp[p,q,r]at this <;> omega
   have e4:(a &&& b) % 2=(a % 2)*(b % 2):=by
    have:=Bo a b 0;rw[yA,yA,yA]at this;rcases wY a with p | p <;> rcases wY b with q | q <;> rcases wY (a &&& b)with r | r <;> simp[p,q,r]at this <;> simp[p,q,r]
   rcases wY a with p | p <;> rcases wY b with q | q <;> rw[p,q]at e4 <;> omega
theorem nZ (a b:Nat):zm (a:Int) (b:Int)=((a ^^^ b:Nat):Int):=by
 unfold zm;rw[uF,tP];have h1:(a ||| b)+(a &&& b)=a+b:=by
  have:=ft a b;have e:(a ||| b)=(a ^^^ b)+(a &&& b):=by
   have h2:=ft (a ^^^ b) (a &&& b);have h3:(a ^^^ b) &&& (a &&& b)=0:=by
    apply Cg;intro i;simp only[Bo,Bn,Nat.zero_testBit];cases a.testBit i <;> cases b.testBit i <;> rfl
   have h4:(a ^^^ b) ^^^ (a &&& b)=a ||| b:=by
    apply Cg;intro i;simp only[Bo,Bn,Nat.testBit_or];cases a.testBit i <;> cases b.testBit i <;> rfl
   rw[h3,h4]at h2;omega
  omega
 have:=ft a b;omega
theorem lp (k:Nat):(1:Int)*(2:Int)^((k:Int).toNat)=((1 <<< k:Nat):Int):=by
 rw[xE,Nat.shiftLeft_eq,Int.one_mul,Nat.one_mul];simp
def sf (K:ac):Sp:=λvs H Q _=>∃(a:Addr) (ns:List Int),vs=[.ref a]/\SqL K H a (ns.map V.int)/\ns.length<=63/\∀H',Q (.bl true) H'
theorem bu:xr "len" = some (.builtin "len"):=by decide +kernel
theorem cG:xr "isinstance" = some (.builtin "isinstance"):=by decide +kernel
theorem p6:xr "list" = some (.type "list"):=by decide +kernel
theorem dR:xr "tuple" = some (.type "tuple"):=by decide +kernel
theorem jj:xr "max" = some (.builtin "max"):=by decide +kernel
theorem p0:xr "min" = some (.builtin "min"):=by decide +kernel
theorem gE:xr "enumerate" = some (.type "enumerate"):=by decide +kernel
theorem iG:xr "reversed" = some (.type "reversed"):=by decide +kernel
section
variable {X:Cx}{a b e o:Expr}{es:List Expr}{ta tb te to:TE}{t:TA}{pos apos cpos:Pos}(K:ac)
theorem g9 (ha:PE X a ta)(he:∀whole,CG a X.env whole=(do let v <- whole;standAt a.pos;holding [v] (truthy v)))(hK:X.K=K:=by rfl) :
  PT X a (λσ H Q=>ta σ H λx H'=>∃k,TruV K x H' k/\Q k H'):=by subst hK;exact qw ha he
theorem ny (hK:X.K=K:=by rfl):OpR X (yH .In) (rIn K false):=by subst hK;exact pb
theorem aO (hK:X.K=K:=by rfl):IxR X (rIx K):=by subst hK;exact uY
theorem eW (hK:X.K=K:=by rfl):SlR X (rSlL K):=by subst hK;exact sh
theorem aN (hK:X.K=K:=by rfl):gL X (.builtin "len") (λxs H Q=>∃p ys,xs=[.ref p]/\(SqL K H p ys∨SqT K H p ys)/\Q (.int ys.length) H):=by subst hK;exact kT
theorem nW (hK:X.K=K:=by rfl):gL X (.type "list") (λxs H Q=>∃p ys,xs=[.ref p]/\(SqL K H p ys∨SqT K H p ys)/\∀l,H l=none->Q (.ref l) (upd H l (.lst ys))):=by subst hK;exact kS
theorem cv (hK:X.K=K:=by rfl):gL X (.type "tuple") (λxs H Q=>∃p ys,xs=[.ref p]/\((SqL K H p ys/\∀l,H l=none->Q (.ref l) (upd H l (.tup ys)))∨(SqT K H p ys/\Q (.ref p) H))):=by subst hK;exact jW
theorem cE {es:List Expr}{k:Nat}{t:TGs}{n:Nat}(hc:X.calm=true)(h:PGs X es t)(hn:(zh es X.env).length=n:=by rfl)(hst:(zh es X.env).findIdx? (·.1)=none:=by rfl)(hK:X.K=K:=by rfl) :
  PG X (.Tuple es k pos) (gTup K n t):=by subst hK;exact uA hc h hn hst
variable {name:Str}{T id:String}{r:V->List V->Hp->VK->Prop}
theorem cH (pa:PlainAttrs T)(slot:Slot T name id)(hty:typeOf (.builtin id)=pure (.type "method_descriptor"))(hm:MtR X id r)(ho:PE X o to)(ha:PA X (e::es) t)
  (hbase:AU o name X.env (eval o X.env)=eval o X.env:=by rfl)
  (hfew:((yt cpos (wq (e::es) X.env)).all (λx=>!x.1)&&(backToKw cpos (C8 [] X.env)).all (λx=>x.1.isSome)&&decide ((e::es).length+([]:List DP).length+(if([]:List DP).isEmpty then 0 else 1)<30))=true:=by rfl)
  (hline:(apos.endLine==cpos.line)=true:=by rfl) (he:wq (e::es) X.env=(false,eval e X.env)::wq es X.env:=by rfl) (hpl:(yt cpos (wq es X.env)).any (·.1)=false:=by rfl)
  (hK:X.K=K:=by rfl):PE X (.Call (.Attribute o name apos) (e::es) [] cpos) (tBM K T r to t):=by
 subst hK;exact vD pa slot hty hm ho ha hbase hfew hline he hpl
end
inductive D where
 | non | bl (b:Bool) | int (i:Int) | str (x:Str) | tup (ds:List D) | lst (ds:List D)
def StT (H:Hp)(a:Addr)(xs:List V):Prop:=H a=some (.tup xs)
theorem StT.sq {K:ac}{H:Hp}{a:Addr}{xs:List V}(h:StT H a xs):SqT K H a xs:=SqT.of h
instance {K:ac} {H:Hp} {a:Addr} {xs:List V}:Coe (StT H a xs) (SqT K H a xs):=⟨StT.sq⟩
def StL (H:Hp)(a:Addr)(xs:List V):Prop:=H a=some (.lst xs)
theorem StL.sq {K:ac}{H:Hp}{a:Addr}{xs:List V}(h:StL H a xs):SqL K H a xs:=SqL.of h
instance {K:ac} {H:Hp} {a:Addr} {xs:List V}:Coe (StL H a xs) (SqL K H a xs):=⟨StL.sq⟩
mutual
def RepD (K:ac)(H:Hp):V->D->Prop
 | v,.non=>v = .non
 | v,.bl b=>v = .bl b
 | v,.int i=>v = .int i
 | v,.str x=>v = .str x
 | v,.tup ds=>∃a vs,v = .ref a/\StT H a vs/\RepDs K H vs ds
 | v,.lst ds=>∃a vs,v = .ref a/\StL H a vs/\RepDs K H vs ds
def RepDs (K:ac)(H:Hp):List V->List D->Prop
 | [],[]=>True
 | v::vs,d::ds=>RepD K H v d/\RepDs K H vs ds
 | _,_=>False
end
mutual
def eqD:D->D->Bool
 | .non,.non=>true
 | .bl a,.bl b=>a==b
 | .bl a,.int b=>(if a then 1 else 0)==b
 | .int a,.bl b=>a==(if b then 1 else 0)
 | .int a,.int b=>a==b
 | .str a,.str b=>a==b
 | .tup ds,.tup es=>eqDs ds es
 | .lst ds,.lst es=>eqDs ds es
 | _,_=>false
def eqDs:List D->List D->Bool
 | [],[]=>true
 | d::ds,e::es=>eqD d e&&eqDs ds es
 | _,_=>false
end
mutual
def D.depth:D->Nat
 | .tup ds=>depths ds+1
 | .lst ds=>depths ds+1
 | _=>0
def depths:List D->Nat
 | []=>0
 | d::ds=>max d.depth (depths ds)
end
section
variable {K:ac}{H H':Hp}
theorem RepDs.length:∀ {vs:List V} {ds:List D},RepDs K H vs ds->vs.length=ds.length
 | [],[],_=>rfl
 | v::vs,d::ds,h=>by
  unfold RepDs at h;rw[wn,wn,RepDs.length h.2]
 | [],d::ds,h=>by unfold RepDs at h;exact h.elim
 | v::vs,[],h=>by unfold RepDs at h;exact h.elim
theorem RepDs.get:∀ {vs:List V} {ds:List D} {i:Nat} {d:D},RepDs K H vs ds->ds[i]? = some d->∃v,vs[i]? = some v/\RepD K H v d
 | [],[],_,_,_,e=>by simp at e
 | v::vs,d::ds,0,_,h,e=>by
  unfold RepDs at h;simp at e;subst e;exact⟨v,rfl,h.1⟩
 | v::vs,d::ds,i+1,_,h,e=>by
  unfold RepDs at h;obtain⟨u,a,b⟩:=RepDs.get (i:=i) h.2 (by simpa using e);exact⟨u,by simpa using a,b⟩
 | [],d::ds,_,_,h,_=>by unfold RepDs at h;exact h.elim
 | v::vs,[],_,_,h,_=>by unfold RepDs at h;exact h.elim
theorem RepDs.getV:∀ {vs:List V} {ds:List D} {i:Nat} {v:V},RepDs K H vs ds->vs[i]? = some v->∃d,ds[i]? = some d/\RepD K H v d
 | [],[],_,_,_,e=>by simp at e
 | v::vs,d::ds,0,_,h,e=>by
  unfold RepDs at h;simp at e;subst e;exact⟨d,rfl,h.1⟩
 | v::vs,d::ds,i+1,_,h,e=>by
  unfold RepDs at h;obtain⟨u,a,b⟩:=RepDs.getV (i:=i) h.2 (by simpa using e);exact⟨u,by simpa using a,b⟩
 | [],d::ds,_,_,h,_=>by unfold RepDs at h;exact h.elim
 | v::vs,[],_,_,h,_=>by unfold RepDs at h;exact h.elim
theorem RepDs.append:∀ {vs ws:List V} {ds es:List D},RepDs K H vs ds->RepDs K H ws es->RepDs K H (vs++ws) (ds++es)
 | [],ws,[],es,_,h=>h
 | v::vs,ws,d::ds,es,h,h'=>by
  unfold RepDs at h;show RepDs K H (v::(vs++ws)) (d::(ds++es));unfold RepDs;exact⟨h.1,RepDs.append h.2 h'⟩
 | [],_,d::ds,_,h,_=>by unfold RepDs at h;exact h.elim
 | v::vs,_,[],_,h,_=>by unfold RepDs at h;exact h.elim
theorem RepDs.one {v:V}{d:D}(h:RepD K H v d):RepDs K H [v] [d]:=by unfold RepDs;exact⟨h,by unfold RepDs;trivial⟩
theorem RepDs.nil:RepDs K H [] []:=by unfold RepDs;trivial
theorem RepDs.cons {v:V}{d:D}{vs:List V}{ds:List D}(h:RepD K H v d)(t:RepDs K H vs ds):RepDs K H (v::vs) (d::ds):=by unfold RepDs;exact⟨h,t⟩
mutual
theorem RepD.keep (hl:∀a vs,StL H a vs->StL H' a vs)(ht:∀a vs,StT H a vs->StT H' a vs):∀ {v:V} {d:D},RepD K H v d->RepD K H' v d
 | v,.non,h=>by unfold RepD at h ⊢;exact h
 | v,.bl b,h=>by unfold RepD at h ⊢;exact h
 | v,.int i,h=>by unfold RepD at h ⊢;exact h
 | v,.str x,h=>by unfold RepD at h ⊢;exact h
 | v,.tup ds,h=>by
  unfold RepD at h ⊢;obtain⟨a,vs,e,h1,h2⟩:=h;exact⟨a,vs,e,ht _ _ h1,RepDs.keep hl ht h2⟩
 | v,.lst ds,h=>by
  unfold RepD at h ⊢;obtain⟨a,vs,e,h1,h2⟩:=h;exact⟨a,vs,e,hl _ _ h1,RepDs.keep hl ht h2⟩
theorem RepDs.keep (hl:∀a vs,StL H a vs->StL H' a vs)(ht:∀a vs,StT H a vs->StT H' a vs):∀ {vs:List V} {ds:List D},RepDs K H vs ds->RepDs K H' vs ds
 | [],[],_=>RepDs.nil
 | v::vs,d::ds,h=>by
  unfold RepDs at h ⊢;exact⟨RepD.keep hl ht h.1,RepDs.keep hl ht h.2⟩
 | [],d::ds,h=>by unfold RepDs at h;exact h.elim
 | v::vs,[],h=>by unfold RepDs at h;exact h.elim
end
theorem RepD.same {v:V}{d:D}(h:RepD K H v d)(s:Same H H'):RepD K H' v d:=h.keep (λ_ _ q=>s _ _ q) λ_ _ q=>s _ _ q
theorem RepDs.same {vs:List V}{ds:List D}(h:RepDs K H vs ds)(s:Same H H'):RepDs K H' vs ds:=h.keep (λ_ _ q=>s _ _ q) λ_ _ q=>s _ _ q
end
mutual
theorem e9:∀d:D,eqD d d=true
 | .non=>by simp[eqD]
 | .bl b=>by simp[eqD]
 | .int i=>by simp[eqD]
 | .str x=>by simp[eqD]
 | .tup ds=>by unfold eqD;exact eqDs_refl ds
 | .lst ds=>by unfold eqD;exact eqDs_refl ds
theorem eqDs_refl:∀ds:List D,eqDs ds ds=true
 | []=>by simp[eqDs]
 | d::ds=>by unfold eqDs;rw[e9 d,eqDs_refl ds];rfl
end
section
variable {X:Cx}{pins:List (Addr×Obj)}{σ:St}{H:Hp}{s:bn}
mutual
theorem jC (I:Inv X pins σ H s):∀ {v:V} {d e:D},RepD X.K H v d->RepD X.K H v e->d=e
 | v,.non,e,h,h'=>by
  unfold RepD at h;subst h;cases e <;> (unfold RepD at h';first | rfl | (obtain⟨_,_,z,_⟩:=h';cases z) | cases h')
 | v,.bl b,e,h,h'=>by
  unfold RepD at h;subst h;cases e <;> (unfold RepD at h';first | (cases h';rfl) | (obtain⟨_,_,z,_⟩:=h';cases z) | cases h')
 | v,.int b,e,h,h'=>by
  unfold RepD at h;subst h;cases e <;> (unfold RepD at h';first | (cases h';rfl) | (obtain⟨_,_,z,_⟩:=h';cases z) | cases h')
 | v,.str b,e,h,h'=>by
  unfold RepD at h;subst h;cases e <;> (unfold RepD at h';first | (cases h';rfl) | (obtain⟨_,_,z,_⟩:=h';cases z) | cases h')
 | v,.tup ds,e,h,h'=>by
  unfold RepD at h;obtain⟨a,vs,rfl,h1,h2⟩:=h;cases e with
  | tup es =>
   unfold RepD at h';obtain⟨b,ws,z,g1,g2⟩:=h';cases z
   rw[I.tuple_inj g1.sq h1.sq]at g2;rw[repDs_inj I h2 g2]
  | lst es =>
   unfold RepD at h';obtain⟨b,ws,z,g1,g2⟩:=h';cases z
   obtain⟨_,_,⟨o,n,e1,c1,_⟩,_⟩:=I.list (StL.sq g1);obtain⟨_,_,⟨o',e2,c2,_⟩,_⟩:=I.tuple h1.sq;rw[e1]at e2;cases e2;rw[c1]at c2;exact absurd c2 (by decide)
  | non=>unfold RepD at h';cases h'
  | bl _=>unfold RepD at h';cases h'
  | int _=>unfold RepD at h';cases h'
  | str _=>unfold RepD at h';cases h'
 | v,.lst ds,e,h,h'=>by
  unfold RepD at h;obtain⟨a,vs,rfl,h1,h2⟩:=h;cases e with
  | lst es =>
   unfold RepD at h';obtain⟨b,ws,z,g1,g2⟩:=h';cases z
   rw[I.list_inj (StL.sq g1) (StL.sq h1)]at g2;rw[repDs_inj I h2 g2]
  | tup es =>
   unfold RepD at h';obtain⟨b,ws,z,g1,g2⟩:=h';cases z
   obtain⟨_,_,⟨o,n,e1,c1,_⟩,_⟩:=I.list (StL.sq h1);obtain⟨_,_,⟨o',e2,c2,_⟩,_⟩:=I.tuple g1.sq;rw[e1]at e2;cases e2;rw[c1]at c2;exact absurd c2 (by decide)
  | non=>unfold RepD at h';cases h'
  | bl _=>unfold RepD at h';cases h'
  | int _=>unfold RepD at h';cases h'
  | str _=>unfold RepD at h';cases h'
theorem repDs_inj (I:Inv X pins σ H s):∀ {vs:List V} {ds es:List D},RepDs X.K H vs ds->RepDs X.K H vs es->ds=es
 | [],[],[],_,_=>rfl
 | v::vs,d::ds,e::es,h,h'=>by
  unfold RepDs at h h';rw[jC I h.1 h'.1,repDs_inj I h.2 h'.2]
 | [],d::ds,_,h,_=>by unfold RepDs at h;exact h.elim
 | v::vs,[],_,h,_=>by unfold RepDs at h;exact h.elim
 | [],_,d::ds,_,h=>by unfold RepDs at h;exact h.elim
 | v::vs,_,[],_,h=>by unfold RepDs at h;exact h.elim
end
end
theorem fN (A:wy):A.in1.units=A.units+1:=rfl
theorem i8:∀ {ds:List D} {j:Nat} {d:D},ds[j]? = some d->d.depth<=depths ds
 | [],_,_,h=>by simp at h
 | d::ds,0,_,h=>by simp at h;subst h;unfold depths;omega
 | d::ds,j+1,e,h=>by
  have:=i8 (ds:=ds) (j:=j) (by simpa using h);unfold depths;omega
def kK (ds es:List D)(j:Nat):Bool:=match ds[j]?,es[j]? with
 | some d,some e=>eqD d e
 | _,_=>true
theorem dC:∀ {ds es:List D},ds.length=es.length->(wF ds.length).all (kK ds es)=eqDs ds es
 | [],[],_=>by simp[eqDs]
 | d::ds,e::es,h=>by
  have ih:=dC (ds:=ds) (es:=es) (by simpa using h);rw[wn,List.range_succ_eq_map,zL,List.all_map];unfold eqDs;rw[<- ih];congr 1
 | [],_::_,h=>by simp at h
 | _::_,[],h=>by simp at h
theorem cR:∀ {ds es:List D},ds.length≠es.length->eqDs ds es=false
 | [],[],h=>absurd rfl h
 | [],_::_,_=>by simp[eqDs]
 | _::_,[],_=>by simp[eqDs]
 | d::ds,e::es,h=>by
  unfold eqDs;rw[cR (ds:=ds) (es:=es) (by simpa using h),Bv]
section
variable {X:Cx}{pins:List (Addr×Obj)}{σ:St}{H:Hp}{s:bn}
theorem gR (I:Inv X pins σ H s){m:Nat}(ih:∀ {A:wy} {v u:V} {vv uu:bi} {d e:D},d.depth<=m->A.units+m<zv->RelV v vv->RelV u uu->RepD X.K H v d->RepD X.K H u e->zw A s vv uu (eqD d e)){A:wy}(hu:A.units+m<zv)
  {vs us:List V} {vvs uus:List bi} {ds es:List D} (hd:depths ds<=m) (rv:Vals vs vvs) (ru:Vals us uus) (hv:RepDs X.K H vs ds) (he:RepDs X.K H us es) :
  ∀j (h1:j<vvs.toArray.size) (h2:j<uus.toArray.size),zw A s vvs.toArray[j] uus.toArray[j] (kK ds es j):=by
 intro j h1 h2;rw[kt]at h1 h2;have l1:=rv.length;have l2:=ru.length;have g1:vs[j]? = some vs[j]:=dL (by omega);have g2:us[j]? = some us[j]:=dL (by omega);obtain⟨x,ex,rx⟩:=rv.get g1;obtain⟨y,ey,ry⟩:=ru.get g2;obtain⟨d,ed,rd⟩:=hv.getV g1;obtain⟨e,ee,re⟩:=he.getV g2;rw[dL h1]at ex;rw[dL h2]at ey;cases ex
 cases ey
 have:kK ds es j=eqD d e:=by unfold kK;rw[ed,ee]
 rw[this,B7,B7];exact ih (wo (i8 ed) hd) hu rx ry rd re
theorem rq (I:Inv X pins σ H s)(n:Nat)(ih:0<n->∀ {A:wy} {v u:V} {vv uu:bi} {d e:D},d.depth<=n - 1->A.units+(n - 1)<zv->RelV v vv->RelV u uu->RepD X.K H v d->RepD X.K H u e->zw A s vv uu (eqD d e))
  {A:wy} {v u:V} {vv uu:bi} {d e:D} (hd:d.depth<=n) (hu:A.units+n<zv) (rv:RelV v vv) (ru:RelV u uu) (hv:RepD X.K H v d) (he:RepD X.K H u e):Bl A s vv uu (eqD d e)/\zw A s vv uu (eqD d e):=by
 have hu0:A.units<zv:=by omega
 have isL:∀ {a xs},StL H a xs->∃its:List bi,Vals xs its/\s.heap.IsList a its.toArray:=λq=>by
  obtain⟨its,r,p,_⟩:=I.list q.sq;exact⟨its,r,p.isList⟩
 have isT:∀ {a xs},StT H a xs->∃its:List bi,Vals xs its/\s.heap.IsTuple a its.toArray:=λq=>by
  obtain⟨its,r,p,_⟩:=I.tuple q.sq;exact⟨its,r,p⟩
 cases d with
 | non =>
  unfold RepD at hv;subst hv;cases rv;cases e with
  | non=>unfold RepD at he;subst he;cases ru;exact⟨.none_none,.same _⟩
  | bl b=>unfold RepD at he;subst he;cases ru;exact⟨.none_bool _,.none_bool _⟩
  | int b=>unfold RepD at he;subst he;obtain⟨t,rfl⟩:=ru;exact⟨.none_int _ _,.none_int _ _⟩
  | str b=>unfold RepD at he;subst he;obtain⟨t,rfl⟩:=ru;exact⟨.none_str _ _,.none_str _ _⟩
  | tup es=>unfold RepD at he;obtain⟨a,vs,rfl,q,_⟩:=he;cases ru;obtain⟨its,_,q⟩:=isT q;exact⟨.none_tuple q hu0,.none_tuple q hu0⟩
  | lst es=>unfold RepD at he;obtain⟨a,vs,rfl,q,_⟩:=he;cases ru;obtain⟨its,_,q⟩:=isL q;exact⟨.none_list q hu0,.none_list q hu0⟩
 | bl x =>
  unfold RepD at hv;subst hv;cases rv;cases e with
  | non=>unfold RepD at he;subst he;cases ru;exact⟨.bool_none _,.bool_none _⟩
  | bl b=>unfold RepD at he;subst he;cases ru;exact⟨.bool_bool _ _,.bool_bool _ _⟩
  | int b=>unfold RepD at he;subst he;obtain⟨t,rfl⟩:=ru;exact⟨.bool_int _ _ _,.bool_int _ _ _⟩
  | str b=>unfold RepD at he;subst he;obtain⟨t,rfl⟩:=ru;exact⟨.bool_str _ _ _,.bool_str _ _ _⟩
  | tup es=>unfold RepD at he;obtain⟨a,vs,rfl,q,_⟩:=he;cases ru;obtain⟨its,_,q⟩:=isT q;exact⟨.bool_tuple _ q hu0,.bool_tuple _ q hu0⟩
  | lst es=>unfold RepD at he;obtain⟨a,vs,rfl,q,_⟩:=he;cases ru;obtain⟨its,_,q⟩:=isL q;exact⟨.bool_list _ q hu0,.bool_list _ q hu0⟩
 | int x =>
  unfold RepD at hv;subst hv;obtain⟨t0,rfl⟩:=rv;cases e with
  | non=>unfold RepD at he;subst he;cases ru;exact⟨.int_none _ _,.int_none _ _⟩
  | bl b=>unfold RepD at he;subst he;cases ru;exact⟨.int_bool _ _ _,.int_bool _ _ _⟩
  | int b=>unfold RepD at he;subst he;obtain⟨t,rfl⟩:=ru;exact⟨.int_int _ _ _ _,.int_int _ _ _ _⟩
  | str b=>unfold RepD at he;subst he;obtain⟨t,rfl⟩:=ru;exact⟨.int_str _ _ _ _,.int_str _ _ _ _⟩
  | tup es=>unfold RepD at he;obtain⟨a,vs,rfl,q,_⟩:=he;cases ru;obtain⟨its,_,q⟩:=isT q;exact⟨.int_tuple _ _ q hu0,.int_tuple _ _ q hu0⟩
  | lst es=>unfold RepD at he;obtain⟨a,vs,rfl,q,_⟩:=he;cases ru;obtain⟨its,_,q⟩:=isL q;exact⟨.int_list _ _ q hu0,.int_list _ _ q hu0⟩
 | str x =>
  unfold RepD at hv;subst hv;obtain⟨t0,rfl⟩:=rv;cases e with
  | non=>unfold RepD at he;subst he;cases ru;exact⟨.str_none _ _,.str_none _ _⟩
  | bl b=>unfold RepD at he;subst he;cases ru;exact⟨.str_bool _ _ _,.str_bool _ _ _⟩
  | int b=>unfold RepD at he;subst he;obtain⟨t,rfl⟩:=ru;exact⟨.str_int _ _ _ _,.str_int _ _ _ _⟩
  | str b=>unfold RepD at he;subst he;obtain⟨t,rfl⟩:=ru;exact⟨.str_str _ _ _ _,.str_str _ _ _ _⟩
  | tup es=>unfold RepD at he;obtain⟨a,vs,rfl,q,_⟩:=he;cases ru;obtain⟨its,_,q⟩:=isT q;exact⟨.str_tuple _ _ q hu0,.str_tuple _ _ q hu0⟩
  | lst es=>unfold RepD at he;obtain⟨a,vs,rfl,q,_⟩:=he;cases ru;obtain⟨its,_,q⟩:=isL q;exact⟨.str_list _ _ q hu0,.str_list _ _ q hu0⟩
 | tup ds =>
  have hv0:=hv;unfold RepD at hv;obtain⟨a,vs,rfl,q,hq⟩:=hv;cases rv
  obtain⟨its,r1,q1⟩:=isT q;cases e with
  | non=>unfold RepD at he;subst he;cases ru;exact⟨.tuple_none q1 hu0,.tuple_none q1 hu0⟩
  | bl b=>unfold RepD at he;subst he;cases ru;exact⟨.tuple_bool _ q1 hu0,.tuple_bool _ q1 hu0⟩
  | int b=>unfold RepD at he;subst he;obtain⟨t,rfl⟩:=ru;exact⟨.tuple_int _ _ q1 hu0,.tuple_int _ _ q1 hu0⟩
  | str b=>unfold RepD at he;subst he;obtain⟨t,rfl⟩:=ru;exact⟨.tuple_str _ _ q1 hu0,.tuple_str _ _ q1 hu0⟩
  | lst es=>unfold RepD at he;obtain⟨b,ws,rfl,g,_⟩:=he;cases ru;obtain⟨its2,_,g1⟩:=isL g;exact⟨.tuple_list q1 g1 hu0,.tuple_list q1 g1 hu0⟩
  | tup es =>
   have he0:=he;unfold RepD at he;obtain⟨b,ws,rfl,g,hg⟩:=he;cases ru
   obtain⟨its2,r2,g1⟩:=isT g;have hd':depths ds+1<=n:=by simpa [D.depth] using hd
   have l1:=r1.length;have l2:=r2.length;have m1:=hq.length;have m2:=hg.length;have rc:Bl A s (.ref a) (.ref b) (eqD (.tup ds) (.tup es)):=by
    have:=SeqAt.RcAt.tuples (e:=kK ds es) q1 g1 hu0 (gR I (λ{A} {v} {u} {vv} {uu} {d} {e}=>ih (by omega) (A:=A)) (A:=A.in1) (by rw[fN];omega) (m:=n - 1) (by omega) r1 r2 hq hg);rw[kt,kt]at this;unfold eqD;by_cases hl:ds.length=es.length
    ·have z:(its.length==its2.length)=true:=by rw[beq_iff_eq];omega
     have mm:min its.length its2.length=ds.length:=by omega
     rw[z,DC,mm,dC hl]at this;exact this
    ·have z:(its.length==its2.length)=false:=by rw[beq_eq_false_iff_ne];omega
     rw[z,Bv]at this;rw[cR hl];exact this
   refine⟨rc,?_⟩;by_cases hab:a=b
   ·subst hab;rw[jC I hv0 he0,e9];exact .same _
   ·exact .of_refs hab rc
 | lst ds =>
  have hv0:=hv;unfold RepD at hv;obtain⟨a,vs,rfl,q,hq⟩:=hv;cases rv
  obtain⟨its,r1,q1⟩:=isL q;cases e with
  | non=>unfold RepD at he;subst he;cases ru;exact⟨.list_none q1 hu0,.list_none q1 hu0⟩
  | bl b=>unfold RepD at he;subst he;cases ru;exact⟨.list_bool _ q1 hu0,.list_bool _ q1 hu0⟩
  | int b=>unfold RepD at he;subst he;obtain⟨t,rfl⟩:=ru;exact⟨.list_int _ _ q1 hu0,.list_int _ _ q1 hu0⟩
  | str b=>unfold RepD at he;subst he;obtain⟨t,rfl⟩:=ru;exact⟨.list_str _ _ q1 hu0,.list_str _ _ q1 hu0⟩
  | tup es=>unfold RepD at he;obtain⟨b,ws,rfl,g,_⟩:=he;cases ru;obtain⟨its2,_,g1⟩:=isT g;exact⟨.list_tuple q1 g1 hu0,.list_tuple q1 g1 hu0⟩
  | lst es =>
   have he0:=he;unfold RepD at he;obtain⟨b,ws,rfl,g,hg⟩:=he;cases ru
   obtain⟨its2,r2,g1⟩:=isL g;have hd':depths ds+1<=n:=by simpa [D.depth] using hd
   have l1:=r1.length;have l2:=r2.length;have m1:=hq.length;have m2:=hg.length;have rc:Bl A s (.ref a) (.ref b) (eqD (.lst ds) (.lst es)):=by
    unfold eqD;by_cases hl:ds.length=es.length
    ·have:=SeqAt.RcAt.lists (e:=kK ds es) q1 g1 (by rw[kt,kt];omega) hu0 (gR I (λ{A} {v} {u} {vv} {uu} {d} {e}=>ih (by omega) (A:=A)) (A:=A.in1) (by rw[fN];omega) (m:=n - 1) (by omega) r1 r2 hq hg);rw[kt,show its.length=ds.length by omega,dC hl]at this;exact this
    ·rw[cR hl];exact SeqAt.RcAt.lists_lengths q1 g1 (by rw[kt,kt,bne_iff_ne];omega) hu0
   refine⟨rc,?_⟩;by_cases hab:a=b
   ·subst hab;rw[jC I hv0 he0,e9];exact .same _
   ·exact .of_refs hab rc
theorem oN (I:Inv X pins σ H s):∀(n:Nat) {A:wy} {v u:V} {vv uu:bi} {d e:D},d.depth<=n->A.units+n<zv->RelV v vv->RelV u uu->RepD X.K H v d->RepD X.K H u e ->
  Bl A s vv uu (eqD d e)/\zw A s vv uu (eqD d e):=by
 intro n;induction n with
 | zero=>exact λhd hu=>rq I 0 (λhlt=>absurd hlt (by omega)) hd hu
 | succ n ih=>exact λhd hu=>rq I (n+1) (λ_ A v u vv uu d e h1 h2 h3 h4 h5 h6=>(ih (A:=A) h1 h2 h3 h4 h5 h6).2) hd hu
end
section
variable {X:Cx}(K:ac)
def rEqD (K:ac):R2:=λx y H Q=>∃d e,RepD K H x d/\RepD K H y e/\d.depth<=60/\Q (.bl (eqD d e)) H
def rNeD (K:ac):R2:=λx y H Q=>∃d e,RepD K H x d/\RepD K H y e/\d.depth<=60/\Q (.bl (!eqD d e)) H
theorem gw (hu:X.A.units+64<zv)(hK:X.K=K:=by rfl):OpR X (yH .Eq) (rEqD K):=by
 subst hK;intro pins s σ H x y v u Q I rx ry h;obtain⟨d,e,hd,he,hz,q⟩:=h;exact(oN I 60 hz (by omega) rx ry hd he).1 X.prog X.w _ _ ⟨.bl _,H,I,rfl,q⟩
theorem um {pins:List (Addr×Obj)}{σ:St}{H:Hp}{s:bn}(I:Inv X pins σ H s){A:wy}{v u:V}{vv uu:bi}{d e:D}(hd:d.depth<=60)(hu:A.units+61<zv)(rv:RelV v vv)(ru:RelV u uu)(hv:RepD X.K H v d)(he:RepD X.K H u e) :
  SeqAt.RcNeAt A s vv uu (!eqD d e):=by
 have hu0:A.units<zv:=by omega
 have isL:∀ {a xs},StL H a xs->∃its:List bi,Vals xs its/\s.heap.IsList a its.toArray:=λq=>by
  obtain⟨its,r,p,_⟩:=I.list q.sq;exact⟨its,r,p.isList⟩
 have isT:∀ {a xs},StT H a xs->∃its:List bi,Vals xs its/\s.heap.IsTuple a its.toArray:=λq=>by
  obtain⟨its,r,p,_⟩:=I.tuple q.sq;exact⟨its,r,p⟩
 cases d with
 | non =>
  unfold RepD at hv;subst hv;cases rv;cases e with
  | non=>unfold RepD at he;subst he;cases ru;exact .none_none
  | bl b=>unfold RepD at he;subst he;cases ru;exact .none_bool _
  | int b=>unfold RepD at he;subst he;obtain⟨t,rfl⟩:=ru;exact .none_int _ _
  | str b=>unfold RepD at he;subst he;obtain⟨t,rfl⟩:=ru;exact .none_str _ _
  | tup es=>unfold RepD at he;obtain⟨a,vs,rfl,q,_⟩:=he;cases ru;obtain⟨its,_,q⟩:=isT q;exact .none_tuple q hu0
  | lst es=>unfold RepD at he;obtain⟨a,vs,rfl,q,_⟩:=he;cases ru;obtain⟨its,_,q⟩:=isL q;exact .none_list q hu0
 | bl x =>
  unfold RepD at hv;subst hv;cases rv;cases e with
  | non=>unfold RepD at he;subst he;cases ru;exact .bool_none _
  | bl b=>unfold RepD at he;subst he;cases ru;exact .bool_bool _ _
  | int b=>unfold RepD at he;subst he;obtain⟨t,rfl⟩:=ru;exact .bool_int _ _ _
  | str b=>unfold RepD at he;subst he;obtain⟨t,rfl⟩:=ru;exact .bool_str _ _ _
  | tup es=>unfold RepD at he;obtain⟨a,vs,rfl,q,_⟩:=he;cases ru;obtain⟨its,_,q⟩:=isT q;exact .bool_tuple _ q hu0
  | lst es=>unfold RepD at he;obtain⟨a,vs,rfl,q,_⟩:=he;cases ru;obtain⟨its,_,q⟩:=isL q;exact .bool_list _ q hu0
 | int x =>
  unfold RepD at hv;subst hv;obtain⟨t0,rfl⟩:=rv;cases e with
  | non=>unfold RepD at he;subst he;cases ru;exact .int_none _ _
  | bl b=>unfold RepD at he;subst he;cases ru;exact .int_bool _ _ _
  | int b=>unfold RepD at he;subst he;obtain⟨t,rfl⟩:=ru;exact .int_int _ _ _ _
  | str b=>unfold RepD at he;subst he;obtain⟨t,rfl⟩:=ru;exact .int_str _ _ _ _
  | tup es=>unfold RepD at he;obtain⟨a,vs,rfl,q,_⟩:=he;cases ru;obtain⟨its,_,q⟩:=isT q;exact .int_tuple _ _ q hu0
  | lst es=>unfold RepD at he;obtain⟨a,vs,rfl,q,_⟩:=he;cases ru;obtain⟨its,_,q⟩:=isL q;exact .int_list _ _ q hu0
 | str x =>
  unfold RepD at hv;subst hv;obtain⟨t0,rfl⟩:=rv;cases e with
  | non=>unfold RepD at he;subst he;cases ru;exact .str_none _ _
  | bl b=>unfold RepD at he;subst he;cases ru;exact .str_bool _ _ _
  | int b=>unfold RepD at he;subst he;obtain⟨t,rfl⟩:=ru;exact .str_int _ _ _ _
  | str b=>unfold RepD at he;subst he;obtain⟨t,rfl⟩:=ru;exact .str_str _ _ _ _
  | tup es=>unfold RepD at he;obtain⟨a,vs,rfl,q,_⟩:=he;cases ru;obtain⟨its,_,q⟩:=isT q;exact .str_tuple _ _ q hu0
  | lst es=>unfold RepD at he;obtain⟨a,vs,rfl,q,_⟩:=he;cases ru;obtain⟨its,_,q⟩:=isL q;exact .str_list _ _ q hu0
 | tup ds =>
  unfold RepD at hv;obtain⟨a,vs,rfl,q,hq⟩:=hv;cases rv
  obtain⟨its,r1,q1⟩:=isT q;cases e with
  | non=>unfold RepD at he;subst he;cases ru;exact .tuple_none q1 hu0
  | bl b=>unfold RepD at he;subst he;cases ru;exact .tuple_bool _ q1 hu0
  | int b=>unfold RepD at he;subst he;obtain⟨t,rfl⟩:=ru;exact .tuple_int _ _ q1 hu0
  | str b=>unfold RepD at he;subst he;obtain⟨t,rfl⟩:=ru;exact .tuple_str _ _ q1 hu0
  | lst es=>unfold RepD at he;obtain⟨b,ws,rfl,g,_⟩:=he;cases ru;obtain⟨its2,_,g1⟩:=isL g;exact .tuple_list q1 g1 hu0
  | tup es =>
   unfold RepD at he;obtain⟨b,ws,rfl,g,hg⟩:=he;cases ru
   obtain⟨its2,r2,g1⟩:=isT g;have hd':depths ds+1<=60:=by simpa [D.depth] using hd
   have l1:=r1.length;have l2:=r2.length;have m1:=hq.length;have m2:=hg.length;have:=D6 (e:=kK ds es) q1 g1 hu0 (gR I (λ{A} {v} {u} {vv} {uu} {d} {e} a1 a2 a3 a4 a5 a6=>(oN I 60 a1 a2 a3 a4 a5 a6).2) (A:=A.in1) (by rw[fN];omega) (m:=60) (by omega) r1 r2 hq hg);rw[kt,kt]at this;unfold eqD;by_cases hl:ds.length=es.length
   ·have z:(its.length==its2.length)=true:=by rw[beq_iff_eq];omega
    have mm:min its.length its2.length=ds.length:=by omega
    rw[z,DC,mm,dC hl]at this;exact this
   ·have z:(its.length==its2.length)=false:=by rw[beq_eq_false_iff_ne];omega
    rw[z,Bv]at this;rw[cR hl];exact this
 | lst ds =>
  unfold RepD at hv;obtain⟨a,vs,rfl,q,hq⟩:=hv;cases rv
  obtain⟨its,r1,q1⟩:=isL q;cases e with
  | non=>unfold RepD at he;subst he;cases ru;exact .list_none q1 hu0
  | bl b=>unfold RepD at he;subst he;cases ru;exact .list_bool _ q1 hu0
  | int b=>unfold RepD at he;subst he;obtain⟨t,rfl⟩:=ru;exact .list_int _ _ q1 hu0
  | str b=>unfold RepD at he;subst he;obtain⟨t,rfl⟩:=ru;exact .list_str _ _ q1 hu0
  | tup es=>unfold RepD at he;obtain⟨b,ws,rfl,g,_⟩:=he;cases ru;obtain⟨its2,_,g1⟩:=isT g;exact .list_tuple q1 g1 hu0
  | lst es =>
   unfold RepD at he;obtain⟨b,ws,rfl,g,hg⟩:=he;cases ru
   obtain⟨its2,r2,g1⟩:=isL g;have hd':depths ds+1<=60:=by simpa [D.depth] using hd
   have l1:=r1.length;have l2:=r2.length;have m1:=hq.length;have m2:=hg.length;unfold eqD;by_cases hl:ds.length=es.length
   ·have:=D8 (e:=kK ds es) q1 g1 (by rw[kt,kt];omega) hu0 (gR I (λ{A} {v} {u} {vv} {uu} {d} {e} a1 a2 a3 a4 a5 a6=>(oN I 60 a1 a2 a3 a4 a5 a6).2) (A:=A.in1) (by rw[fN];omega) (m:=60) (by omega) r1 r2 hq hg);rw[kt,show its.length=ds.length by omega,dC hl]at this;exact this
   ·rw[cR hl];exact D7 q1 g1 (by rw[kt,kt,bne_iff_ne];omega) hu0
theorem o_ (hu:X.A.units+64<zv)(hK:X.K=K:=by rfl):OpR X (yH .NotEq) (rNeD K):=by
 subst hK;intro pins s σ H x y v u Q I rx ry h;obtain⟨d,e,hd,he,hz,q⟩:=h;exact um I hz (by omega) rx ry hd he X.prog X.w _ _ ⟨.bl _,H,I,rfl,q⟩
end
abbrev natsD (ks:List Nat):List D:=ks.map λj=>D.int (j:Nat)
section
variable {X:Cx}
theorem kx {x:Str}{v:V}{pos:Pos}(h:∃u,X.mg x=some u/\RelV v u)(hg:Gl X x)(hd:(x==("__debug__" : Str))=false:=by decide):PE X (.Name x pos) (tC v):=by
 obtain⟨u,hm,r⟩:=h;exact cT hg hm r hd
end
structure Net where
 m:Nat
 js:List (Nat×Nat)
 os:List Nat
abbrev pairD (p:Nat×Nat):D:=.tup [.int (p.1:Nat),.int (p.2:Nat)]
def netD (N:Net):D:=.tup [.int (N.m:Nat),.tup (N.js.map pairD),.tup (natsD N.os)]
def bt (rows:List Nat)(p:Nat×Nat):List Nat:=rows++[rows.getD p.1 0 ^^^ rows.getD p.2 0]
def aZ (m:Nat):List Nat:=(wF m).map λk=>1 <<< k
def okIx:Nat->List (Nat×Nat)->Prop
 | _,[]=>True
 | n,p::r=>p.1<p.2/\p.2<n/\okIx (n+1) r
def okJs:List Nat->List (Nat×Nat)->Prop
 | _,[]=>True
 | rows,p::r=>p.1<p.2/\p.2<rows.length/\rows.getD p.1 0≠rows.getD p.2 0/\okJs (bt rows p) r
structure dm (N:Net):Prop where
 m1:1<=N.m
 m12:N.m<=12
 jl:N.js.length<=132
 js:okJs (aZ N.m) N.js
 o1:1<=N.os.length
 o24:N.os.length<=24
 os:∀o∈N.os,o<N.m+N.js.length
theorem gO (rows:List Nat)(p:Nat×Nat):(bt rows p).length=rows.length+1:=by simp[bt]
theorem h_:∀ {js:List (Nat×Nat)} {rows:List Nat},okJs rows js->okIx rows.length js
 | [],_,_=>trivial
 | p::r,rows,h=>by
  obtain⟨h1,h2,_,h4⟩:=h;have:=h_ h4;rw[gO]at this;exact⟨h1,h2,this⟩
theorem fK:∀ {js:List (Nat×Nat)} {n i:Nat} {p:Nat×Nat},okIx n js->js[i]? = some p->p.1<p.2/\p.2<n+i
 | [],_,_,_,_,h=>by simp at h
 | q::r,n,0,p,h,e=>by
  simp at e;subst e;exact⟨h.1,by have:=h.2.1;omega⟩
 | q::r,n,i+1,p,h,e=>by
  have:=fK (n:=n+1) (i:=i) (p:=p) h.2.2 (by simpa using e);exact⟨this.1,by omega⟩
theorem mR (js:List (Nat×Nat)):∀rows:List Nat,(js.foldl bt rows).length=rows.length+js.length:=by
 induction js with
 | nil=>intro rows;rfl
 | cons p r ih=>intro rows;rw[zY,ih,gO,wn];omega
theorem df (m:Nat):(aZ m).length=m:=by simp[aZ]
theorem kz:∀ {js:List (Nat×Nat)} {rows:List Nat} {p:Nat×Nat},okJs rows js->p.1<p.2->p.2<rows.length+js.length->(js.foldl bt rows).getD p.1 0≠(js.foldl bt rows).getD p.2 0->okJs rows (js++[p])
 | [],rows,p,_,h1,h2,h3=>⟨h1,by simpa using h2,h3,trivial⟩
 | q::r,rows,p,h,h1,h2,h3=>⟨h.1,h.2.1,h.2.2.1,kz h.2.2.2 h1 (by rw[gO];simp at h2;omega) h3⟩
inductive Sv where
 | un | vl (d:D) | ow (ds:List D) | tp (n:Nat) | dk (kvs:List (Key×D)) | dt (kvs:List (List Key×D)) | ex (C:Addr) (fs:Option (List (Str×D))) | sc (ns:List Int) | px (d:D) (C:Addr) (fs:Option (List (Str×D))) | xl (es:List (Addr×Option (List (Str×D)))) | ob (C:Addr) (fs:List (Str×D)) | ll (xss:List (List D)) | ds (C:Addr) (n w:List (Key×D))
def Sv.own:Sv->Bool
 | .ow _=>true
 | .tp _=>true
 | .dk _=>true
 | .dt _=>true
 | .ll _=>true
 | .ds _ _ _=>true
 | _=>false
abbrev En:=List Sv
inductive R where
 | d (d:D) | o (i:Nat) | n (s:Sv) | t (n:String) | x (s:Sv)
abbrev R.f (ds:List D):R:=.n (.ow ds)
def gt:En->Nat->Sv
 | [],_=>.un
 | s::_,0=>s
 | _::r,n+1=>gt r n
def pt:En->Nat->Sv->En
 | [],_,_=>[]
 | _::r,0,s=>s::r
 | x::r,n+1,s=>x::pt r n s
theorem dW:∀(ρ:En) (i:Nat) (s:Sv),(pt ρ i s).length=ρ.length
 | [],_,_=>rfl
 | _::_,0,_=>rfl
 | x::r,n+1,s=>by simp[pt,dW r n s]
theorem bC:∀(ρ:En) (i j:Nat) (s:Sv),i≠j->gt (pt ρ i s) j=gt ρ j
 | [],_,_,_,_=>rfl
 | _::_,0,0,_,h=>absurd rfl h
 | _::_,0,j+1,_,_=>rfl
 | x::r,i+1,0,s,_=>rfl
 | x::r,i+1,j+1,s,h=>bC r i j s (by omega)
theorem ir:∀(ρ:En) (i:Nat) (s:Sv),i<ρ.length->gt (pt ρ i s) i=s
 | [],_,_,h=>by simp at h
 | _::_,0,_,_=>rfl
 | x::r,i+1,s,h=>ir r i s (by simpa using h)
theorem gA:∀(ρ:En) (i:Nat),ρ.length<=i->gt ρ i = .un
 | [],_,_=>rfl
 | x::r,0,h=>by simp at h
 | x::r,i+1,h=>gA r i (by simpa using h)
theorem h8 {ρ:En}{i:Nat}(h:(gt ρ i).own=true):i<ρ.length:=by
 rcases wu i ρ.length with q | q
 ·exact q
 ·rw[gA ρ i q]at h;cases h
def bF (σ:St)(ρ:En)(a:Addr):Prop:=∃i,(gt ρ i).own=true/\σ[i]? = some (some (.ref a))
open Classical in
noncomputable def hid (H:Hp)(S:Addr->Prop):Hp:=λa=>if S a then none else H a
theorem bX {H:Hp}{S:Addr->Prop}{a:Addr}{o:HO}:hid H S a=some o↔¬S a/\H a=some o:=by
 unfold hid;split
 ·rename_i h;simp[h]
 ·rename_i h;simp[h]
theorem dh {H:Hp}{S:Addr->Prop}{a:Addr}{o:HO}(h:¬S a)(e:H a=some o):hid H S a=some o:=bX.mpr ⟨h,e⟩
theorem bB {H H':Hp}{S S':Addr->Prop}(h:∀a o,H a=some o->¬S a->H' a=some o/\¬S' a):Same (hid H S) (hid H' S'):=λa o e=>by
 obtain⟨n,e⟩:=bX.mp e;obtain⟨e',n'⟩:=h a o e n;exact dh n' e'
theorem bQ {H:Hp}{S:Addr->Prop}:Same (hid H S) H:=λa o e=>(bX.mp e).2
structure Fr where
 H0:Hp
 Z:Addr->Prop
 M:Addr->Prop
 I:Nat->Addr->Prop
 P:Nat->Addr->Prop
def Fr.pin (F:Fr)(i:Nat)(a:Addr):Prop:=F.I i a∨F.P i a
def hs (F:Fr)(σ:St)(ρ:En):Addr->Prop:=λa=>F.Z a∨bF σ ρ a
def exP (e C:Addr)(od:Option Addr):Heap->Prop:=λh=>∃oe vs,h.get? e=some oe/\oe.cls = .ref C/\oe.dict=od/\oe.data = .fields vs
def exD (K:ac)(Hh:Hp):Option (List (Str×D))->Option Addr->Prop
 | none,none=>True
 | some fs,some dx=>∃ks,Hh dx=some (.xd ks)/\ks.map wP=fs.map wP/\RepDs K Hh (ks.map wZ) (fs.map wZ)
 | _,_=>False
theorem exD.same {K:ac}{Hh Hh':Hp}:∀ {fs:Option (List (Str×D))} {od:Option Addr},exD K Hh fs od->Same Hh Hh'->exD K Hh' fs od
 | none,none,h,_=>h
 | some fs,some dx,⟨ks,h1,h2,h3⟩,g=>⟨ks,g _ _ h1,h2,h3.same g⟩
 | none,some _,h,_=>h.elim
 | some _,none,h,_=>h.elim
def Exs (K:ac)(Hh:Hp):List V->List (Addr×Option (List (Str×D)))->Prop
 | [],[]=>True
 | x::vs,c::es=>(∃e od,x = .ref e/\Hh e=some (.ext (exP e c.1 od))/\exD K Hh c.2 od)/\Exs K Hh vs es
 | _,_=>False
theorem Exs.same {K:ac}{Hh Hh':Hp}:∀ {vs:List V} {es:List (Addr×Option (List (Str×D)))},Exs K Hh vs es->Same Hh Hh'->Exs K Hh' vs es
 | [],[],h,_=>h
 | x::vs,c::es,⟨⟨e,od,h1,h2,h3⟩,h4⟩,g=>⟨⟨e,od,h1,g _ _ h2,h3.same g⟩,Exs.same h4 g⟩
 | [],_::_,h,_=>h.elim
 | _::_,[],h,_=>h.elim
def LlP (a:Addr)(bs:List Addr)(vss:List (List V)):v3->wz->Heap->Prop:=λ_ _ h=>bs.length<=v5/\bs.Nodup/\(∃n,h.get? a=some {cls:=.type "list",data:=.seq (bs.map Value.ref).toArray n})/\vss.length=bs.length /\
 ∀(k:Nat) (b:Addr) (vs:List V),bs[k]? = some b->vss[k]? = some vs->vs.length<=v5/\∃(its:List bi) (n:Nat),Vals vs its/\h.get? b=some {cls:=.type "list",data:=.seq its.toArray n}
def qf (K:ac)(H:Hp)(vss:List (List V))(dss:List (List D)):Prop:=vss.length=dss.length/\∀(k:Nat) (vs:List V) (ds:List D),vss[k]? = some vs->dss[k]? = some ds->RepDs K H vs ds
theorem qf.same {K:ac}{H H':Hp}{vss:List (List V)}{dss:List (List D)}(h:qf K H vss dss)(g:Same H H'):qf K H' vss dss:=⟨h.1,λk vs ds a b=>(h.2 k vs ds a b).same g⟩
def DsP (x C dx d1 d2:Addr)(f1 f2:Str)(k1 k2:List (Key×V)):v3->wz->Heap->Prop:=λP w h=>dx≠x/\d1≠x/\d2≠x/\dx≠d1/\dx≠d2/\d1≠d2/\cK P w (λb=>if b=dx then some (.own x)else none) h x (.ins C dx [(f1,.ref d1),(f2,.ref d2)]) /\
 cK P w (λ_=>none) h d1 (.dK k1)/\cK P w (λ_=>none) h d2 (.dK k2)
def SvOk (K:ac)(Hh H:Hp)(v:Option (Option V)):Sv->Prop
 | .xl es=>∃l vs,v=some (some (.ref l))/\Hh l=some (.lst vs)/\Exs K Hh vs es
 | .ob C fs=>∃a dx ks,v=some (some (.ref a))/\Hh a=some (.ins C dx ks)/\ks.map wP=fs.map wP/\RepDs K Hh (ks.map wZ) (fs.map wZ)
 | .ll xss=>∃l bs vss,v=some (some (.ref l))/\H l=some (.big bs (LlP l bs vss))/\qf K Hh vss xss
 | .ds C n w=>∃x dx d1 d2 k1 k2,v=some (some (.ref x))/\H x=some (.big [dx,d1,d2] (DsP x C dx d1 d2 "nets" "wishes" k1 k2))/\k1.map wP=n.map wP/\RepDs K Hh (k1.map wZ) (n.map wZ)/\k2.map wP=w.map wP/\RepDs K Hh (k2.map wZ) (w.map wZ)
 | .px d C fs=>∃p x e od,v=some (some (.ref p))/\Hh p=some (.tup [x,.ref e])/\RepD K Hh x d/\Hh e=some (.ext (exP e C od))/\exD K Hh fs od
 | .sc ns=>∃c,v=some (some (.ref c))/\SqL K Hh c (Dl V.int ns)
 | .ex C fs=>∃e od,v=some (some (.ref e))/\Hh e=some (.ext (exP e C od))/\exD K Hh fs od
 | .un=>True
 | .vl d=>∃x,v=some (some x)/\RepD K Hh x d
 | .ow ds=>∃l vs,v=some (some (.ref l))/\H l=some (.lst vs)/\RepDs K Hh vs ds
 | .tp n=>∃t c ns sp lf,v=some (some (.ref t))/\H t=some (.dK (cj c sp lf))/\SqL K Hh c (Dl V.int ns)/\0<=sp/\sp<=n/\0<=lf
 | .dk kvs=>∃t ks,v=some (some (.ref t))/\H t=some (.dK ks)/\ks.map wP=kvs.map wP/\RepDs K Hh (ks.map wZ) (kvs.map wZ)
 | .dt kvs=>∃t ks,v=some (some (.ref t))/\H t=some (.dT ks)/\ks.map wP=kvs.map wP/\RepDs K Hh (ks.map wZ) (kvs.map wZ)
theorem SvOk.keep {K:ac}{Hh Hh' H H':Hp}{v:Option (Option V)}{s:Sv}(h:SvOk K Hh H v s)(g:Same Hh Hh')(k:∀l o,s.own=true->v=some (some (.ref l))->H l=some o->H' l=some o):SvOk K Hh' H' v s:=by
 cases s with
 | un=>trivial
 | vl d=>obtain⟨x,e,r⟩:=h;exact⟨x,e,r.same g⟩
 | ow ds=>obtain⟨l,vs,e,a,r⟩:=h;exact⟨l,vs,e,k _ _ rfl e a,r.same g⟩
 | tp n=>obtain⟨t,c,ns,sp,lf,e,a,b,r⟩:=h;exact⟨t,c,ns,sp,lf,e,k _ _ rfl e a,g.seq b,r⟩
 | dk kvs=>obtain⟨t,ks,e,a,b,r⟩:=h;exact⟨t,ks,e,k _ _ rfl e a,b,r.same g⟩
 | dt kvs=>obtain⟨t,ks,e,a,b,r⟩:=h;exact⟨t,ks,e,k _ _ rfl e a,b,r.same g⟩
 | ex C fs=>obtain⟨t,od,e,a,b⟩:=h;exact⟨t,od,e,g _ _ a,b.same g⟩
 | sc ns=>obtain⟨c,e,a⟩:=h;exact⟨c,e,g.seq a⟩
 | px d C fs=>obtain⟨p,x,e,od,a,b,c,d',e'⟩:=h;exact⟨p,x,e,od,a,g _ _ b,c.same g,g _ _ d',e'.same g⟩
 | xl es=>obtain⟨p,vs,a,b,c⟩:=h;exact⟨p,vs,a,g _ _ b,c.same g⟩
 | ob C fs=>obtain⟨p,dx,ks,a,b,c,d⟩:=h;exact⟨p,dx,ks,a,g _ _ b,c,d.same g⟩
 | ll xss=>obtain⟨l,bs,vss,e,a,r⟩:=h;exact⟨l,bs,vss,e,k _ _ rfl e a,r.same g⟩
 | ds C n w=>obtain⟨x,dx,d1,d2,k1,k2,e,a,r1,r2,r3,r4⟩:=h;exact⟨x,dx,d1,d2,k1,k2,e,k _ _ rfl e a,r1,r2.same g,r3,r4.same g⟩
theorem SvOk.alive {K:ac}{Hh H:Hp}{v:Option (Option V)}{s:Sv}(h:SvOk K Hh H v s)(ho:s.own=true):∃l o,v=some (some (.ref l))/\H l=some o:=by
 cases s with
 | un=>cases ho
 | vl d=>cases ho
 | ow ds=>obtain⟨l,vs,e,a,r⟩:=h;exact⟨l,_,e,a⟩
 | tp n=>obtain⟨t,c,ns,sp,lf,e,a,b,r⟩:=h;exact⟨t,_,e,a⟩
 | dk kvs=>obtain⟨t,ks,e,a,b,r⟩:=h;exact⟨t,_,e,a⟩
 | dt kvs=>obtain⟨t,ks,e,a,b,r⟩:=h;exact⟨t,_,e,a⟩
 | ex C fs=>cases ho
 | sc ns=>cases ho
 | px d C fs=>cases ho
 | xl es=>cases ho
 | ob C fs=>cases ho
 | ll xss=>obtain⟨l,bs,vss,e,a,r⟩:=h;exact⟨l,_,e,a⟩
 | ds C n w=>obtain⟨x,dx,d1,d2,k1,k2,e,a,r⟩:=h;exact⟨x,_,e,a⟩
def Nt (H:Hp)(a:Addr):Prop:=H a≠none/\∀xs,H a≠some (.tup xs)
theorem uJ {H:Hp}{a l:Addr}{o:HO}(al:a≠l)(h:Nt H a):Nt (upd H l o) a:=by unfold Nt;rw[aI al];exact h
structure Rel (K:ac)(F:Fr)(σ:St)(ρ:En)(H:Hp):Prop where
 len:σ.length=ρ.length
 fr:∀a o,F.H0 a=some o->¬F.M a->H a=some o
 zl:∀a,F.Z a->Nt H a
 zo:∀a,bF σ ρ a->¬F.Z a
 ow:∀i a,(gt ρ i).own=true->σ[i]? = some (some (.ref a))->(F.I i a/\F.M a)∨F.H0 a=none
 mi:∀i a,F.pin i a->σ[i]? = some (some (.ref a))
 ml:∀a,F.M a->F.H0 a≠none
 ma:∀a,F.M a->H a≠none
 nd:∀i j a,(gt ρ i).own=true->(gt ρ j).own=true->σ[i]? = some (some (.ref a))->σ[j]? = some (some (.ref a))->i=j
 sl:∀i,SvOk K (hid H (hs F σ ρ)) H σ[i]? (gt ρ i)
structure Kp (σ:St)(ρ ρ':En)(H H':Hp):Prop where
 st:∀a o,H a=some o->¬bF σ ρ a->H' a=some o
 sb:∀i,(gt ρ' i).own=true->(gt ρ i).own=true
theorem Kp.so {σ:St}{ρ ρ':En}{H H':Hp}(k:Kp σ ρ ρ' H H'){a:Addr}(h:bF σ ρ' a):bF σ ρ a:=by
 obtain⟨i,hi,e⟩:=h;exact⟨i,k.sb i hi,e⟩
theorem Kp.refl {σ:St}{ρ:En}{H:Hp}:Kp σ ρ ρ H H:=⟨λ_ _ e _=>e,λ_ h=>h⟩
theorem Kp.trans {σ:St}{ρ ρ1 ρ2:En}{H H1 H2:Hp}(a:Kp σ ρ ρ1 H H1)(b:Kp σ ρ1 ρ2 H1 H2):Kp σ ρ ρ2 H H2 :=
 ⟨λx o e n=>b.st x o (a.st x o e n) λz=>n (a.so z),λx z=>a.sb x (b.sb x z)⟩
theorem Kp.fresh {σ:St}{ρ:En}{H:Hp}{l:Addr}{o:HO}(h:H l=none):Kp σ ρ ρ H (upd H l o) :=
 ⟨λa u e _=>by rw[aI (bg e h)];exact e,λ_ h=>h⟩
section
variable {K:ac}{F:Fr}{σ:St}{ρ ρ':En}{H H':Hp}
theorem de (r:Rel K F σ ρ H){a:Addr}(h:bF σ ρ a):H a≠none:=by
 obtain⟨i,hi,e⟩:=h;obtain⟨l,o,e',h'⟩:=(r.sl i).alive hi;rw[e]at e';injection e' with e';injection e' with e';injection e' with e';rw[e',h'];exact λz=>nomatch z
theorem mK (r:Rel K F σ ρ H){a:Addr}(h:hs F σ ρ a):H a≠none:=by
 rcases h with h | h
 ·exact(r.zl a h).1
 ·exact de r h
theorem SvOk.nt {K:ac}{Hh H:Hp}{v:Option (Option V)}{s:Sv}(h:SvOk K Hh H v s)(ho:s.own=true):∃l,v=some (some (.ref l))/\Nt H l:=by
 cases s with
 | un=>cases ho
 | vl d=>cases ho
 | ow ds=>obtain⟨l,vs,e,a,r⟩:=h;exact⟨l,e,by rw[a];exact(λz=>nomatch z),by rw[a];exact λ_ z=>nomatch z⟩
 | tp n=>obtain⟨l,c,ns,sp,lf,e,a,b,r⟩:=h;exact⟨l,e,by rw[a];exact(λz=>nomatch z),by rw[a];exact λ_ z=>nomatch z⟩
 | dk kvs=>obtain⟨l,ks,e,a,b,r⟩:=h;exact⟨l,e,by rw[a];exact(λz=>nomatch z),by rw[a];exact λ_ z=>nomatch z⟩
 | dt kvs=>obtain⟨l,ks,e,a,b,r⟩:=h;exact⟨l,e,by rw[a];exact(λz=>nomatch z),by rw[a];exact λ_ z=>nomatch z⟩
 | ex C fs=>cases ho
 | sc ns=>cases ho
 | px d C fs=>cases ho
 | xl es=>cases ho
 | ob C fs=>cases ho
 | ll xss=>obtain⟨l,bs,vss,e,a,r⟩:=h;exact⟨l,e,by rw[a];exact(λz=>nomatch z),by rw[a];exact λ_ z=>nomatch z⟩
 | ds C n w=>obtain⟨l,dx,d1,d2,k1,k2,e,a,r⟩:=h;exact⟨l,e,by rw[a];exact(λz=>nomatch z),by rw[a];exact λ_ z=>nomatch z⟩
theorem mB (r:Rel K F σ ρ H){a:Addr}(h:bF σ ρ a):Nt H a:=by
 obtain⟨i,hi,e⟩:=h;obtain⟨l,e',h'⟩:=(r.sl i).nt hi;rw[e]at e';injection e' with e';injection e' with e';injection e' with e';rw[e'];exact h'
theorem qI (r:Rel K F σ ρ H){a:Addr}(h:hs F σ ρ a):Nt H a:=by
 rcases h with h | h
 ·exact r.zl a h
 ·exact mB r h
theorem fP (r:Rel K F σ ρ H){l:Addr}(h:H l=none):¬hs F σ ρ l:=λz=>mK r z h
theorem qL (r:Rel K F σ ρ H){l:Addr}(h:H l=none):F.H0 l=none:=by
 cases h0:F.H0 l with
 | none=>rfl
 | some o =>
  by_cases q:F.M l
  ·exact absurd h (r.ma l q)
  ·have:=r.fr l o h0 q;rw[h]at this;cases this
theorem Kp.vis (k:Kp σ ρ ρ' H H'):Same (hid H (hs F σ ρ)) (hid H' (hs F σ ρ')):=bB λa o e n =>
 ⟨k.st a o e λz=>n (.inr z),λz=>by
  rcases z with z | z
  ·exact n (.inl z)
  ·exact n (.inr (k.so z))⟩
theorem nQ {a:Addr}(g:Same H H')(h:H a≠none):H' a≠none:=λe=>by
 cases h':H a with
 | none=>exact h h'
 | some o=>rw[g a o h']at e;cases e
theorem tq {a:Addr}(g:Same H H')(h:Nt H a):Nt H' a:=by
 cases h':H a with
 | none=>exact(h.1 h').elim
 | some o =>
  have e:=g a o h';unfold Nt;rw[e,<- h'];exact h
theorem Rel.grow (r:Rel K F σ ρ H)(g:Same H H'):Rel K F σ ρ H' where
 len:=r.len
 fr:=λa o e n=>g a o (r.fr a o e n)
 zl:=λa z=>tq g (r.zl a z)
 zo:=r.zo
 ow:=r.ow
 mi:=r.mi
 ml:=r.ml
 ma:=λa z=>nQ g (r.ma a z)
 nd:=r.nd
 sl:=λi=>(r.sl i).keep (bB λa o e n=>⟨g a o e,n⟩) λl o _ _ e=>g l o e
theorem Rel.fresh (r:Rel K F σ ρ H){l:Addr}{o:HO}(h:H l=none):Rel K F σ ρ (upd H l o):=r.grow ((Same.refl H).new h)
theorem mw:∀(ρ:En) (i:Nat) (s:Sv),ρ.length<=i->pt ρ i s=ρ
 | [],_,_,_=>rfl
 | x::r,0,s,h=>by simp at h
 | x::r,i+1,s,h=>by simp[pt,mw r i s (by simpa using h)]
theorem cU {i j:Nat}{s:Sv}(hs:s.own=false)(hj:(gt (pt ρ i s) j).own=true):i≠j/\(gt ρ j).own=true:=by
 by_cases ij:i=j
 ·subst ij;rcases wu i ρ.length with q | q
  ·rw[ir ρ i s q,hs]at hj;cases hj
  ·rw[gA _ i (by rw[dW];exact q)]at hj;cases hj
 ·rw[bC ρ i j s ij]at hj;exact⟨ij,hj⟩
theorem Rel.setS (r:Rel K F σ ρ H){i:Nat}{v:V}{s:Sv}(hs':s.own=false)(hd:SvOk K (hid H (hs F σ ρ)) H (some (some v)) s)(hm:∀a,¬F.pin i a):Rel K F (σ.set i (some v)) (pt ρ i s) H:=by
 rcases wu i ρ.length with hi | hi;case inr =>
  rw[mw ρ i s hi,yG (by rw[r.len];exact hi)];exact r
 have sub:∀a,bF (σ.set i (some v)) (pt ρ i s) a->bF σ ρ a:=λa ⟨j,hj,e⟩=>by
  obtain⟨ij,hj⟩:=cU hs' hj;rw[pc ij]at e;exact⟨j,hj,e⟩
 have vis:Same (hid H (hs F σ ρ)) (hid H (hs F (σ.set i (some v)) (pt ρ i s))):=bB λa o e n=>⟨e,λz=>n (z.imp id (sub a))⟩
 refine⟨by rw[xF,dW,r.len],r.fr,r.zl,λa h=>r.zo a (sub a h),λj a hj e=>?_,λj a h=>?_,r.ml,r.ma,λj k a hj hk ej ek=>?_,λj=>?_⟩
 ·obtain⟨ij,hj⟩:=cU hs' hj;rw[pc ij]at e;exact r.ow j a hj e
 ·have:i≠j:=λe=>hm a (e▸h);rw[pc this];exact r.mi j a h
 ·obtain⟨nj,hj⟩:=cU hs' hj;obtain⟨nk,hk⟩:=cU hs' hk;rw[pc nj]at ej;rw[pc nk]at ek;exact r.nd j k a hj hk ej ek
 ·by_cases ij:i=j
  ·subst ij;rw[ir ρ i _ hi,wO (by rw[r.len];exact hi)];exact hd.keep vis λl o ho=>by rw[hs']at ho;cases ho
  ·rw[bC ρ i j _ ij,pc ij];exact(r.sl j).keep vis λl o _ _ e=>e
theorem Rel.set (r:Rel K F σ ρ H){i:Nat}{v:V}{d:D}(hd:RepD K (hid H (hs F σ ρ)) v d)(hm:∀a,¬F.pin i a):Rel K F (σ.set i (some v)) (pt ρ i (.vl d)) H :=
 r.setS rfl ⟨v,rfl,hd⟩ hm
theorem Rel.setF (r:Rel K F σ ρ H){i:Nat}{l:Addr}{o:HO}{s:Sv}(hs':s.own=true)(hd:SvOk K (hid H (hs F σ ρ)) (upd H l o) (some (some (.ref l))) s)(hn:H l=none)(hm:∀a,¬F.pin i a) :
  Rel K F (σ.set i (some (.ref l))) (pt ρ i s) (upd H l o):=by
 have rf:=r.fresh (o:=o) hn;rcases wu i ρ.length with hi | hi;case inr =>
  rw[mw ρ i s hi,yG (by rw[r.len];exact hi)];exact rf
 have at1:∀ {a},(σ.set i (some (V.ref l)))[i]? = some (some (.ref a))->a=l:=λe=>by
  rw[wO (by rw[r.len];exact hi)]at e;injection e with e;injection e with e;injection e with e;exact e.symm
 have sub:∀a,bF (σ.set i (some (.ref l))) (pt ρ i s) a->bF σ ρ a∨a=l:=λa h=>by
  obtain⟨j,hj,e⟩:=h;by_cases ij:i=j
  ·subst ij;exact .inr (at1 e)
  ·rw[bC ρ i j _ ij]at hj;rw[pc ij]at e;exact .inl ⟨j,hj,e⟩
 have vis:Same (hid H (hs F σ ρ)) (hid (upd H l o) (hs F (σ.set i (some (.ref l))) (pt ρ i s))):=bB λa u e n=>by
  have al:=bg e hn;refine⟨by rw[aI al];exact e,λz=>?_⟩;rcases z with z | z
  ·exact n (.inl z)
  ·rcases sub a z with z | z
   ·exact n (.inr z)
   ·exact al z
 have nol:∀j,(gt ρ j).own=true->σ[j]? ≠ some (some (.ref l)):=λj hj e=>de r ⟨j,hj,e⟩ hn;refine⟨by rw[xF,dW,r.len],rf.fr,rf.zl,λa h=>?_,λj a hj e=>?_,λj a h=>?_,r.ml,rf.ma,λj k a hj hk ej ek=>?_,λj=>?_⟩
 ·rcases sub a h with h | h
  ·exact r.zo a h
  ·subst h;exact λz=>(r.zl _ z).1 hn
 ·by_cases ij:i=j
  ·subst ij;rw[at1 e];exact .inr (qL r hn)
  ·rw[bC ρ i j _ ij]at hj;rw[pc ij]at e;exact r.ow j a hj e
 ·have:i≠j:=λe=>hm a (e▸h);rw[pc this];exact r.mi j a h
 ·by_cases nj:i=j
  ·by_cases nk:i=k
   ·omega
   ·subst nj;have:=at1 ej;subst this;rw[bC ρ i k _ nk]at hk;rw[pc nk]at ek;exact absurd ek (nol k hk)
  ·rw[bC ρ i j _ nj]at hj;rw[pc nj]at ej;by_cases nk:i=k
   ·subst nk;have:=at1 ek;subst this;exact absurd ej (nol j hj)
   ·rw[bC ρ i k _ nk]at hk;rw[pc nk]at ek;exact r.nd j k a hj hk ej ek
 ·by_cases ij:i=j
  ·subst ij;rw[ir ρ i _ hi,wO (by rw[r.len];exact hi)];exact hd.keep vis λ_ _ _ _ e=>e
  ·rw[bC ρ i j _ ij,pc ij];exact(r.sl j).keep vis λa o ho e h=>by
    rw[aI (bg h hn)];exact h
theorem Rel.write (r:Rel K F σ ρ H){i:Nat}{l:Addr}{o:HO}{s:Sv}(hi:(gt ρ i).own=true)(el:σ[i]? = some (some (.ref l)))(hs':s.own=true)(new:SvOk K (hid H (hs F σ ρ)) (upd H l o) (some (some (.ref l))) s):Rel K F σ (pt ρ i s) (upd H l o)/\Kp σ ρ (pt ρ i s) H (upd H l o):=by
 have lt:=h8 hi;have own':∀j,(gt (pt ρ i s) j).own=true->(gt ρ j).own=true:=λj h=>by
  by_cases ij:i=j
  ·subst ij;exact hi
  ·rw[bC ρ i j _ ij]at h;exact h
 have sub:∀a,bF σ (pt ρ i s) a->bF σ ρ a:=λa ⟨j,hj,e⟩=>⟨j,own' j hj,e⟩
 have hso:bF σ ρ l:=⟨i,hi,el⟩
 have vis:Same (hid H (hs F σ ρ)) (hid (upd H l o) (hs F σ (pt ρ i s))):=bB λa u e n=>by
  have al:a≠l:=λz=>n (.inr (z▸hso));exact⟨by rw[aI al];exact e,λz=>n (z.imp id (sub a))⟩
 have up:∀ {a},H a≠none->(upd H l o) a≠none:=λ{a} h e=>by
  by_cases al:a=l
  ·subst al;rw[aX]at e;cases e
  ·rw[aI al]at e;exact h e
 refine⟨⟨by rw[dW,r.len],λa u e n=>?_,λa z=>uJ (λq=>r.zo l hso (q▸z)) (r.zl a z),λa h=>r.zo a (sub a h),λj a hj e=>r.ow j a (own' j hj) e,r.mi,r.ml,λa z=>up (r.ma a z),λj k a hj hk ej ek=>r.nd j k a (own' j hj) (own' k hk) ej ek,λj=>?_⟩,⟨λa u e n=>?_,own'⟩⟩
 ·have al:a≠l:=λz=>by
   subst z;rcases r.ow i _ hi el with⟨_,q⟩ | q
   ·exact n q
   ·rw[e]at q;cases q
  rw[aI al];exact r.fr a u e n
 ·by_cases ij:i=j
  ·subst ij;rw[ir ρ i s lt,el];exact new.keep vis λ_ _ _ _ e=>e
  ·rw[bC ρ i j _ ij];refine(r.sl j).keep vis λa u ho e h=>?_;have al:a≠l:=λz=>ij (r.nd i j l hi ho el (z▸e));rw[aI al];exact h
 ·have al:a≠l:=λz=>n (z▸hso);rw[aI al];exact e
theorem Rel.frz (r:Rel K F σ ρ H){i:Nat}{ds:List D}(hi:gt ρ i = .ow ds):∃l,σ[i]? = some (some (.ref l))/\Rel K F σ (pt ρ i (.vl (.lst ds))) H/\Kp σ ρ (pt ρ i (.vl (.lst ds))) H H/\RepD K (hid H (hs F σ (pt ρ i (.vl (.lst ds))))) (.ref l) (.lst ds):=by
 have ho:(gt ρ i).own=true:=by rw[hi];rfl
 have lt:=h8 ho;have q:=r.sl i;rw[hi]at q;obtain⟨l,vs,el,hl,hd⟩:=q;have own':∀j,(gt (pt ρ i (.vl (.lst ds))) j).own=true->i≠j/\(gt ρ j).own=true:=λj h=>cU rfl h;have sub:∀a,bF σ (pt ρ i (.vl (.lst ds))) a->bF σ ρ a/\a≠l:=λa ⟨j,hj,e⟩=>by
  obtain⟨ij,hj⟩:=own' j hj;exact⟨⟨j,hj,e⟩,λz=>ij (r.nd i j l ho hj el (z▸e))⟩
 have vis:Same (hid H (hs F σ ρ)) (hid H (hs F σ (pt ρ i (.vl (.lst ds))))):=bB λa u e n=>⟨e,λz=>n (z.imp id λz=>(sub a z).1)⟩
 have vl:¬hs F σ (pt ρ i (.vl (.lst ds))) l:=λz=>by
  rcases z with z | z
  ·exact r.zo l ⟨i,ho,el⟩ z
  ·exact(sub l z).2 rfl
 have rd:RepD K (hid H (hs F σ (pt ρ i (.vl (.lst ds))))) (.ref l) (.lst ds):=by
  unfold RepD;exact⟨l,vs,rfl,dh vl hl,hd.same vis⟩
 refine⟨l,el,⟨by rw[dW,r.len],r.fr,r.zl,λa h=>r.zo a (sub a h).1,λj a hj e=>r.ow j a (own' j hj).2 e,r.mi,r.ml,r.ma,λj k a hj hk ej ek=>r.nd j k a (own' j hj).2 (own' k hk).2 ej ek,λj=>?_⟩,⟨λ_ _ e _=>e,λj h=>(own' j h).2⟩,rd⟩;by_cases ij:i=j
 ·subst ij;rw[ir ρ i _ lt,el];exact⟨_,rfl,rd⟩
 ·rw[bC ρ i j _ ij];exact(r.sl j).keep vis λa u _ _ h=>h
end
def RelR (K:ac)(F:Fr)(σ:St)(ρ:En)(v:V)(H:Hp):R->Prop
 | .d d=>Rel K F σ ρ H/\RepD K (hid H (hs F σ ρ)) v d
 | .o i=>Rel K F σ ρ H/\σ[i]? = some (some v)
 | .n s=>∃Hb l o,Rel K F σ ρ Hb/\s.own=true/\SvOk K (hid Hb (hs F σ ρ)) (upd Hb l o) (some (some (.ref l))) s/\Hb l=none/\H=upd Hb l o/\v = .ref l
 | .t n=>Rel K F σ ρ H/\v = .ty n
 | .x s=>Rel K F σ ρ H/\s.own=false/\SvOk K (hid H (hs F σ ρ)) H (some (some v)) s
def Out (K:ac)(F:Fr)(σ:St)(ρ:En)(H:Hp)(ρ':En)(v:V)(H':Hp):R->Prop
 | .d d=>Rel K F σ ρ' H'/\Kp σ ρ ρ' H H'/\RepD K (hid H' (hs F σ ρ')) v d
 | .o i=>Rel K F σ ρ' H'/\Kp σ ρ ρ' H H'/\σ[i]? = some (some v)
 | .n s=>∃Hb l o,Rel K F σ ρ' Hb/\Kp σ ρ ρ' H Hb/\s.own=true/\SvOk K (hid Hb (hs F σ ρ')) (upd Hb l o) (some (some (.ref l))) s/\Hb l=none/\H'=upd Hb l o/\v = .ref l
 | .t n=>Rel K F σ ρ' H'/\Kp σ ρ ρ' H H'/\v = .ty n
 | .x s=>Rel K F σ ρ' H'/\Kp σ ρ ρ' H H'/\s.own=false/\SvOk K (hid H' (hs F σ ρ')) H' (some (some v)) s
def InF (K:ac)(F:Fr)(σ:St)(ρ:En)(H:Hp)(v:V):R->Prop
 | .d d=>RepD K (hid H (hs F σ ρ)) v d
 | .o i=>σ[i]? = some (some v)
 | .n _=>True
 | .t n=>v = .ty n
 | .x s=>s.own=false/\SvOk K (hid H (hs F σ ρ)) H (some (some v)) s
def R.frz:R->R
 | .n (.ow ds)=>.d (.lst ds)
 | r=>r
inductive InFs (K:ac) (F:Fr) (σ:St) (ρ:En) (H:Hp):List V->List R->Prop
 | nil:InFs K F σ ρ H [] []
 | cons {v:V} {r:R} {vs:List V} {rs:List R}:InF K F σ ρ H v r->InFs K F σ ρ H vs rs->InFs K F σ ρ H (v::vs) (r::rs)
def view (ρ:En):R->Option D
 | .d d=>some d
 | .o i=>(match gt ρ i with | .ow ds=>some (.lst ds) | .vl d=>some d | _=>none)
 | _=>none
section
variable {K:ac}{F:Fr}{σ:St}{ρ ρ':En}{H H':Hp}{v:V}{r:R}
theorem InF.keep (h:InF K F σ ρ H v r)(k:Kp σ ρ ρ' H H'):InF K F σ ρ' H' v r:=by
 cases r with
 | d d=>exact RepD.same h k.vis
 | o i=>exact h
 | n s=>exact h
 | t n=>exact h
 | x s=>exact⟨h.1,h.2.keep k.vis λl o ho=>by rw[h.1]at ho;cases ho⟩
theorem InFs.keep {vs:List V}{rs:List R}(h:InFs K F σ ρ H vs rs)(k:Kp σ ρ ρ' H H'):InFs K F σ ρ' H' vs rs:=by
 induction h with
 | nil=>exact .nil
 | cons a _ ih=>exact .cons (a.keep k) ih
theorem Out.inF (h:Out K F σ ρ H ρ' v H' r):Rel K F σ ρ' H'/\Kp σ ρ ρ' H H'/\InF K F σ ρ' H' v r.frz:=by
 cases r with
 | d d=>exact⟨h.1,h.2.1,h.2.2⟩
 | o i=>exact⟨h.1,h.2.1,h.2.2⟩
 | t n=>exact⟨h.1,h.2.1,h.2.2⟩
 | x s=>exact⟨h.1,h.2.1,h.2.2⟩
 | n s =>
  obtain⟨Hb,l,o,a,k0,hs',b,c,rfl,rfl⟩:=h;have k:Kp σ ρ' ρ' Hb (upd Hb l o):=Kp.fresh c;refine⟨a.fresh c,k0.trans k,?_⟩;cases s with
  | un=>trivial
  | vl d=>trivial
  | tp n=>trivial
  | dk n=>trivial
  | dt n=>trivial
  | ex n m=>trivial
  | sc n=>trivial
  | px n m k=>trivial
  | xl es=>trivial
  | ob _ _=>trivial
  | ll _=>trivial
  | ds _ _ _=>trivial
  | ow ds =>
   obtain⟨l',vs,e,h1,h2⟩:=b;injection e with e;injection e with e;injection e with e;subst e;show RepD K _ (.ref l) (.lst ds);unfold RepD;exact⟨l,vs,rfl,dh (fP a c) h1,h2.same k.vis⟩
theorem Out.rel (h:Out K F σ ρ H ρ' v H' r):RelR K F σ ρ' v H' r:=by
 cases r with
 | d d=>exact⟨h.1,h.2.2⟩
 | o i=>exact⟨h.1,h.2.2⟩
 | t n=>exact⟨h.1,h.2.2⟩
 | x s=>exact⟨h.1,h.2.2⟩
 | n s =>
  obtain⟨Hb,l,o,a,k0,hs',b,c,e1,e2⟩:=h;exact⟨Hb,l,o,a,hs',b,c,e1,e2⟩
theorem Out.after {ρ1:En}{H1:Hp}(k:Kp σ ρ ρ1 H H1)(h:Out K F σ ρ1 H1 ρ' v H' r):Out K F σ ρ H ρ' v H' r:=by
 cases r with
 | d d=>exact⟨h.1,k.trans h.2.1,h.2.2⟩
 | o i=>exact⟨h.1,k.trans h.2.1,h.2.2⟩
 | t n=>exact⟨h.1,k.trans h.2.1,h.2.2⟩
 | x s=>exact⟨h.1,k.trans h.2.1,h.2.2⟩
 | n s =>
  obtain⟨Hb,l,o,a,k0,hs',b,c,e1,e2⟩:=h;exact⟨Hb,l,o,a,k.trans k0,hs',b,c,e1,e2⟩
theorem dq {d:D}(a:Rel K F σ ρ H)(h:InF K F σ ρ H v r)(e:view ρ r=some d):RepD K H v d:=by
 cases r with
 | d d'=>injection e with e;subst e;exact RepD.same h bQ
 | t n=>cases e
 | x s=>cases e
 | n s=>cases e
 | o i =>
  have q:=a.sl i;unfold view at e;cases hg:gt ρ i with
  | un=>simp[hg]at e
  | tp n=>simp[hg]at e
  | dk n=>simp[hg]at e
  | dt n=>simp[hg]at e
  | ex n m=>simp[hg]at e
  | sc n=>simp[hg]at e
  | px n m k=>simp[hg]at e
  | xl es=>simp[hg]at e
  | ob _ _=>simp[hg]at e
  | ll _=>simp[hg]at e
  | ds _ _ _=>simp[hg]at e
  | vl d' =>
   simp[hg]at e;subst e;rw[hg]at q;obtain⟨x,e1,r1⟩:=q;rw[show σ[i]? = _ from h]at e1;injection e1 with e1;injection e1 with e1;subst e1;exact r1.same bQ
  | ow ds =>
   simp[hg]at e;subst e;rw[hg]at q;obtain⟨l,vs,e1,r1,r2⟩:=q;rw[show σ[i]? = _ from h]at e1;injection e1 with e1;injection e1 with e1;subst e1;unfold RepD;exact⟨l,vs,rfl,r1,r2.same bQ⟩
theorem cW {ds:List D}(a:Rel K F σ ρ H)(h:InF K F σ ρ H v r)(e:view ρ r=some (.lst ds)):∃l vs,v = .ref l/\SqL K H l vs/\RepDs K (hid H (hs F σ ρ)) vs ds:=by
 cases r with
 | d d' =>
  injection e with e;subst e;have h':RepD K _ v (.lst ds):=h;unfold RepD at h';obtain⟨l,vs,e,q,r⟩:=h';exact⟨l,vs,e,bQ.seq (StL.sq q),r⟩
 | t n=>cases e
 | x s=>cases e
 | n s=>cases e
 | o i =>
  have q:=a.sl i;unfold view at e;cases hg:gt ρ i with
  | un=>simp[hg]at e
  | tp n=>simp[hg]at e
  | dk n=>simp[hg]at e
  | dt n=>simp[hg]at e
  | ex n m=>simp[hg]at e
  | sc n=>simp[hg]at e
  | px n m k=>simp[hg]at e
  | xl es=>simp[hg]at e
  | ob _ _=>simp[hg]at e
  | ll _=>simp[hg]at e
  | ds _ _ _=>simp[hg]at e
  | vl d' =>
   simp[hg]at e;subst e;rw[hg]at q;obtain⟨x,e1,r1⟩:=q;rw[show σ[i]? = _ from h]at e1;injection e1 with e1;injection e1 with e1;subst e1;unfold RepD at r1;obtain⟨l,vs,e,q,r⟩:=r1;exact⟨l,vs,e,bQ.seq (StL.sq q),r⟩
  | ow ds =>
   simp[hg]at e;subst e;rw[hg]at q;obtain⟨l,vs,e1,r1,r2⟩:=q;rw[show σ[i]? = _ from h]at e1;injection e1 with e1;injection e1 with e1;subst e1;exact⟨l,vs,rfl,SqL.of r1,r2⟩
theorem dG {ds:List D}(a:Rel K F σ ρ H)(h:InF K F σ ρ H v r)(e:view ρ r=some (.tup ds)):∃l vs,v = .ref l/\SqT K H l vs/\RepDs K (hid H (hs F σ ρ)) vs ds/\StT (hid H (hs F σ ρ)) l vs:=by
 have go:∀ {x:V},RepD K (hid H (hs F σ ρ)) x (.tup ds)->∃l vs,x = .ref l/\SqT K H l vs/\RepDs K (hid H (hs F σ ρ)) vs ds/\StT (hid H (hs F σ ρ)) l vs:=λh'=>by
  unfold RepD at h';obtain⟨l,vs,e,q,r⟩:=h';exact⟨l,vs,e,bQ.seqT q.sq,r,q⟩
 cases r with
 | d d'=>injection e with e;subst e;exact go h
 | t n=>cases e
 | x s=>cases e
 | n s=>cases e
 | o i =>
  have q:=a.sl i;unfold view at e;cases hg:gt ρ i with
  | un=>simp[hg]at e
  | tp n=>simp[hg]at e
  | dk n=>simp[hg]at e
  | dt n=>simp[hg]at e
  | ex n m=>simp[hg]at e
  | sc n=>simp[hg]at e
  | px n m k=>simp[hg]at e
  | xl es=>simp[hg]at e
  | ob _ _=>simp[hg]at e
  | ll _=>simp[hg]at e
  | ds _ _ _=>simp[hg]at e
  | ow ds'=>simp[hg]at e
  | vl d' =>
   simp[hg]at e;subst e;rw[hg]at q;obtain⟨x,e1,r1⟩:=q;rw[show σ[i]? = _ from h]at e1;injection e1 with e1;injection e1 with e1;subst e1;exact go r1
end
abbrev Ko:=R->En->Prop
abbrev AE:=En->Ko->Prop
abbrev AT:=En->(Bool->En->Prop)->Prop
abbrev AA:=En->(List R->En->Prop)->Prop
structure AEnds where
 nx:En->Prop
 rt:R->En->Prop
 bk:En->Prop
 ct:En->Prop
abbrev AS:=AEnds->En->Prop
def Beh (K:ac)(F:Fr)(σ:St)(ρ:En)(H:Hp)(q:Ko)(Q:VK):Prop:=∀r ρ' v H',q r ρ'->Out K F σ ρ H ρ' v H' r->Q v H'
def TEok (K:ac)(t:TE)(a:AE):Prop:=∀F σ ρ H q Q,Rel K F σ ρ H->a ρ q->Beh K F σ ρ H q Q->t σ H Q
def TTok (K:ac)(t:TT)(a:AT):Prop:=∀F σ ρ H q Q,Rel K F σ ρ H->a ρ q->(∀b ρ' H',q b ρ'->Rel K F σ ρ' H'->Kp σ ρ ρ' H H'->Q b H')->t σ H Q
def TAok (K:ac)(t:TA)(a:AA):Prop:=∀F σ ρ H q Q,Rel K F σ ρ H->a ρ q->(∀rs ρ' vs H',q rs ρ'->Rel K F σ ρ' H'->InFs K F σ ρ' H' vs rs->Kp σ ρ ρ' H H'->Q vs H')->t σ H Q
def OpOk (K:ac)(r:R2)(g:R->R->AE):Prop:=∀F σ ρ H x y r1 r2 q Q,Rel K F σ ρ H->InF K F σ ρ H x r1->InF K F σ ρ H y r2->g r1 r2 ρ q->Beh K F σ ρ H q Q->r x y H Q
def CbOk (K:ac)(r:List V->Hp->VK->Prop)(g:List R->AE):Prop:=∀F σ ρ H vs rs q Q,Rel K F σ ρ H->InFs K F σ ρ H vs rs->g rs ρ q->Beh K F σ ρ H q Q->r vs H Q
section
variable {K:ac}{F:Fr}{σ:St}{ρ ρ':En}{H H':Hp}{v:V}{r:R}{q:Ko}{Q:VK}
theorem Beh.dat (b:Beh K F σ ρ H q Q)(a:Rel K F σ ρ H){d:D}(hq:q (.d d) ρ)(h:RepD K (hid H (hs F σ ρ)) v d):Q v H:=b (.d d) ρ v H hq ⟨a,.refl,h⟩
theorem Beh.int (b:Beh K F σ ρ H q Q)(a:Rel K F σ ρ H){i:Int}(hq:q (.d (.int i)) ρ):Q (.int i) H:=b.dat a hq (by unfold RepD;rfl)
theorem Beh.bl (b:Beh K F σ ρ H q Q)(a:Rel K F σ ρ H){i:Bool}(hq:q (.d (.bl i)) ρ):Q (.bl i) H:=b.dat a hq (by unfold RepD;rfl)
theorem Beh.non (b:Beh K F σ ρ H q Q)(a:Rel K F σ ρ H)(hq:q (.d .non) ρ):Q .non H:=b.dat a hq (by unfold RepD;rfl)
theorem Beh.str (b:Beh K F σ ρ H q Q)(a:Rel K F σ ρ H){x:Str}(hq:q (.d (.str x)) ρ):Q (.str x) H:=b.dat a hq (by unfold RepD;rfl)
theorem Beh.new (b:Beh K F σ ρ H q Q)(a:Rel K F σ ρ H){ds:List D}{vs:List V}{l:Addr}(hq:q (.f ds) ρ)(hd:RepDs K (hid H (hs F σ ρ)) vs ds)(hl:H l=none):Q (.ref l) (upd H l (.lst vs)) :=
 b (.f ds) ρ _ _ hq ⟨H,l,_,a,.refl,rfl,⟨l,vs,rfl,aX,hd⟩,hl,rfl,rfl⟩
theorem Beh.newT (b:Beh K F σ ρ H q Q)(a:Rel K F σ ρ H){ds:List D}{vs:List V}{l:Addr}(hq:q (.d (.tup ds)) ρ)(hd:RepDs K (hid H (hs F σ ρ)) vs ds)(hl:H l=none):Q (.ref l) (upd H l (.tup vs)):=by
 have k:Kp σ ρ ρ H (upd H l (.tup vs)):=Kp.fresh hl;refine b (.d (.tup ds)) ρ _ _ hq ⟨a.fresh hl,k,?_⟩;unfold RepD;exact⟨l,vs,rfl,(dh (fP a hl) aX),hd.same k.vis⟩
theorem Beh.after {ρ1:En}{H1:Hp}(b:Beh K F σ ρ H q Q)(k:Kp σ ρ ρ1 H H1):Beh K F σ ρ1 H1 q Q:=λr ρ' v H' hq h=>b r ρ' v H' hq (.after k h)
def aVar (i:Nat):AE:=λρ q=>match gt ρ i with
 | .un=>False
 | .vl d=>q (.d d) ρ
 | .ow _=>q (.o i) ρ
 | .tp _=>q (.o i) ρ
 | .dk _=>q (.o i) ρ
 | .dt _=>q (.o i) ρ
 | .ex _ _=>q (.o i) ρ
 | .sc _=>q (.o i) ρ
 | .px _ _ _=>q (.o i) ρ
 | .xl _=>q (.o i) ρ
 | .ob _ _=>q (.o i) ρ
 | .ll _=>q (.o i) ρ
 | .ds _ _ _=>q (.o i) ρ
theorem aj {i:Nat}:TEok K (tVar i) (aVar i):=by
 intro F σ ρ H q Q a h b;have s:=a.sl i;unfold aVar at h;cases hg:gt ρ i with
 | un=>rw[hg]at h;exact h.elim
 | vl d =>
  rw[hg]at h s;obtain⟨x,e,r⟩:=s;exact⟨x,e,b _ _ _ _ h ⟨a,.refl,r⟩⟩
 | ow ds =>
  rw[hg]at h s;obtain⟨l,vs,e,_⟩:=s;exact⟨_,e,b _ _ _ _ h ⟨a,.refl,e⟩⟩
 | tp n =>
  rw[hg]at h s;obtain⟨l,c,ns,sp,lf,e,_⟩:=s;exact⟨_,e,b _ _ _ _ h ⟨a,.refl,e⟩⟩
 | dk kvs =>
  rw[hg]at h s;obtain⟨l,ks,e,_⟩:=s;exact⟨_,e,b _ _ _ _ h ⟨a,.refl,e⟩⟩
 | dt kvs =>
  rw[hg]at h s;obtain⟨l,ks,e,_⟩:=s;exact⟨_,e,b _ _ _ _ h ⟨a,.refl,e⟩⟩
 | ex C fs =>
  rw[hg]at h s;obtain⟨l,ks,e,_⟩:=s;exact⟨_,e,b _ _ _ _ h ⟨a,.refl,e⟩⟩
 | sc ns =>
  rw[hg]at h s;obtain⟨l,e,_⟩:=s;exact⟨_,e,b _ _ _ _ h ⟨a,.refl,e⟩⟩
 | xl es =>
  rw[hg]at h s;obtain⟨l,ks,e,_⟩:=s;exact⟨_,e,b _ _ _ _ h ⟨a,.refl,e⟩⟩
 | ob C fs =>
  rw[hg]at h s;obtain⟨l,_,_,e,_⟩:=s;exact⟨_,e,b _ _ _ _ h ⟨a,.refl,e⟩⟩
 | ll xss =>
  rw[hg]at h s;obtain⟨l,_,_,e,_⟩:=s;exact⟨_,e,b _ _ _ _ h ⟨a,.refl,e⟩⟩
 | ds C n w =>
  rw[hg]at h s;obtain⟨l,_,_,_,_,_,e,_⟩:=s;exact⟨_,e,b _ _ _ _ h ⟨a,.refl,e⟩⟩
 | px d C fs =>
  rw[hg]at h s;obtain⟨l,x,e',od,e,_⟩:=s;exact⟨_,e,b _ _ _ _ h ⟨a,.refl,e⟩⟩
def aC (r:R):AE:=λρ q=>q r ρ
theorem aE {i:Int}:TEok K (tC (.int i)) (aC (.d (.int i))):=λ_ _ _ _ _ _ a h b=>b.int a h
theorem cw {i:Bool}:TEok K (tC (.bl i)) (aC (.d (.bl i))):=λ_ _ _ _ _ _ a h b=>b.bl a h
theorem fY {i:Str}:TEok K (tC (.str i)) (aC (.d (.str i))):=λ_ _ _ _ _ _ a h b=>b.str a h
theorem fZ:TEok K (tC .non) (aC (.d .non)):=λ_ _ _ _ _ _ a h b=>b.non a h
def aOp (g:R->R->AE)(a b:AE):AE:=λρ q=>a ρ λr1 ρ1=>b ρ1 λr2 ρ2=>g r1.frz r2.frz ρ2 q
variable {t t' ta tb tc:TE}{a b c:AE}{rr:R2}{g:R->R->AE}
theorem aD (ho:OpOk K rr g)(ha:TEok K ta a)(hb:TEok K tb b):TEok K (tOp rr ta tb) (aOp g a b):=by
 intro F σ ρ H q Q r h k;refine ha F σ ρ H _ _ r h λr1 ρ1 x H1 h1 rel1=>?_;obtain⟨r',k1,i1⟩:=rel1.inF;refine hb F σ ρ1 H1 _ _ r' h1 λr2 ρ2 y H2 h2 rel2=>?_;obtain⟨r'',k2,i2⟩:=rel2.inF;exact ho F σ ρ2 H2 x y _ _ q Q r'' (i1.keep k2) i2 h2 (k.after (k1.trans k2))
def aUn (g:R->AE)(a:AE):AE:=λρ q=>a ρ λr1 ρ1=>g r1.frz ρ1 q
def gI (C:Int->Int->Prop)(f:Int->Int->D):R->R->AE:=λr1 r2 ρ q=>match r1,r2 with
 | .d (.int i),.d (.int j)=>C i j/\q (.d (f i j)) ρ
 | _,_=>False
theorem u5 {C:Int->Int->Prop}{f:Int->Int->D}{r1 r2:R}(h:gI C f r1 r2 ρ q):∃i j,r1 = .d (.int i)/\r2 = .d (.int j)/\C i j/\q (.d (f i j)) ρ:=by
 unfold gI at h;split at h
 ·exact⟨_,_,rfl,rfl,h⟩
 ·exact h.elim
theorem InF.int {i:Int}(h:InF K F σ ρ H v (.d (.int i))):v = .int i:=by
 unfold InF RepD at h;exact h
theorem InF.blv {i:Bool}(h:InF K F σ ρ H v (.d (.bl i))):v = .bl i:=by
 unfold InF RepD at h;exact h
theorem h9 {C:Int->Int->Prop}{f:Int->Int->Int}:OpOk K (rI C λi j=>.int (f i j)) (gI C λi j=>.int (f i j)):=by
 intro F σ ρ H x y r1 r2 q Q a h1 h2 h b;obtain⟨i,j,rfl,rfl,c,h⟩:=u5 h;exact⟨i,j,h1.int,h2.int,c,b.int a h⟩
def gI0 (f:Int->Int->D):R->R->AE:=λr1 r2 ρ q=>match r1,r2 with
 | .d (.int i),.d (.int j)=>q (.d (f i j)) ρ
 | _,_=>False
theorem pL {f:Int->Int->D}{r1 r2:R}(h:gI0 f r1 r2 ρ q):∃i j,r1 = .d (.int i)/\r2 = .d (.int j)/\q (.d (f i j)) ρ:=by
 unfold gI0 at h;split at h
 ·exact⟨_,_,rfl,rfl,h⟩
 ·exact h.elim
theorem aP {f:Int->Int->Int}:OpOk K (rI0 λi j=>.int (f i j)) (gI0 λi j=>.int (f i j)):=by
 intro F σ ρ H x y r1 r2 q Q a h1 h2 h b;obtain⟨i,j,rfl,rfl,h⟩:=pL h;exact⟨i,j,h1.int,h2.int,b.int a h⟩
theorem dg {f:Int->Int->Bool}:OpOk K (rI0 λi j=>.bl (f i j)) (gI0 λi j=>.bl (f i j)):=by
 intro F σ ρ H x y r1 r2 q Q a h1 h2 h b;obtain⟨i,j,rfl,rfl,h⟩:=pL h;exact⟨i,j,h1.int,h2.int,b.bl a h⟩
@[irreducible] def gEq (neg:Bool):R->R->AE:=λr1 r2 ρ q=>match view ρ r1,view ρ r2 with
 | some d,some e=>d.depth<=60/\q (.d (.bl (if neg then !eqD d e else eqD d e))) ρ
 | _,_=>False
theorem pM {neg:Bool}{r1 r2:R}(h:gEq neg r1 r2 ρ q):∃d e,view ρ r1=some d/\view ρ r2=some e/\d.depth<=60/\q (.d (.bl (if neg then !eqD d e else eqD d e))) ρ:=by
 unfold gEq at h;split at h
 ·rename_i d e h1 h2;exact⟨d,e,h1,h2,h⟩
 ·exact h.elim
theorem gy:OpOk K (rEqD K) (gEq false):=by
 intro F σ ρ H x y r1 r2 q Q a h1 h2 h b;obtain⟨d,e,e1,e2,c,h⟩:=pM h;exact⟨d,e,dq a h1 e1,dq a h2 e2,c,b.bl a h⟩
theorem pd:OpOk K (rNeD K) (gEq true):=by
 intro F σ ρ H x y r1 r2 q Q a h1 h2 h b;obtain⟨d,e,e1,e2,c,h⟩:=pM h;exact⟨d,e,dq a h1 e1,dq a h2 e2,c,b.bl a h⟩
@[irreducible] def gIx:R->R->AE:=λr1 r2 ρ q=>match view ρ r1,r2 with
 | some (.lst ds),.d (.int i)=>(match atI ds i with | some d=>q (.d d) ρ | none=>False)
 | some (.tup ds),.d (.int i)=>(match atI ds i with | some d=>q (.d d) ρ | none=>False)
 | _,_=>False
theorem p9 {Hh:Hp}{vs:List V}{ds:List D}{i:Int}{d:D}(h:RepDs K Hh vs ds)(e:atI ds i=some d):∃v,atI vs i=some v/\RepD K Hh v d:=by
 unfold atI at e ⊢;rw[h.length];cases hx:ixN ds.length i with
 | none=>rw[hx]at e;cases e
 | some j =>
  rw[hx]at e;exact h.get e
theorem bh:OpOk K (rIx K) gIx:=by
 intro F σ ρ H x y r1 r2 q Q a h1 h2 h b;unfold gIx at h;split at h
 ·rename_i ds i e1;split at h
  ·rename_i d e;obtain⟨l,vs,rfl,sq,rd⟩:=cW a h1 e1;obtain⟨v,e2,rv⟩:=p9 rd e;exact .inl ⟨l,vs,i,v,rfl,h2.int,sq,e2,b.dat a h rv⟩
  ·exact h.elim
 ·rename_i ds i e1;split at h
  ·rename_i d e;obtain⟨l,vs,rfl,sq,rd,_⟩:=dG a h1 e1;obtain⟨v,e2,rv⟩:=p9 rd e;exact .inr (.inl ⟨l,vs,i,v,rfl,h2.int,sq,e2,b.dat a h rv⟩)
  ·exact h.elim
 ·exact h.elim
variable {tt tu:TT}{at' au:AT}
def aB (a:AE):AT:=λρ q=>a ρ λr ρ1=>match r with
 | .d (.bl c)=>q c ρ1
 | _=>False
theorem t6 (ha:TEok K ta a):TTok K (tB ta) (aB a):=by
 intro F σ ρ H q Q r h k;refine ha F σ ρ H _ _ r h λr1 ρ1 x H1 h1 rel1=>?_;split at h1
 ·rename_i c;obtain⟨r',k1,i1⟩:=rel1.inF;exact⟨c,i1.blv,k _ _ _ h1 r' k1⟩
 ·exact h1.elim
theorem bc (ha:TEok K ta a):TTok K (t_ ta) (aB a):=t6 ha
def aOr (a b:AT):AT:=λρ q=>a ρ λc ρ1=>if c=true then q true ρ1 else b ρ1 q
def aNot (a:AT):AT:=λρ q=>a ρ λc ρ1=>q (!c) ρ1
theorem gW (ha:TTok K tt at')(hb:TTok K tu au):TTok K (tOr tt tu) (aOr at' au):=by
 intro F σ ρ H q Q r h k;refine ha F σ ρ H _ _ r h λc ρ1 H1 h1 r1 k1=>?_;cases c with
 | true=>exact k _ _ _ h1 r1 k1
 | false=>exact hb F σ ρ1 H1 q Q r1 h1 λb ρ2 H2 h2 r2 k2=>k _ _ _ h2 r2 (k1.trans k2)
theorem jr (ha:TTok K tt at'):TTok K (tNot tt) (aNot at'):=λF σ ρ H q Q r h k=>ha F σ ρ H _ _ r h λc ρ1 H1 h1 r1 k1=>k _ _ _ h1 r1 k1
def truD:D->Bool
 | .non=>false
 | .bl b=>b
 | .int i=>i != 0
 | .str _=>true
 | .tup ds=>!ds.isEmpty
 | .lst ds=>!ds.isEmpty
def aTru (a:AE):AT:=λρ q=>a ρ λr ρ1=>match view ρ1 r.frz with
 | some (.str _)=>False
 | some d=>q (truD d) ρ1
 | none=>False
theorem il {Hh:Hp}{vs:List V}{ds:List D}(h:RepDs K Hh vs ds):vs.isEmpty=ds.isEmpty:=by
 have:=h.length;cases vs <;> cases ds <;> simp_all
theorem jq (ha:TEok K ta a):TTok K (λσ H Q=>ta σ H λx H'=>∃k,TruV K x H' k/\Q k H') (aTru a):=by
 intro F σ ρ H q Q r h k;refine ha F σ ρ H _ _ r h λr1 ρ1 x H1 h1 rel1=>?_;obtain⟨r',k1,i1⟩:=rel1.inF;cases e:view ρ1 r1.frz with
 | none=>rw[e]at h1;exact h1.elim
 | some d =>
  rw[e]at h1;have rd:=dq r' i1 e;cases d with
  | str x=>exact h1.elim
  | non=>unfold RepD at rd;subst rd;exact⟨_,rfl,k _ _ _ h1 r' k1⟩
  | bl b=>unfold RepD at rd;subst rd;exact⟨_,rfl,k _ _ _ h1 r' k1⟩
  | int b=>unfold RepD at rd;subst rd;exact⟨_,rfl,k _ _ _ h1 r' k1⟩
  | tup ds =>
   unfold RepD at rd;obtain⟨p,vs,rfl,sq,rr⟩:=rd;exact⟨_,.inr (.inl ⟨vs,sq,by rw[il rr];rfl⟩),k _ _ _ h1 r' k1⟩
  | lst ds =>
   unfold RepD at rd;obtain⟨p,vs,rfl,sq,rr⟩:=rd;exact⟨_,.inl ⟨vs,sq,by rw[il rr];rfl⟩,k _ _ _ h1 r' k1⟩
variable {ts:TA}{as:AA}
def aNil:AA:=λρ q=>q [] ρ
def vW (a:AE)(as:AA):AA:=λρ q=>a ρ λr ρ1=>as ρ1 λrs ρ2=>q (r.frz::rs) ρ2
theorem aq:TAok K tNil aNil:=λF σ ρ H q Q r h k=>k _ _ _ _ h r .nil .refl
theorem aa (ha:TEok K ta a)(hs:TAok K ts as):TAok K (j_ ta ts) (vW a as):=by
 intro F σ ρ H q Q r h k;refine ha F σ ρ H _ _ r h λr1 ρ1 x H1 h1 rel1=>?_;obtain⟨r',k1,i1⟩:=rel1.inF;refine hs F σ ρ1 H1 _ _ r' h1 λrs ρ2 vs H2 h2 r2 i2 k2=>?_;exact k _ _ _ _ h2 r2 (.cons (i1.keep k2) i2) (k1.trans k2)
def sto:List R->En->(List D->En->Prop)->Prop
 | [],ρ,q=>q [] ρ
 | .d d::rs,ρ,q=>sto rs ρ λds ρ'=>q (d::ds) ρ'
 | .o i::rs,ρ,q=>(match gt ρ i with
  | .ow ds=>sto rs (pt ρ i (.vl (.lst ds))) λes ρ'=>q (.lst ds::es) ρ'
  | .vl d=>sto rs ρ λes ρ'=>q (d::es) ρ'
  | _=>False)
 | _::_,_,_=>False
theorem fD:∀ {vs:List V} {rs:List R} {ρ:En} {q:List D->En->Prop},Rel K F σ ρ H->InFs K F σ ρ H vs rs->sto rs ρ q->∃ds ρ',q ds ρ'/\Rel K F σ ρ' H/\Kp σ ρ ρ' H H/\RepDs K (hid H (hs F σ ρ')) vs ds
 | _,_,ρ,q,r,.nil,h=>⟨[],ρ,h,r,.refl,.nil⟩
 | _,_,ρ,q,r,.cons (v:=v) (r:=rr) (vs:=vs) (rs:=rs) a t,h=>by
  cases rr with
  | n s=>exact h.elim
  | t n=>exact h.elim
  | x s=>exact h.elim
  | d d =>
   obtain⟨ds,ρ',hq,r',k,rd⟩:=fD r t (show sto rs ρ _ from h);exact⟨d::ds,ρ',hq,r',k,.cons (RepD.same a k.vis) rd⟩
  | o i =>
   have s:=r.sl i;unfold sto at h;cases hg:gt ρ i with
   | un=>rw[hg]at h;exact h.elim
   | tp n=>rw[hg]at h;exact h.elim
   | dk n=>rw[hg]at h;exact h.elim
   | dt n=>rw[hg]at h;exact h.elim
   | ex n m=>rw[hg]at h;exact h.elim
   | sc n=>rw[hg]at h;exact h.elim
   | px n m k=>rw[hg]at h;exact h.elim
   | xl es=>rw[hg]at h;exact h.elim
   | ob _ _=>rw[hg]at h;exact h.elim
   | ll _=>rw[hg]at h;exact h.elim
   | ds _ _ _=>rw[hg]at h;exact h.elim
   | vl d =>
    rw[hg]at h s;obtain⟨x,e,rd1⟩:=s;rw[show σ[i]? = _ from a]at e;injection e with e;injection e with e;subst e;obtain⟨ds,ρ',hq,r',k,rd⟩:=fD r t h;exact⟨d::ds,ρ',hq,r',k,.cons (rd1.same k.vis) rd⟩
   | ow ds =>
    rw[hg]at h;obtain⟨l,e,r1,k1,rd1⟩:=r.frz hg;rw[show σ[i]? = _ from a]at e;injection e with e;injection e with e;subst e;obtain⟨es,ρ',hq,r',k,rd⟩:=fD r1 (t.keep k1) h;exact⟨_,ρ',hq,r',k1.trans k,.cons (rd1.same k.vis) rd⟩
theorem small {n:Nat}(h:n<=1000000):n<=v5:=by unfold v5;omega
theorem g6 {n:Nat}(h:n<=1000000):n<v5:=by unfold v5;omega
def aTup (as:AA):AE:=λρ q=>as ρ λrs ρ1=>sto rs ρ1 λds ρ2=>ds.length<=1000000/\q (.d (.tup ds)) ρ2
def aLst (as:AA):AE:=λρ q=>as ρ λrs ρ1=>sto rs ρ1 λds ρ2=>ds.length<=1000000/\q (.f ds) ρ2
theorem bR (hs:TAok K ts as):TEok K (tTup ts) (aTup as):=by
 intro F σ ρ H q Q r h k;refine hs F σ ρ H _ _ r h λrs ρ1 vs H1 h1 r1 i1 k1=>?_;obtain⟨ds,ρ2,⟨hz,hq⟩,r2,k2,rd⟩:=fD r1 i1 h1;exact⟨small (by rw[rd.length];exact hz),λp hp=>((k.after k1).after k2).newT r2 hq rd hp⟩
theorem cI (hs:TAok K ts as):TEok K (tLst ts) (aLst as):=by
 intro F σ ρ H q Q r h k;refine hs F σ ρ H _ _ r h λrs ρ1 vs H1 h1 r1 i1 k1=>?_;obtain⟨ds,ρ2,⟨hz,hq⟩,r2,k2,rd⟩:=fD r1 i1 h1;exact⟨small (by rw[rd.length];exact hz),λp hp=>((k.after k1).after k2).new r2 hq rd hp⟩
def aCB (g:List R->AE)(as:AA):AE:=λρ q=>as ρ λrs ρ1=>g rs ρ1 q
theorem bb {rb:List V->Hp->VK->Prop}{g:List R->AE}(hb:CbOk K rb g)(hs:TAok K ts as):TEok K (tCB rb ts) (aCB g as):=by
 intro F σ ρ H q Q r h k;exact hs F σ ρ H _ _ r h λrs ρ1 vs H1 h1 r1 i1 k1=>hb F σ ρ1 H1 vs rs q Q r1 i1 h1 (k.after k1)
theorem InFs.one {vs:List V}{r1:R}(h:InFs K F σ ρ H vs [r1]):∃x,vs=[x]/\InF K F σ ρ H x r1:=by
 cases h with | cons a t=>cases t;exact⟨_,rfl,a⟩
theorem InFs.two {vs:List V}{r1 r2:R}(h:InFs K F σ ρ H vs [r1,r2]):∃x y,vs=[x,y]/\InF K F σ ρ H x r1/\InF K F σ ρ H y r2:=by
 cases h with | cons a t=>obtain⟨y,rfl,b⟩:=t.one;exact⟨_,_,rfl,a,b⟩
def gLen:List R->AE:=λrs ρ q=>match rs with
 | [r]=>(match view ρ r with
  | some (.lst ds)=>q (.d (.int ds.length)) ρ
  | some (.tup ds)=>q (.d (.int ds.length)) ρ
  | _=>False)
 | _=>False
theorem aW:CbOk K (λxs H Q=>∃p ys,xs=[.ref p]/\(SqL K H p ys∨SqT K H p ys)/\Q (.int ys.length) H) gLen:=by
 intro F σ ρ H vs rs q Q a i h b;unfold gLen at h;split at h
 ·obtain⟨x,rfl,i1⟩:=i.one;split at h
  ·rename_i ds e;obtain⟨l,vs,rfl,sq,rd⟩:=cW a i1 e;exact⟨l,vs,rfl,.inl sq,by rw[rd.length];exact b.int a h⟩
  ·rename_i ds e;obtain⟨l,vs,rfl,sq,rd,_⟩:=dG a i1 e;exact⟨l,vs,rfl,.inr sq,by rw[rd.length];exact b.int a h⟩
  ·exact h.elim
 ·exact h.elim
def gList:List R->AE:=λrs ρ q=>match rs with
 | [r]=>(match view ρ r with
  | some (.lst ds)=>q (.f ds) ρ
  | some (.tup ds)=>q (.f ds) ρ
  | _=>False)
 | _=>False
theorem pX:CbOk K (λxs H Q=>∃p ys,xs=[.ref p]/\(SqL K H p ys∨SqT K H p ys)/\∀l,H l=none->Q (.ref l) (upd H l (.lst ys))) gList:=by
 intro F σ ρ H vs rs q Q a i h b;unfold gList at h;split at h
 ·obtain⟨x,rfl,i1⟩:=i.one;split at h
  ·rename_i ds e;obtain⟨l,vs,rfl,sq,rd⟩:=cW a i1 e;exact⟨l,vs,rfl,.inl sq,λp hp=>b.new a h rd hp⟩
  ·rename_i ds e;obtain⟨l,vs,rfl,sq,rd,_⟩:=dG a i1 e;exact⟨l,vs,rfl,.inr sq,λp hp=>b.new a h rd hp⟩
  ·exact h.elim
 ·exact h.elim
def gTuple:List R->AE:=λrs ρ q=>match rs with
 | [r]=>(match view ρ r with
  | some (.lst ds)=>q (.d (.tup ds)) ρ
  | some (.tup ds)=>q (.d (.tup ds)) ρ
  | _=>False)
 | _=>False
theorem cJ:CbOk K (λxs H Q=>∃p ys,xs=[.ref p]/\((SqL K H p ys/\∀l,H l=none->Q (.ref l) (upd H l (.tup ys)))∨(SqT K H p ys/\Q (.ref p) H))) gTuple:=by
 intro F σ ρ H vs rs q Q a i h b;unfold gTuple at h;split at h
 ·obtain⟨x,rfl,i1⟩:=i.one;split at h
  ·rename_i ds e;obtain⟨l,vs,rfl,sq,rd⟩:=cW a i1 e;exact⟨l,vs,rfl,.inl ⟨sq,λp hp=>b.newT a h rd hp⟩⟩
  ·rename_i ds e;obtain⟨l,vs,rfl,sq,rd,sq'⟩:=dG a i1 e;refine⟨l,vs,rfl,.inr ⟨sq,b.dat a h ?_⟩⟩;unfold RepD;exact⟨l,vs,rfl,sq',rd⟩
  ·exact h.elim
 ·exact h.elim
def gII (f:Int->Int->Int):List R->AE:=λrs ρ q=>match rs with
 | [.d (.int i),.d (.int j)]=>q (.d (.int (f i j))) ρ
 | _=>False
theorem e_:CbOk K (λxs H Q=>∃i j,xs=[.int i,.int j]/\Q (.int (if j > i then j else i)) H) (gII λi j=>if j > i then j else i):=by
 intro F σ ρ H vs rs q Q a i h b;unfold gII at h;split at h
 ·obtain⟨x,y,rfl,i1,j1⟩:=i.two;exact⟨_,_,by rw[i1.int,j1.int],b.int a h⟩
 ·exact h.elim
theorem jU:CbOk K (λxs H Q=>∃i j,xs=[.int i,.int j]/\Q (.int (if j<i then j else i)) H) (gII λi j=>if j<i then j else i):=by
 intro F σ ρ H vs rs q Q a i h b;unfold gII at h;split at h
 ·obtain⟨x,y,rfl,i1,j1⟩:=i.two;exact⟨_,_,by rw[i1.int,j1.int],b.int a h⟩
 ·exact h.elim
def aApp (a:AE)(as:AA):AE:=λρ q=>a ρ λr ρ1=>match r with
 | .o i=>(match gt ρ1 i with
  | .ow _=>as ρ1 λrs ρ2=>(match rs with
   | [y]=>sto [y] ρ2 λes ρ3=>(match gt ρ3 i with
    | .ow ds=>ds.length<=1000000/\q (.d .non) (pt ρ3 i (.ow (ds++es)))
    | _=>False)
   | _=>False)
  | _=>False)
 | _=>False
theorem c_ (ha:TEok K ta a)(hs:TAok K ts as):TEok K (tBM K "list" rAppend ta ts) (aApp a as):=by
 intro F σ ρ H q Q r h k;refine ha F σ ρ H _ _ r h λr1 ρ1 x H1 h1 rel1=>?_;split at h1
 ·rename_i i;obtain⟨r',k1,i1⟩:=rel1.inF;have ex:σ[i]? = some (some x):=i1;split at h1
  ·rename_i ds0 hg0;have s:=r'.sl i;rw[hg0,ex]at s;obtain⟨l,vs0,e,hl,_⟩:=s;injection e with e;injection e with e;subst e;refine⟨.inl ⟨rfl,_,SqL.of hl⟩,hs F σ ρ1 H1 _ _ r' h1 λrs ρ2 vs H2 h2 r2 i2 k2=>?_⟩;split at h2
   ·obtain⟨es,ρ3,h3,r3,k3,rd⟩:=fD r2 i2 h2;split at h3
    ·rename_i ds hg;have s:=r3.sl i;rw[hg,ex]at s;obtain⟨l',us,e,hl',rd'⟩:=s;injection e with e;injection e with e;injection e with e;subst e;obtain⟨y,rfl,_⟩:=i2.one;have hw:=r3.write (i:=i) (l:=l) (o:=.lst (us++[y])) (s:=.ow (ds++es)) (by rw[hg];rfl) ex rfl ⟨l,_,rfl,aX,rd'.append rd⟩;refine⟨l,us,y,rfl,rfl,hl',g6 (by rw[rd'.length];exact h3.1),?_⟩;exact(((k.after k1).after k2).after (k3.trans hw.2)).non hw.1 h3.2
    ·exact h3.elim
   ·exact h2.elim
  ·exact h1.elim
 ·exact h1.elim
abbrev AO:=En->(Option Int->En->Prop)->Prop
def TOok (K:ac)(t:TO)(a:AO):Prop:=∀F σ ρ H q Q,Rel K F σ ρ H->a ρ q->(∀b ρ' H',q b ρ'->Rel K F σ ρ' H'->Kp σ ρ ρ' H H'->Q b H')->t σ H Q
def oNo:AO:=λρ q=>q none ρ
def vH (a:AE):AO:=λρ q=>a ρ λr ρ1=>match r with
 | .d (.int i)=>q (some i) ρ1
 | _=>False
theorem fX:TOok K tNoPart oNo:=λF σ ρ H q Q r h k=>k _ _ _ h r .refl
theorem cZ (ha:TEok K ta a):TOok K (uc ta) (vH a):=by
 intro F σ ρ H q Q r h k;refine ha F σ ρ H _ _ r h λr1 ρ1 x H1 h1 rel1=>?_;split at h1
 ·obtain⟨r',k1,i1⟩:=rel1.inF;exact⟨_,i1.int,k _ _ _ h1 r' k1⟩
 ·exact h1.elim
def cutD (xs:List D)(lo hi:Option Int):List D:=(xs.drop (HT.sIx xs.length 0 lo)).take (HT.sIx xs.length xs.length hi - HT.sIx xs.length 0 lo)
theorem RepDs.drop:∀ {vs:List V} {ds:List D} (n:Nat),RepDs K H vs ds->RepDs K H (vs.drop n) (ds.drop n)
 | [],[],n,h=>by simp[RepDs.nil]
 | v::vs,d::ds,0,h=>h
 | v::vs,d::ds,n+1,h=>by unfold RepDs at h;exact RepDs.drop n h.2
 | [],d::ds,_,h=>by unfold RepDs at h;exact h.elim
 | v::vs,[],_,h=>by unfold RepDs at h;exact h.elim
theorem RepDs.take:∀ {vs:List V} {ds:List D} (n:Nat),RepDs K H vs ds->RepDs K H (vs.take n) (ds.take n)
 | [],[],n,h=>by simp[RepDs.nil]
 | v::vs,d::ds,0,h=>.nil
 | v::vs,d::ds,n+1,h=>by unfold RepDs at h;exact .cons h.1 (RepDs.take n h.2)
 | [],d::ds,_,h=>by unfold RepDs at h;exact h.elim
 | v::vs,[],_,h=>by unfold RepDs at h;exact h.elim
theorem pT {vs:List V}{ds:List D}{lo hi:Option Int}(h:RepDs K H vs ds):RepDs K H (cutV vs lo hi) (cutD ds lo hi):=by
 unfold cutV cutD;rw[h.length];exact(h.drop _).take _
def aSlL (a:AE)(l u:AO):AE:=λρ q=>a ρ λr ρ1=>l ρ1 λlo ρ2=>u ρ2 λhi ρ3=>match view ρ3 r.frz with
 | some (.lst ds)=>q (.f (cutD ds lo hi)) ρ3
 | _=>False
theorem gX {tl th:TO}{al au:AO}(ha:TEok K ta a)(hl:TOok K tl al)(hh:TOok K th au):TEok K (tSl (rSlL K) ta tl th) (aSlL a al au):=by
 intro F σ ρ H q Q r h k;refine ha F σ ρ H _ _ r h λr1 ρ1 x H1 h1 rel1=>?_;obtain⟨r',k1,i1⟩:=rel1.inF;refine hl F σ ρ1 H1 _ _ r' h1 λlo ρ2 H2 h2 r2 k2=>?_;refine hh F σ ρ2 H2 _ _ r2 h2 λhi ρ3 H3 h3 r3 k3=>?_;split at h3
 ·rename_i ds e;obtain⟨p,vs,rfl,sq,rd⟩:=cW r3 ((i1.keep k2).keep k3) e;exact⟨p,vs,rfl,sq,λp' hp=>(((k.after k1).after k2).after k3).new r3 h3 (pT rd) hp⟩
 ·exact h3.elim
end
def cN (ρ:En):R->Sv
 | .d d=>.vl d
 | .o j=>gt ρ j
 | .x s=>s
 | _=>.un
def Src (K:ac)(F:Fr)(σ:St)(ρ:En)(H:Hp)(ov:Option V):R->Prop
 | .d d=>∃v,ov=some v/\RepD K (hid H (hs F σ ρ)) v d
 | .o j=>(σ[j]?).getD none=ov
 | .x s=>∃v,ov=some v/\s.own=false/\SvOk K (hid H (hs F σ ρ)) H (some (some v)) s
 | _=>True
inductive Srcs (K:ac) (F:Fr) (σ:St) (ρ:En) (H:Hp):St->List R->Prop
 | nil:Srcs K F σ ρ H [] []
 | cons {v:Option V} {r:R} {vs:St} {rs:List R}:Src K F σ ρ H v r->Srcs K F σ ρ H vs rs->Srcs K F σ ρ H (v::vs) (r::rs)
def isO (j:Nat):R->Bool
 | .o i=>i==j
 | _=>false
def dis:List R->Bool
 | []=>true
 | .o j::rs=>rs.all (λr=>!isO j r)&&dis rs
 | _::rs=>dis rs
theorem qR:∀ {rs:List R} {k k' j:Nat},dis rs=true->rs[k]? = some (.o j)->rs[k']? = some (.o j)->k=k':=by
 intro rs;induction rs with
 | nil=>intro k k' j _ h;simp at h
 | cons r rs ih =>
  intro k k' j hd h h';have hd':dis rs=true:=by
   cases r <;> simp[dis]at hd <;> first | exact hd.2 | exact hd
  have no:∀(m:Nat),r = .o j->rs[m]? = some (.o j)->False:=λm e hm=>by
   subst e;simp[dis]at hd;have:=hd.1 _ (wr hm);simp[isO]at this
  cases k with
  | zero =>
   cases k' with
   | zero=>rfl
   | succ k'=>simp at h h';exact(no k' h h').elim
  | succ k =>
   cases k' with
   | zero=>simp at h h';exact(no k h' h).elim
   | succ k'=>simp at h h';rw[ih hd' h h']
def back:En->List R->En->En
 | ρ,.o j::rs,s::ss=>back (pt ρ j s) rs ss
 | ρ,_::rs,_::ss=>back ρ rs ss
 | ρ,_,_=>ρ
theorem dS:∀(rs:List R) (ρ ss:En),(back ρ rs ss).length=ρ.length
 | [],ρ,ss=>by cases ss <;> rfl
 | r::rs,ρ,[]=>by cases r <;> rfl
 | .o j::rs,ρ,s::ss=>by show(back (pt ρ j s) rs ss).length=_;rw[dS,dW]
 | .d d::rs,ρ,s::ss=>dS rs ρ ss
 | .n d::rs,ρ,s::ss=>dS rs ρ ss
 | .t d::rs,ρ,s::ss=>dS rs ρ ss
 | .x d::rs,ρ,s::ss=>dS rs ρ ss
theorem fC:∀(rs:List R) (ρ ss:En) (i:Nat),(∀k:Nat,rs[k]? ≠ some (R.o i))->gt (back ρ rs ss) i=gt ρ i
 | [],ρ,ss,i,_=>by cases ss <;> rfl
 | r::rs,ρ,[],i,_=>by cases r <;> rfl
 | .o j::rs,ρ,s::ss,i,h=>by
  have ne:j≠i:=λe=>h 0 (by simp[e]);show gt (back (pt ρ j s) rs ss) i=_;rw[fC rs _ ss i (λk z=>h (k+1) (by simpa using z)),bC ρ j i s ne]
 | .d d::rs,ρ,s::ss,i,h=>fC rs ρ ss i (λk z=>h (k+1) (by simpa using z))
 | .n d::rs,ρ,s::ss,i,h=>fC rs ρ ss i (λk z=>h (k+1) (by simpa using z))
 | .t d::rs,ρ,s::ss,i,h=>fC rs ρ ss i (λk z=>h (k+1) (by simpa using z))
 | .x d::rs,ρ,s::ss,i,h=>fC rs ρ ss i (λk z=>h (k+1) (by simpa using z))
theorem gp:∀(rs:List R) (ρ ss:En) (i k:Nat),dis rs=true->rs[k]? = some (.o i)->ss.length=rs.length->i<ρ.length->gt (back ρ rs ss) i=gt ss k
 | [],ρ,ss,i,k,_,h,_,_=>by simp at h
 | r::rs,ρ,[],i,k,_,_,e,_=>by simp at e
 | .o j::rs,ρ,s::ss,i,0,hd,h,e,l=>by
  simp at h;subst h;simp[dis]at hd;show gt (back (pt ρ j s) rs ss) j=s;rw[fC rs _ ss j (λk z=>by have:=hd.1 _ (wr z);simp[isO]at this),ir ρ j s l]
 | .o j::rs,ρ,s::ss,i,k+1,hd,h,e,l=>by
  simp[dis]at hd;exact gp rs (pt ρ j s) ss i k hd.2 (by simpa using h) (by simpa using e) (by rw[dW];exact l)
 | .d d::rs,ρ,s::ss,i,0,hd,h,e,l=>by simp at h
 | .n d::rs,ρ,s::ss,i,0,hd,h,e,l=>by simp at h
 | .t d::rs,ρ,s::ss,i,0,hd,h,e,l=>by simp at h
 | .x d::rs,ρ,s::ss,i,0,hd,h,e,l=>by simp at h
 | .d d::rs,ρ,s::ss,i,k+1,hd,h,e,l=>gp rs ρ ss i k hd (by simpa using h) (by simpa using e) l
 | .n d::rs,ρ,s::ss,i,k+1,hd,h,e,l=>gp rs ρ ss i k hd (by simpa using h) (by simpa using e) l
 | .t d::rs,ρ,s::ss,i,k+1,hd,h,e,l=>gp rs ρ ss i k hd (by simpa using h) (by simpa using e) l
 | .x d::rs,ρ,s::ss,i,k+1,hd,h,e,l=>gp rs ρ ss i k hd (by simpa using h) (by simpa using e) l
theorem kG (ρ:En):∀(rs:List R) (k:Nat),gt (rs.map (cN ρ)) k=(match rs[k]? with | some r=>cN ρ r | none=>.un)
 | [],k=>by simp[gt]
 | r::rs,0=>by simp[gt]
 | r::rs,k+1=>by simp[gt,kG ρ rs k]
section
variable {K:ac}{F:Fr}{σ:St}{ρ ρ':En}{H H':Hp}{ovs:St}{rs:List R}
theorem Srcs.length (s:Srcs K F σ ρ H ovs rs):ovs.length=rs.length:=by
 induction s with
 | nil=>rfl
 | cons _ _ ih=>simp[ih]
theorem Srcs.get {k:Nat}{r:R}(s:Srcs K F σ ρ H ovs rs)(h:rs[k]? = some r):∃ov,ovs[k]? = some ov/\Src K F σ ρ H ov r:=by
 induction s generalizing k with
 | nil=>simp at h
 | cons a _ ih =>
  cases k with
  | zero=>simp at h;subst h;exact⟨_,rfl,a⟩
  | succ k=>obtain⟨ov,e,q⟩:=ih (by simpa using h);exact⟨ov,by simpa using e,q⟩
def fe (F:Fr)(σ:St)(ρ:En)(H:Hp)(ovs:St)(ss:En):Fr :=
 ⟨H,λa=>F.Z a∨(bF σ ρ a/\¬bF ovs ss a),λa=>bF ovs ss a,λi a=>(gt ss i).own=true/\ovs[i]? = some (some (.ref a)),λ_ _=>False⟩
theorem lj (s:Srcs K F σ ρ H ovs rs){k:Nat}(h:(gt (rs.map (cN ρ)) k).own=true):∃j:Nat,rs[k]? = some (R.o j)/\(gt ρ j).own=true/\gt (rs.map (cN ρ)) k=gt ρ j/\ovs[k]? = some ((σ[j]?).getD none):=by
 rw[kG]at h;cases e:rs[k]? with
 | none=>simp[e]at h;cases h
 | some r =>
  rw[e]at h;cases r with
  | d d=>cases h
  | n d=>cases h
  | t d=>cases h
  | x d =>
   obtain⟨ov,_,_,_,hx,_⟩:=s.get e;have h:d.own=true:=h;rw[hx]at h;cases h
  | o j =>
   obtain⟨ov,e1,e2⟩:=s.get e;exact⟨j,rfl,h,by rw[kG,e];rfl,by rw[e1,show _=ov from e2]⟩
theorem jP {x:Option (Option V)}{a:Addr}(h:some (x.getD none)=some (some (V.ref a))):x=some (some (.ref a)):=by
 cases x with
 | none=>simp at h
 | some y=>simpa using h
theorem cM (s:Srcs K F σ ρ H ovs rs){a:Addr}(h:bF ovs (rs.map (cN ρ)) a):∃k j:Nat,rs[k]? = some (R.o j)/\(gt ρ j).own=true/\σ[j]? = some (some (V.ref a))/\ovs[k]? = some (some (V.ref a)):=by
 obtain⟨k,hk,e⟩:=h;obtain⟨j,e1,e2,e3,e4⟩:=lj s hk;rw[e]at e4;exact⟨k,j,e1,e2,jP e4.symm,e⟩
theorem ou (r:Rel K F σ ρ H)(s:Srcs K F σ ρ H ovs rs):hs (fe F σ ρ H ovs (rs.map (cN ρ))) ovs (rs.map (cN ρ))=hs F σ ρ:=by
 funext a;apply propext;constructor
 ·rintro((h | h) | h)
  ·exact .inl h
  ·exact .inr h.1
  ·obtain⟨k,j,e1,e2,e3,_⟩:=cM s h;exact .inr ⟨j,e2,e3⟩
 ·rintro(h | h)
  ·exact .inl (.inl h)
  ·by_cases q:bF ovs (rs.map (cN ρ)) a
   ·exact .inr q
   ·exact .inl (.inr ⟨h,q⟩)
theorem Rel.sub (r:Rel K F σ ρ H)(s:Srcs K F σ ρ H ovs rs)(hd:dis rs=true):Rel K (fe F σ ρ H ovs (rs.map (cN ρ))) ovs (rs.map (cN ρ)) H:=by
 refine⟨by rw[s.length,db],λa o e _=>e,λa z=>?_,λa h z=>?_,λi a hi e=>.inl ⟨⟨hi,e⟩,i,hi,e⟩,λi a h=>?_,λa h=>?_,λa h=>?_,λi j a hi hj ei ej=>?_,λk=>?_⟩
 ·rcases z with z | z
  ·exact r.zl a z
  ·exact mB r z.1
 ·obtain⟨k,j,e1,e2,e3,_⟩:=cM s h;rcases z with z | z
  ·exact r.zo a ⟨j,e2,e3⟩ z
  ·exact z.2 h
 ·rcases h with h | h
  ·exact h.2
  ·exact h.elim
 ·obtain⟨k,j,e1,e2,e3,_⟩:=cM s h;exact de r ⟨j,e2,e3⟩
 ·obtain⟨k,j,e1,e2,e3,_⟩:=cM s h;exact de r ⟨j,e2,e3⟩
 ·obtain⟨p,a1,a2,a3,a4⟩:=lj s hi;obtain⟨p',b1,b2,b3,b4⟩:=lj s hj;rw[ei]at a4;rw[ej]at b4;have:p=p':=r.nd p p' a a2 b2 (jP a4.symm) (jP b4.symm);subst this;exact qR hd a1 b1
 ·rw[ou r s,kG];cases e:rs[k]? with
  | none=>trivial
  | some x =>
   obtain⟨ov,e1,e2⟩:=s.get e;cases x with
   | n d=>trivial
   | t d=>trivial
   | x d=>obtain⟨v,e3,_,e4⟩:=e2;rw[e1,e3];exact e4
   | d d=>obtain⟨v,e3,e4⟩:=e2;rw[e1,e3];exact⟨v,rfl,e4⟩
   | o j =>
    rw[e1];have q:=r.sl j;show SvOk K _ H (some ov) (gt ρ j);rw[<- show(σ[j]?).getD none=ov from e2];cases e5:σ[j]? with
    | none =>
     rw[e5]at q;cases hg:gt ρ j with
     | un=>trivial
     | vl d=>rw[hg]at q;obtain⟨x,z,_⟩:=q;cases z
     | ow d=>rw[hg]at q;obtain⟨x,_,z,_⟩:=q;cases z
     | tp d=>rw[hg]at q;obtain⟨x,_,_,_,_,z,_⟩:=q;cases z
     | dk d=>rw[hg]at q;obtain⟨x,_,z,_⟩:=q;cases z
     | dt d=>rw[hg]at q;obtain⟨x,_,z,_⟩:=q;cases z
     | ex d m=>rw[hg]at q;obtain⟨x,_,z,_⟩:=q;cases z
     | sc d=>rw[hg]at q;obtain⟨x,z,_⟩:=q;cases z
     | px d m k=>rw[hg]at q;obtain⟨x,_,_,_,z,_⟩:=q;cases z
     | xl es=>rw[hg]at q;obtain⟨x,_,z,_⟩:=q;cases z
     | ob _ _=>rw[hg]at q;obtain⟨x,_,_,z,_⟩:=q;cases z
     | ll _=>rw[hg]at q;obtain⟨x,_,_,z,_⟩:=q;cases z
     | ds _ _ _=>rw[hg]at q;obtain⟨x,_,_,_,_,_,z,_⟩:=q;cases z
    | some y=>rw[e5]at q;exact q
theorem Rel.back (r:Rel K F σ ρ H)(s:Srcs K F σ ρ H ovs rs)(hd:dis rs=true){ss':En}(r':Rel K (fe F σ ρ H ovs (rs.map (cN ρ))) ovs ss' H')(sb:∀i,(gt ss' i).own=true->(gt (rs.map (cN ρ)) i).own=true) :
  Rel K F σ (L2.back ρ rs ss') H'/\Kp σ ρ (L2.back ρ rs ss') H H'/\Same (hid H' (hs (fe F σ ρ H ovs (rs.map (cN ρ))) ovs ss')) (hid H' (hs F σ (L2.back ρ rs ss'))):=by
 have ln:ss'.length=rs.length:=by rw[<- r'.len,s.length]
 have cs:∀i:Nat,(∃k:Nat,rs[k]? = some (R.o i)/\i<ρ.length/\gt (L2.back ρ rs ss') i=gt ss' k)∨((∀k:Nat,i<ρ.length->rs[k]? ≠ some (R.o i))/\gt (L2.back ρ rs ss') i=gt ρ i):=λi=>by
  by_cases hi:i<ρ.length
  ·by_cases q:∃k:Nat,rs[k]? = some (R.o i)
   ·obtain⟨k,e⟩:=q;exact .inl ⟨k,e,hi,gp rs ρ ss' i k hd e ln hi⟩
   ·exact .inr ⟨λk _ z=>q ⟨k,z⟩,fC rs ρ ss' i λk z=>q ⟨k,z⟩⟩
  ·refine .inr ⟨λk z=>absurd z hi,?_⟩;rw[gA _ i (by rw[dS];omega),gA _ i (by omega)]
 have own':∀i,(gt (L2.back ρ rs ss') i).own=true->(gt ρ i).own=true:=λi h=>by
  rcases cs i with⟨k,e,hi,g⟩ | ⟨_,g⟩
  ·rw[g]at h;have:=sb k h;rw[kG,e]at this;exact this
  ·rw[g]at h;exact h
 have subo:∀ {a},bF σ (L2.back ρ rs ss') a->bF σ ρ a:=λ⟨i,hi,e⟩=>⟨i,own' i hi,e⟩
 have no:∀a,¬bF σ ρ a->¬bF ovs (rs.map (cN ρ)) a:=λa h z=>by
  obtain⟨k,j,e1,e2,e3,_⟩:=cM s z;exact h ⟨j,e2,e3⟩
 have st:∀a o,H a=some o->¬bF ovs (rs.map (cN ρ)) a->H' a=some o:=λa o e n=>r'.fr a o e n;have hsub:∀a,hs F σ (L2.back ρ rs ss') a->hs (fe F σ ρ H ovs (rs.map (cN ρ))) ovs ss' a:=λa h=>by
  rcases h with h | ⟨i,hi,e⟩
  ·exact .inl (.inl h)
  ·rcases cs i with⟨k,e1,hl,g⟩ | ⟨n,g⟩
   ·right;rw[g]at hi;obtain⟨ov,q1,q2⟩:=s.get e1;refine⟨k,hi,?_⟩;rw[q1,<- show(σ[i]?).getD none=ov from q2,e];rfl
   ·left;right;rw[g]at hi;refine⟨⟨i,hi,e⟩,λz=>?_⟩;obtain⟨k,j,e1,e2,e3,_⟩:=cM s z;have:i=j:=r.nd i j a hi e2 e e3;subst this;exact n k (h8 hi) e1
 have v1:Same (hid H' (hs (fe F σ ρ H ovs (rs.map (cN ρ))) ovs ss')) (hid H' (hs F σ (L2.back ρ rs ss'))):=bB λa o e n=>⟨e,λz=>n (hsub a z)⟩
 have v2:Same (hid H (hs F σ ρ)) (hid H' (hs F σ (L2.back ρ rs ss'))):=bB λa o e n=>⟨st a o e (no a λz=>n (.inr z)),λz=>n (z.imp id subo)⟩
 refine⟨⟨by rw[dS,r.len],λa o e n=>?_,λa z=>r'.zl a (.inl z),λa h=>r.zo a (subo h),λi a hi e=>r.ow i a (own' i hi) e,r.mi,r.ml,λa z=>?_,λi j a hi hj ei ej=>r.nd i j a (own' i hi) (own' j hj) ei ej,λi=>?_⟩,⟨λa o e n=>st a o e (no a n),own'⟩,v1⟩
 ·have e1:=r.fr a o e n;refine st a o e1 λz=>?_;obtain⟨k,j,h1,h2,h3,_⟩:=cM s z;rcases r.ow j a h2 h3 with q | q
  ·exact n q.2
  ·rw[e]at q;cases q
 ·by_cases q:bF ovs (rs.map (cN ρ)) a
  ·exact r'.ma a q
  ·cases h:H a with
   | none=>exact absurd h (r.ma a z)
   | some o=>rw[st a o h q];exact λz=>nomatch z
 ·rcases cs i with⟨k,e1,hl,g⟩ | ⟨n,g⟩
  ·rw[g];have q:=(r'.sl k).keep v1 λ_ _ _ _ e=>e;obtain⟨ov,q1,q2⟩:=s.get e1;rw[q1,<- show(σ[i]?).getD none=ov from q2]at q;cases e5:σ[i]? with
   | none =>
    rw[e5]at q;cases hg:gt ss' k with
    | un=>trivial
    | vl d=>rw[hg]at q;obtain⟨x,z,_⟩:=q;cases z
    | ow d=>rw[hg]at q;obtain⟨x,_,z,_⟩:=q;cases z
    | tp d=>rw[hg]at q;obtain⟨x,_,_,_,_,z,_⟩:=q;cases z
    | dk d=>rw[hg]at q;obtain⟨x,_,z,_⟩:=q;cases z
    | dt d=>rw[hg]at q;obtain⟨x,_,z,_⟩:=q;cases z
    | ex d m=>rw[hg]at q;obtain⟨x,_,z,_⟩:=q;cases z
    | sc d=>rw[hg]at q;obtain⟨x,z,_⟩:=q;cases z
    | px d m k=>rw[hg]at q;obtain⟨x,_,_,_,z,_⟩:=q;cases z
    | xl es=>rw[hg]at q;obtain⟨x,_,z,_⟩:=q;cases z
    | ob _ _=>rw[hg]at q;obtain⟨x,_,_,z,_⟩:=q;cases z
    | ll _=>rw[hg]at q;obtain⟨x,_,_,z,_⟩:=q;cases z
    | ds _ _ _=>rw[hg]at q;obtain⟨x,_,_,_,_,_,z,_⟩:=q;cases z
   | some y=>rw[e5]at q;exact q
  ·rw[g];refine(r.sl i).keep v2 λl o ho e h=>st l o h λz=>?_;obtain⟨k,j,e1,e2,e3,_⟩:=cM s z;have:i=j:=r.nd i j l ho e2 e e3;subst this;exact n k (h8 ho) e1
end
abbrev ASp:=En->Ko->Prop
def F0 (vs:List V)(ss:En)(H:Hp)(Z:Addr->Prop):Fr:=⟨H,Z,λa=>bF (vs.map some) ss a,λi a=>(gt ss i).own=true/\(vs.map some)[i]? = some (some (.ref a)),λ_ _=>False⟩
def spA (K:ac)(S:ASp):Sp:=λvs H Q _=>∃ss Z q,Rel K (F0 vs ss H Z) (vs.map some) ss H/\S ss q /\
 ∀r ss' v H',q r ss'->(∀i,(gt ss' i).own=true->(gt ss i).own=true)->(∀i,r ≠ .o i)->RelR K (F0 vs ss H Z) (vs.map some) ss' v H' r->Q v H'
def vw (S:ASp)(as:AA):AE:=λρ q=>as ρ λrs ρ1=>dis rs=true/\S (rs.map (cN ρ1)) λr ss'=>q r (back ρ1 rs ss')
section
variable {K:ac}{F:Fr}{σ:St}{ρ ρ':En}{H H':Hp}{ovs:St}{rs:List R}
theorem InFs.srcs {vs:List V}(h:InFs K F σ ρ H vs rs):Srcs K F σ ρ H (vs.map some) rs:=by
 induction h with
 | nil=>exact .nil
 | cons a t ih =>
  rename_i v r vs rs;refine .cons ?_ ih;cases r with
  | d d=>exact⟨v,rfl,a⟩
  | o j=>show(σ[j]?).getD none=some v;rw[show σ[j]? = _ from a];rfl
  | n s=>trivial
  | t n=>trivial
  | x n=>exact⟨v,rfl,a⟩
theorem aU {S:ASp}{E:XK}{ts:TA}{as:AA}(hs':TAok K ts as):TEok K (lh (spA K S) [] E ts) (vw S as):=by
 intro F σ ρ H q Q r h k;refine hs' F σ ρ H _ _ r h λrs ρ1 vs H1 h1 r1 i1 k1=>?_;obtain⟨hd,hS⟩:=h1;have s:=i1.srcs;rw[yb];refine⟨rs.map (cN ρ1),(fe F σ ρ1 H1 (vs.map some) (rs.map (cN ρ1))).Z,_,r1.sub s hd,hS,λrr ss' v H' hq sb no out=>?_⟩;refine(k.after k1) rr (back ρ1 rs ss') v H' hq ?_;cases rr with
 | o i=>exact absurd rfl (no i)
 | d d =>
  obtain⟨a,b⟩:=out;obtain⟨x,y,z⟩:=r1.back s hd a sb;exact⟨x,y,RepD.same b z⟩
 | x sv =>
  obtain⟨a,b,c⟩:=out;obtain⟨x,y,z⟩:=r1.back s hd a sb;exact⟨x,y,b,c.keep z λl o ho=>by rw[b]at ho;cases ho⟩
 | t n =>
  obtain⟨a,b⟩:=out;obtain⟨x,y,z⟩:=r1.back s hd a sb;exact⟨x,y,b⟩
 | n sv =>
  obtain⟨Hb,l,o,a,b,c,e1,e2,e3⟩:=out;obtain⟨x,y,z⟩:=r1.back s hd a sb;exact⟨Hb,l,o,x,y,b,c.keep z λ_ _ _ _ e=>e,e1,e2,e3⟩
end
section
variable {K:ac}{F:Fr}{σ σ':St}{ρ ρ':En}{H H':Hp}
open Classical in
noncomputable def rebase (F:Fr)(σ:St)(ρ:En)(H:Hp)(pin:Nat->Bool):Fr :=
 ⟨λa=>if bF σ ρ a/\F.H0 a=none then none else H a,F.Z,λa=>F.M a/\bF σ ρ a,F.I,λi a=>F.P i a∨(pin i=true/\σ[i]? = some (some (.ref a)))⟩
open Classical in
theorem g8 {pin:Nat->Bool}{a:Addr}{o:HO}(h:¬(bF σ ρ a/\F.H0 a=none))(e:H a=some o):(rebase F σ ρ H pin).H0 a=some o:=by
 show(if bF σ ρ a/\F.H0 a=none then none else H a)=some o;rw[if_neg h];exact e
open Classical in
theorem uo {pin:Nat->Bool}{a:Addr}{o:HO}(e:(rebase F σ ρ H pin).H0 a=some o):H a=some o:=by
 have e':(if bF σ ρ a/\F.H0 a=none then none else H a)=some o:=e;split at e'
 ·cases e'
 ·exact e'
open Classical in
theorem Rel.rebase (r:Rel K F σ ρ H)(pin:Nat->Bool):Rel K (L2.rebase F σ ρ H pin) σ ρ H where
 len:=r.len
 fr:=λa o e _=>uo e
 zl:=r.zl
 zo:=r.zo
 ow:=λi a hi e=>by
  rcases r.ow i a hi e with⟨h1,h2⟩ | h
  ·exact .inl ⟨h1,h2,i,hi,e⟩
  ·refine .inr ?_;show(if bF σ ρ a/\F.H0 a=none then none else H a)=none;rw[if_pos ⟨⟨i,hi,e⟩,h⟩]
 mi:=λi a h=>by
  rcases h with h | h | h
  ·exact r.mi i a (.inl h)
  ·exact r.mi i a (.inr h)
  ·exact h.2
 ml:=λa h=>by
  cases e:H a with
  | none=>exact absurd e (r.ma a h.1)
  | some o=>rw[g8 (λz=>r.ml a h.1 z.2) e];exact λz=>nomatch z
 ma:=λa h=>r.ma a h.1
 nd:=r.nd
 sl:=r.sl
theorem Rel.unbase {pin:Nat->Bool}(r:Rel K F σ ρ H)(r':Rel K (L2.rebase F σ ρ H pin) σ' ρ' H'):Rel K F σ' ρ' H'/\Same (hid H (hs F σ ρ)) (hid H' (hs F σ' ρ')):=by
 refine⟨⟨r'.len,λa o e n=>?_,r'.zl,r'.zo,λi a hi e=>?_,λi a h=>r'.mi i a (h.imp id .inl),r.ml,λa h=>?_,r'.nd,r'.sl⟩,bB λa o e n=>?_⟩
 ·exact r'.fr a o (g8 (λz=>by rw[e]at z;cases z.2) (r.fr a o e n)) λz=>n z.1
 ·rcases r'.ow i a hi e with⟨h1,h2⟩ | h
  ·exact .inl ⟨h1,h2.1⟩
  ·right;cases h0:F.H0 a with
   | none=>rfl
   | some o =>
    exfalso;have nn:H a≠none:=by
     by_cases q:F.M a
     ·exact r.ma a q
     ·rw[r.fr a o h0 q];exact λz=>nomatch z
    cases e2:H a with
    | none=>exact nn e2
    | some u =>
     rw[g8 (λz=>by rw[h0]at z;cases z.2) e2]at h;cases h
 ·by_cases q:bF σ ρ a
  ·exact r'.ma a ⟨h,q⟩
  ·cases e:H a with
   | none=>exact absurd e (r.ma a h)
   | some o=>rw[r'.fr a o (g8 (λz=>q z.1) e) λz=>q z.2];exact λz=>nomatch z
 ·have n':¬bF σ ρ a:=λz=>n (.inr z);have e0:=g8 (F:=F) (pin:=pin) (λz=>n' z.1) e;refine⟨r'.fr a o e0 λz=>n' z.2,λz=>?_⟩;rcases z with z | ⟨i,hi,ei⟩
  ·exact n (.inl z)
  ·rcases r'.ow i a hi ei with⟨_,h2⟩ | h
   ·exact n' h2.2
   ·rw[e0]at h;cases h
theorem RelR.unbase {pin:Nat->Bool}{v:V}{rr:R}(r:Rel K F σ ρ H)(r':RelR K (L2.rebase F σ ρ H pin) σ' ρ' v H' rr):RelR K F σ' ρ' v H' rr:=by
 cases rr with
 | d d=>exact⟨(r.unbase r'.1).1,r'.2⟩
 | o d=>exact⟨(r.unbase r'.1).1,r'.2⟩
 | t d=>exact⟨(r.unbase r'.1).1,r'.2⟩
 | x d=>exact⟨(r.unbase r'.1).1,r'.2⟩
 | n s =>
  obtain⟨Hb,l,o,a,b,c,e⟩:=r';exact⟨Hb,l,o,(r.unbase a).1,b,c,e⟩
end
structure qY (K:ac)(F:Fr)(D:Ends)(e:AEnds):Prop where
 nx:∀ σ' ρ' H',e.nx ρ'->Rel K F σ' ρ' H'->D.nx σ' H'
 bk:∀ σ' ρ' H',e.bk ρ'->Rel K F σ' ρ' H'->D.bk σ' H'
 ct:∀ σ' ρ' H',e.ct ρ'->Rel K F σ' ρ' H'->D.ct σ' H'
 rt:∀ σ' ρ' r v H',e.rt r ρ'->RelR K F σ' ρ' v H' r->D.rt v H'
def TSok (K:ac)(pr:Nat->Bool)(t:TS)(a:AS):Prop:=∀F σ ρ H D e,(∀i a,F.pin i a->pr i=true)->Rel K F σ ρ H->a e ρ->qY K F D e->t D σ H
abbrev AG:=D->En->(En->Prop)->Prop
abbrev AGs:=List D->En->(En->Prop)->Prop
def TGok (K:ac)(pr:Nat->Bool)(g:TG)(ag:AG):Prop:=∀F σ ρ H v d k Q,(∀i a,F.pin i a->pr i=true)->Rel K F σ ρ H->RepD K (hid H (hs F σ ρ)) v d->ag d ρ k ->
 (∀ σ' ρ',k ρ'->Rel K F σ' ρ' H->σ'.length=σ.length->(∀i,pr i=true->σ'[i]? = σ[i]?)->(∀i,(gt ρ' i).own=true->(gt ρ i).own=true/\σ'[i]? = σ[i]?)->Q σ' H)->g v σ H Q
def qW (K:ac)(pr:Nat->Bool)(n:Nat)(g:TGs)(ag:AGs):Prop:=(∀ds ρ k,ag ds ρ k->ds.length=n)/\∀F σ ρ H vs ds k Q,(∀i a,F.pin i a->pr i=true)->Rel K F σ ρ H->RepDs K (hid H (hs F σ ρ)) vs ds->ag ds ρ k ->
 (∀ σ' ρ',k ρ'->Rel K F σ' ρ' H->σ'.length=σ.length->(∀i,pr i=true->σ'[i]? = σ[i]?)->(∀i,(gt ρ' i).own=true->(gt ρ i).own=true/\σ'[i]? = σ[i]?)->Q σ' H)->g vs σ H Q
section
variable {K:ac}{pr:Nat->Bool}{t u:TS}{a b:AS}{te:TE}{ae:AE}{tt:TT}{at':AT}
theorem ph {F:Fr}{i:Nat}(hp:∀i a,F.pin i a->pr i=true)(h:pr i=false):∀a,¬F.pin i a:=λa z=>by rw[hp i a z]at h;cases h
def fo (i:Nat):AG:=λd ρ k=>k (pt ρ i (.vl d))
theorem aF {i:Nat}(h:pr i=false):TGok K pr (pK i) (fo i):=by
 intro F σ ρ H v d k Q hp r hd ha kk;refine kk _ _ ha (r.set hd (ph hp h)) (by rw[xF]) (λj hj=>?_) λj hj=>?_
 ·rw[pc];rintro rfl;rw[h]at hj;cases hj
 ·obtain⟨ne,q⟩:=cU rfl hj;exact⟨q,by rw[pc ne]⟩
def gaNil:AGs:=λds ρ k=>match ds with
 | []=>k ρ
 | _=>False
def fO (g:AG)(gs:AGs):AGs:=λds ρ k=>match ds with
 | d::r=>g d ρ λρ1=>gs r ρ1 k
 | []=>False
theorem bK:qW K pr 0 gNil gaNil:=by
 refine⟨λds ρ k h=>?_,?_⟩
 ·cases ds with
  | nil=>rfl
  | cons _ _=>exact h.elim
 intro F σ ρ H vs ds k Q hp r hd ha kk;cases ds with
 | cons _ _=>exact ha.elim
 | nil =>
  cases vs with
  | nil=>exact⟨rfl,kk _ _ ha r rfl (λ_ _=>rfl) λ_ h=>⟨h,rfl⟩⟩
  | cons v vs=>unfold RepDs at hd;exact hd.elim
theorem sJ {F:Fr}{σ σ':St}{ρ ρ':En}{H:Hp}(h:∀i,(gt ρ' i).own=true->(gt ρ i).own=true/\σ'[i]? = σ[i]?):Same (hid H (hs F σ ρ)) (hid H (hs F σ' ρ')):=bB λa o e n=>⟨e,λz=>by
 rcases z with z | ⟨i,hi,ei⟩
 ·exact n (.inl z)
 ·obtain⟨q1,q2⟩:=h i hi;exact n (.inr ⟨i,q1,q2▸ei⟩)⟩
theorem aM {g:TG}{gs:TGs}{ag:AG}{ags:AGs}{n:Nat}(h:TGok K pr g ag)(hs':qW K pr n gs ags)(gl:∀d ρ k,ag d ρ k->∃ ρ',k ρ'):qW K pr (n+1) (u6 g gs) (fO ag ags):=by
 refine⟨λds ρ k ha=>?_,?_⟩
 ·cases ds with
  | nil=>exact ha.elim
  | cons d ds=>obtain⟨ρ',q⟩:=gl _ _ _ ha;rw[wn,hs'.1 _ _ _ q]
 intro F σ ρ H vs ds k Q hp r hd ha kk;cases ds with
 | nil=>exact ha.elim
 | cons d ds =>
  cases vs with
  | nil=>unfold RepDs at hd;exact hd.elim
  | cons v vs =>
   unfold RepDs at hd;refine⟨v,vs,rfl,h F σ ρ H v d _ _ hp r hd.1 ha λσ1 ρ1 h1 r1 l1 p1 o1=>?_⟩;refine hs'.2 F σ1 ρ1 H vs ds _ _ hp r1 (hd.2.same (sJ o1)) h1 λσ2 ρ2 h2 r2 l2 p2 o2=>?_;refine kk _ _ h2 r2 (l2.trans l1) (λi hi=>(p2 i hi).trans (p1 i hi)) λi hi=>?_;obtain⟨a1,a2⟩:=o2 i hi;obtain⟨b1,b2⟩:=o1 i a1;exact⟨b1,a2.trans b2⟩
def nR (n:Nat)(gs:AGs):AG:=λd ρ k=>match d with
 | .tup ds=>gs ds ρ k
 | _=>False
theorem bq {i:Nat}{d:D}{ρ:En}{k:En->Prop}(h:fo i d ρ k):∃ ρ',k ρ':=⟨_,h⟩
theorem bW {gs:TGs}{ags:AGs}{n:Nat}(hs':qW K pr n gs ags):TGok K pr (gTup K n gs) (nR n ags):=by
 intro F σ ρ H v d k Q hp r hd ha kk;unfold nR at ha;split at ha
 ·rename_i ds;unfold RepD at hd;obtain⟨p,vs,rfl,sq,rd⟩:=hd;exact⟨p,vs,rfl,bQ.seqT sq.sq,by rw[rd.length];exact hs'.1 _ _ _ ha,hs'.2 F σ ρ H vs ds k Q hp r rd ha kk⟩
 ·exact ha.elim
def aNext:AS:=λe ρ=>e.nx ρ
def aSeq (a b:AS):AS:=λe ρ=>a {e with nx:=b e} ρ
theorem ba:TSok K pr tNext aNext:=λF σ ρ H D e hp r h k=>k.nx _ _ _ h r
theorem aw (ha:TSok K pr t a)(hb:TSok K pr u b):TSok K pr (tSeq t u) (aSeq a b):=λF σ ρ H D e hp r h k =>
 ha F σ ρ H _ _ hp r h ⟨λσ' ρ' H' h' r'=>hb F σ' ρ' H' D e hp r' h' k,k.bk,k.ct,k.rt⟩
def vT (x:AE):AS:=λe ρ=>x ρ λ_ ρ1=>e.nx ρ1
theorem cB (h:TEok K te ae):TSok K pr (rZ te) (vT ae):=λF σ ρ H D e hp r ha k =>
 h F σ ρ H _ _ r ha λr1 ρ1 v H1 h1 o=>k.nx _ _ _ h1 o.inF.1
def aRet (x:AE):AS:=λe ρ=>x ρ e.rt
theorem bS (h:TEok K te ae):TSok K pr (tRet te) (aRet ae):=λF σ ρ H D e hp r ha k =>
 h F σ ρ H _ _ r ha λr1 ρ1 v H1 h1 o=>k.rt _ _ _ _ _ h1 o.rel
def aIfS (c:AT)(a b:AS):AS:=λe ρ=>c ρ λk ρ1=>if k=true then a e ρ1 else b e ρ1
theorem ck (hc:TTok K tt at')(ha:TSok K pr t a)(hb:TSok K pr u b):TSok K pr (tIfS tt t u) (aIfS at' a b):=by
 intro F σ ρ H D e hp r h k;refine hc F σ ρ H _ _ r h λc ρ1 H1 h1 r1 k1=>?_;cases c with
 | true=>exact ha F σ ρ1 H1 D e hp r1 h1 k
 | false=>exact hb F σ ρ1 H1 D e hp r1 h1 k
def stS (i:Nat):R->En->(En->Prop)->Prop
 | .d d,ρ,k=>k (pt ρ i (.vl d))
 | .n s,ρ,k=>k (pt ρ i s)
 | .o j,ρ,k=>(match gt ρ j with
  | .ow ds=>k (pt (pt ρ j (.vl (.lst ds))) i (.vl (.lst ds)))
  | .vl d=>k (pt ρ i (.vl d))
  | .ex C fs=>k (pt ρ i (.ex C fs))
  | .ob C fs=>k (pt ρ i (.ob C fs))
  | _=>False)
 | .t _,_,_=>False
 | .x s,ρ,k=>k (pt ρ i s)
def aSet (i:Nat)(x:AE):AS:=λe ρ=>x ρ λr ρ1=>stS i r ρ1 e.nx
theorem rp {i:Nat}(hi:pr i=false)(h:TEok K te ae):TSok K pr (λD σ H=>te σ H λv H'=>D.nx (σ.set i (some v)) H') (aSet i ae):=by
 intro F σ ρ H D e hp r ha k;refine h F σ ρ H _ _ r ha λr1 ρ1 v H1 h1 o=>?_;have np:=ph hp hi;cases r1 with
 | d d=>exact k.nx _ _ _ h1 (o.1.set o.2.2 np)
 | t n=>exact h1.elim
 | x s=>exact k.nx _ _ _ h1 (o.1.setS o.2.2.1 o.2.2.2 np)
 | n s =>
  obtain⟨Hb,l,u,a1,a2,a3,a4,a5,rfl,rfl⟩:=o;exact k.nx _ _ _ h1 (a1.setF a3 a4 a5 np)
 | o j =>
  obtain⟨r1,k1,ej⟩:=o;have h2:(match gt ρ1 j with
   | .ow ds=>e.nx (pt (pt ρ1 j (.vl (.lst ds))) i (.vl (.lst ds)))
   | .vl d=>e.nx (pt ρ1 i (.vl d))
   | .ex C fs=>e.nx (pt ρ1 i (.ex C fs))
   | .ob C fs=>e.nx (pt ρ1 i (.ob C fs))
   | _=>False):=h1
  clear h1;split at h2
  ·rename_i ds hg;obtain⟨l,el,r2,k2,rd⟩:=r1.frz hg;rw[ej]at el;injection el with el;injection el with el;subst el;exact k.nx _ _ _ h2 (r2.set rd np)
  ·rename_i d hg;have q:=r1.sl j;rw[hg]at q;obtain⟨x,e1,e2⟩:=q;rw[ej]at e1;injection e1 with e1;injection e1 with e1;subst e1;exact k.nx _ _ _ h2 (r1.set e2 np)
  ·rename_i C fs hg;have q:=r1.sl j;rw[hg,ej]at q;exact k.nx _ _ _ h2 (r1.setS rfl q np)
  ·rename_i C fs hg;have q:=r1.sl j;rw[hg,ej]at q;exact k.nx _ _ _ h2 (r1.setS rfl q np)
  ·exact h2.elim
theorem aT {i:Nat}(h:TEok K te ae)(hi:pr i=false):TSok K pr (tAsg te (pK i)) (aSet i ae):=rp hi h
theorem jx {i n:Nat}{js:List Nat}{wi:TI}{g:TG}{tc:TT}(h:TEok K (ka n js wi g tc te) ae)(hi:pr i=false):TSok K pr (λD σ H=>ka n js wi g tc te σ H λv H'=>D.nx (σ.set i (some v)) H') (aSet i ae):=rp hi h
def aAsg (x:AE)(g:AG):AS:=λe ρ=>x ρ λr ρ1=>sto [r.frz] ρ1 λds ρ2=>match ds with
 | [d]=>g d ρ2 e.nx
 | _=>False
theorem f_ {g:TG}{ag:AG}(h:TEok K te ae)(hg:TGok K pr g ag):TSok K pr (tAsg te g) (aAsg ae ag):=by
 intro F σ ρ H D e hp r ha k;refine h F σ ρ H _ _ r ha λr1 ρ1 v H1 h1 o=>?_;obtain⟨r',k1,i1⟩:=o.inF;obtain⟨ds,ρ2,h2,r2,k2,rd⟩:=fD r' (.cons i1 .nil) h1;split at h2
 ·rename_i d;unfold RepDs at rd;exact hg F σ ρ2 H1 v d _ _ hp r2 rd.1 h2 λσ3 ρ3 h3 r3 _ _ _=>k.nx _ _ _ h3 r3
 ·exact h2.elim
abbrev AI:=En->(List D->(En->Prop)->En->Prop)->Prop
def WkAt (K:ac)(S:Addr->Prop)(H:Hp)(J:It)(ds:List D):Prop:=∀k:Nat,(∀d,ds[k]? = some d->J.go k H/\∀x H',J.yld k H x H'->Same H H'/\RepD K (hid H' S) x d)/\(ds.length<=k->J.stop k H)
def TIok (K:ac)(pin:Nat->Bool)(wi:TI)(ai:AI):Prop:=∀F σ ρ H q Rk,Rel K F σ ρ H->ai ρ q->(∀ds c ρ' J H',q ds c ρ'->Rel K F σ ρ' H'->Kp σ ρ ρ' H H' ->
 (∀ σ2 ρ2 H2,Same (hid H' (hs F σ ρ')) (hid H2 (hs F σ2 ρ2))->(∀i,SvOk K (hid H2 (hs F σ2 ρ2)) H2 σ2[i]? (gt ρ2 i))->(∀j a,pin j=true->σ[j]? = some (some (.ref a))->σ2[j]? = some (some (.ref a)))->(∀a,hs F σ2 ρ2 a->Nt H2 a)->c ρ2->WkAt K (hs F σ2 ρ2) H2 J ds)->Rk J H')->wi σ H Rk
def rngD (lo:Int)(n:Nat):List D:=(wF n).map λ(i:Nat)=>D.int (lo+(i:Nat))
theorem cb (lo:Int)(n:Nat):(rngD lo n).length=n:=by simp[rngD]
theorem tW {S:Addr->Prop}{H:Hp}{lo:Int}{n:Nat}:WkAt K S H (Itr lo n) (rngD lo n):=by
 intro k;constructor
 ·intro d h;unfold rngD at h;rw[sB]at h;obtain⟨j,e1,e2⟩:=wt.mp h;have lt:k<n:=by
   rcases wu k n with q | q
   ·exact q
   ·rw[xh (by simpa using q)]at e1;cases e1
  rw[xg lt]at e1;cases e1
  refine⟨lt,λx H' z=>⟨z.1▸Same.refl H,?_⟩⟩;rw[z.2,<- e2];unfold RepD;rfl
 ·intro h;rw[cb]at h;exact h
def vQ (as:AA):AI:=λρ q=>as ρ λrs ρ1=>match rs with
 | [.d (.int j)]=>(-(2^62)<=j/\j<2^62)/\q (rngD 0 j.toNat) (λ_=>True) ρ1
 | _=>False
theorem cg {pin:Nat->Bool}{ta:TA}{as:AA}(h:TAok K ta as):TIok K pin (u1 ta) (vQ as):=by
 intro F σ ρ H q Rk r ha k;refine h F σ ρ H _ _ r ha λrs ρ1 vs H1 h1 r1 i1 k1=>?_;split at h1
 ·obtain⟨x,rfl,i⟩:=i1.one;exact⟨_,by rw[i.int],h1.1.1,h1.1.2,k _ _ _ _ _ h1.2 r1 k1 λ_ _ _ _ _ _ _ _=>tW⟩
 ·exact h1.elim
def iSeq (K:ac)(tl:TE):TI:=λσ H R=>tl σ H λx H1=>∃a,x = .ref a/\(((∃xs,SqL K H1 a xs)/\R (Itl K a) H1)∨((∃xs,SqT K H1 a xs)/\R (Itt K a) H1))
theorem uz {X:Cx}{tg l:Expr}{tl:TE}(hl:PE X l tl):PI X tg l (iSeq X.K tl):=by
 intro pins s σ H R I h;refine thn (hl pins s σ H _ I h) λv s1 ⟨x,H1,I1,r1,q1⟩=>?_;obtain⟨a,e,⟨⟨xs,hq⟩,q⟩ | ⟨⟨xs,hq⟩,q⟩⟩:=q1
 ·subst e;cases r1
  obtain⟨its,rv,p,hz⟩:=I1.list hq;refine wpAny_pyIter_list p.isList ?_;refine⟨s1.heap.objs.size,[s1.heap.objs.size],_,_,H1,rfl,I1.kept (t':=s1.toks) λb o e=>bv _ e,n6 a _,⟨_,wa _ rfl,rfl,rfl⟩,λb hb=>?_,q⟩;have e:b=s1.heap.objs.size:=by simpa using hb
  subst e;exact I1.fpOk (ms _) (I1.hok.fresh (ms _))
 ·subst e;cases r1
  obtain⟨its,rv,p,hz⟩:=I1.tuple hq;refine zN (show s1.heap.IsTuple a its.toArray from p) ?_;refine⟨s1.heap.objs.size,[s1.heap.objs.size],_,_,H1,rfl,I1.kept (t':=s1.toks) λb o e=>bv _ e,mY a _,⟨_,wa _ rfl,rfl,rfl⟩,λb hb=>?_,q⟩;have e:b=s1.heap.objs.size:=by simpa using hb
  subst e;exact I1.fpOk (ms _) (I1.hok.fresh (ms _))
theorem gj (K:ac){X:Cx}{tg l:Expr}{tl:TE}(hl:PE X l tl)(hK:X.K=K:=by rfl):PI X tg l (iSeq K tl):=by subst hK;exact uz hl
theorem qZ {S:Addr->Prop}{H:Hp}{a:Addr}{vs:List V}{ds:List D}(h:SqL K H a vs)(rd:RepDs K (hid H S) vs ds):WkAt K S H (Itl K a) ds:=by
 intro k;constructor
 ·intro d e;obtain⟨v,e1,rv⟩:=rd.get e;refine⟨⟨vs,v,h,e1⟩,λx H' z=>⟨z.1▸Same.refl H,?_⟩⟩;have:=z.2 vs h;rw[e1]at this;cases this;rw[z.1];exact rv
 ·intro z;exact⟨vs,h,by rw[rd.length];exact z⟩
theorem tV {S:Addr->Prop}{H:Hp}{a:Addr}{vs:List V}{ds:List D}(h:SqT K H a vs)(rd:RepDs K (hid H S) vs ds):WkAt K S H (Itt K a) ds:=by
 intro k;constructor
 ·intro d e;obtain⟨v,e1,rv⟩:=rd.get e;refine⟨⟨vs,v,h,e1⟩,λx H' z=>⟨z.1▸Same.refl H,?_⟩⟩;have:=z.2 vs h;rw[e1]at this;cases this;rw[z.1];exact rv
 ·intro z;exact⟨vs,h,by rw[rd.length];exact z⟩
def vN (pin:Nat->Bool)(x:AE):AI:=λρ q=>x ρ λr ρ1=>match r.frz with
 | .d (.lst ds)=>q ds (λ_=>True) ρ1
 | .d (.tup ds)=>q ds (λ_=>True) ρ1
 | .o i=>(match gt ρ1 i with
  | .ow ds=>pin i=true/\q ds (λρ2=>gt ρ2 i = .ow ds) ρ1
  | _=>False)
 | _=>False
theorem eV {pin:Nat->Bool}(h:TEok K te ae):TIok K pin (iSeq K te) (vN pin ae):=by
 intro F σ ρ H q Rk r ha k;refine h F σ ρ H _ _ r ha λr1 ρ1 x H1 h1 o1=>?_;obtain⟨r',k1,i1⟩:=o1.inF;split at h1
 ·rename_i ds e;rw[e]at i1;have rd:RepD K _ x (.lst ds):=i1;unfold RepD at rd;obtain⟨a,vs,rfl,sq,rd⟩:=rd;refine⟨a,rfl,.inl ⟨⟨vs,bQ.seq (StL.sq sq)⟩,k _ _ _ _ _ h1 r' k1 λσ2 ρ2 H2 sm _ _ _ _=>?_⟩⟩;exact qZ (bQ.seq (sm.seq (StL.sq sq))) (rd.same sm)
 ·rename_i ds e;rw[e]at i1;have rd:RepD K _ x (.tup ds):=i1;unfold RepD at rd;obtain⟨a,vs,rfl,sq,rd⟩:=rd;refine⟨a,rfl,.inr ⟨⟨vs,bQ.seqT sq.sq⟩,k _ _ _ _ _ h1 r' k1 λσ2 ρ2 H2 sm _ _ _ _=>?_⟩⟩;exact tV (bQ.seqT (sm.seqT sq.sq)) (rd.same sm)
 ·rename_i i e;rw[e]at i1;have ei:σ[i]? = some (some x):=i1;split at h1
  ·rename_i ds hg;have s:=r'.sl i;rw[hg,ei]at s;obtain⟨a,vs,e1,hl,rd⟩:=s;injection e1 with e1;injection e1 with e1;subst e1;refine⟨a,rfl,.inl ⟨⟨vs,SqL.of hl⟩,k _ _ _ _ _ h1.2 r' k1 λσ2 ρ2 H2 sm sv pn _ hc=>?_⟩⟩;have s2:=sv i;rw[hc,pn i a h1.1 ei]at s2;obtain⟨a',vs',e2,hl',rd'⟩:=s2;injection e2 with e2;injection e2 with e2;injection e2 with e2;subst e2;exact qZ (SqL.of hl') rd'
  ·exact h1.elim
 ·exact h1.elim
def forA (c:En->Prop)(g:AG)(b:AS)(e:AEnds):List D->En->Prop
 | [],ρ=>c ρ/\e.nx ρ
 | d::ds,ρ=>c ρ/\g d ρ λρ1=>b {nx:=forA c g b e ds,ct:=forA c g b e ds,bk:=e.nx,rt:=e.rt} ρ1
def aFor (i:AI)(g:AG)(b:AS):AS:=λe ρ=>i ρ λds c ρ1=>forA c g b e ds ρ1
theorem cA {pin:Nat->Bool}{wi:TI}{ai:AI}{g:TG}{ag:AG}(hi:TIok K pin wi ai)(hg:TGok K (λj=>pr j||pin j) g ag)(hb:TSok K (λj=>pr j||pin j) t a):TSok K pr (tFor wi g t) (aFor ai ag a):=by
 intro F σ ρ H D e hp r ha k;refine hi F σ ρ H _ _ r ha λds c ρ1 J H1 h1 r1 k1 wk=>?_;have hp':∀i a,(rebase F σ ρ1 H1 pin).pin i a->(pr i||pin i)=true:=λi a h=>by
  rcases h with h | h | h
  ·rw[hp i a (.inl h)];rfl
  ·rw[hp i a (.inr h)];rfl
  ·rw[h.1];cases pr i <;> rfl
 have ek:qY K (rebase F σ ρ1 H1 pin) D e:=⟨λ_ _ _ h' r'=>k.nx _ _ _ h' (r1.unbase r').1,λ_ _ _ h' r'=>k.bk _ _ _ h' (r1.unbase r').1,λ_ _ _ h' r'=>k.ct _ _ _ h' (r1.unbase r').1,λ_ _ _ _ _ h' r'=>k.rt _ _ _ _ _ h' (RelR.unbase r1 r')⟩
 refine⟨λi m σ' H'=>∃ ρ',m=ds.length - i/\i<=ds.length/\Rel K (rebase F σ ρ1 H1 pin) σ' ρ' H'/\forA c ag a e (ds.drop i) ρ',⟨ds.length,ρ1,rfl,wp _,r1.rebase pin,h1⟩,?_⟩;rintro i m σ' H' ⟨ρ',rfl,hl,r',h'⟩;have w:c ρ'->WkAt K (hs F σ' ρ') H' J ds:=λhc=>wk σ' ρ' H' (r1.unbase r').2 r'.sl (λj x hj ej=>r'.mi j x (.inr (.inr ⟨hj,ej⟩))) (λa z=>qI r' z) hc;rcases wu i ds.length with q | q
 ·right;rw[xp q]at h';unfold forA at h';obtain⟨hc,h'⟩:=h';obtain⟨go,yld⟩:=(w hc i).1 ds[i] (dL q);refine⟨go,λσ2 H2=>∃ ρ2,Rel K (rebase F σ ρ1 H1 pin) σ2 ρ2 H2/\forA c ag a e (ds.drop (i+1)) ρ2,λσ2 H2 ⟨ρ2,r2,h2⟩=>⟨ds.length - (i+1),by omega,ρ2,rfl,q,r2,h2⟩,λx H2 hy=>?_⟩;obtain⟨sm,rd⟩:=yld x H2 hy;refine hg _ σ' ρ' _ x _ _ _ hp' (r'.grow sm) rd h' λσ3 ρ3 h3 r3 _ _ _=>?_;exact hb _ σ3 ρ3 _ _ _ hp' r3 h3 ⟨λσ' ρ' H' h' r'=>⟨ρ',r',h'⟩,ek.nx,λσ' ρ' H' h' r'=>⟨ρ',r',h'⟩,ek.rt⟩
 ·left;rw[xB q]at h';unfold forA at h';obtain⟨hc,h'⟩:=h';exact⟨(w hc i).2 q,ek.nx _ _ _ h' r'⟩
end
def blkE (n:Nat)(js:List Nat)(ρ:En):En:=im n .un++js.map (gt ρ)
def blkR (n:Nat)(js:List Nat):List R:=im n (R.t "")++js.map R.o
theorem cz (n:Nat)(js:List Nat)(ρ:En):(blkR n js).map (cN ρ)=blkE n js ρ:=by
 unfold blkR blkE;rw[wJ,As,yw];rfl
theorem jX (js:List Nat):∀n,dis (blkR n js)=dis (js.map R.o)
 | 0=>rfl
 | n+1=>by
  show dis (R.t "" :: blkR n js)=_;exact jX js n
theorem kU (js:List Nat)(ρ:En)(n:Nat):∀ss:En,ss.length=n+js.length->back ρ (blkR n js) ss=back ρ (js.map R.o) (ss.drop n):=by
 induction n with
 | zero=>intro ss _;rfl
 | succ n ih =>
  intro ss h;cases ss with
  | nil=>simp at h;omega
  | cons s ss=>exact ih ss (by simp at h;omega)
theorem mW {n:Nat}{js:List Nat}{ρ:En}{i:Nat}(h:(gt (blkE n js ρ) i).own=true):n<=i:=by
 rcases wu i n with q | q
 ·exfalso;have:∀(n i:Nat) (x:En),i<n->gt (im n Sv.un++x) i = .un:=by
   intro n;induction n with
   | zero=>intro i x h;omega
   | succ n ih =>
    intro i x h;cases i with
    | zero=>rfl
    | succ i=>exact ih i x (by omega)
  unfold blkE at h;rw[this n i _ q]at h;cases h
 ·exact q
section
variable {K:ac}{F:Fr}{σ σ':St}{ρ ρ':En}{H H':Hp}
theorem mV (n:Nat)(js:List Nat):Srcs K F σ ρ H (bst n σ js) (blkR n js):=by
 unfold bst blkR;induction n with
 | zero =>
  induction js with
  | nil=>exact .nil
  | cons j js ih=>exact .cons rfl ih
 | succ n ih=>exact .cons trivial ih
theorem jO:∀(n i:Nat) (ρ:En),gt (ρ.drop n) i=gt ρ (n+i)
 | 0,i,ρ=>by simp
 | n+1,i,[]=>by simp[gt]
 | n+1,i,s::ρ=>by rw[List.drop_succ_cons,jO n i ρ,Nat.add_right_comm];rfl
theorem mL:∀(n i:Nat) (x:En),gt (im n Sv.un++x) i=if i<n then .un else gt x (i - n)
 | 0,i,x=>by simp
 | n+1,0,x=>by simp[xD,gt]
 | n+1,i+1,x=>by
  show gt (im n Sv.un++x) i=_;rw[mL n i x];by_cases h:i<n
  ·rw[if_pos h,if_pos (by omega)]
  ·rw[if_neg h,if_neg (by omega)];congr 1;omega
theorem Rel.forget {n:Nat}(r:Rel K F σ ρ H)(hn:n<=σ.length)(hp:∀i a,F.pin i a->n<=i):Rel K F (im n none++σ.drop n) (im n .un++ρ.drop n) H/\Same (hid H (hs F σ ρ)) (hid H (hs F (im n none++σ.drop n) (im n .un++ρ.drop n))):=by
 have g:∀i,gt (im n .un++ρ.drop n) i=if i<n then .un else gt ρ i:=λi=>by
  rw[mL];split
  ·rfl
  ·rw[jO];congr 1;omega
 have s:∀i,n<=i->(im n none++σ.drop n)[i]? = σ[i]?:=λi h=>by
  rw[xA (by simpa using h),xH,xK];congr 1;omega
 have own':∀i,(gt (im n .un++ρ.drop n) i).own=true->n<=i/\(gt ρ i).own=true:=λi h=>by
  rw[g]at h;split at h
  ·cases h
  ·exact⟨by omega,h⟩
 have sub:∀a,bF (im n none++σ.drop n) (im n .un++ρ.drop n) a->bF σ ρ a:=λa ⟨i,hi,e⟩=>by
  obtain⟨h1,h2⟩:=own' i hi;rw[s i h1]at e;exact⟨i,h2,e⟩
 have vis:Same (hid H (hs F σ ρ)) (hid H (hs F (im n none++σ.drop n) (im n .un++ρ.drop n))):=bB λa o e n=>⟨e,λz=>n (z.imp id (sub a))⟩
 refine⟨⟨by have:=r.len;simp;omega,r.fr,r.zl,λa h=>r.zo a (sub a h),λi a hi e=>?_,λi a h=>?_,r.ml,r.ma,λi j a hi hj ei ej=>?_,λi=>?_⟩,vis⟩
 ·obtain⟨h1,h2⟩:=own' i hi;rw[s i h1]at e;exact r.ow i a h2 e
 ·rw[s i (hp i a h)];exact r.mi i a h
 ·obtain⟨h1,h2⟩:=own' i hi;obtain⟨h3,h4⟩:=own' j hj;rw[s i h1]at ei;rw[s j h3]at ej;exact r.nd i j a h2 h4 ei ej
 ·rw[g];split
  ·trivial
  ·rw[s i (by omega)];exact(r.sl i).keep vis λ_ _ _ _ e=>e
end
def fh (n:Nat)(js:List Nat)(c:En->Prop)(g:AG)(tc:AT)(te:AE)(q:List D->En->Prop):List D->List D->En->Prop
 | [],acc,ρ=>c ρ/\q acc ρ
 | d::ds,acc,ρ=>c ρ/\g d (blkE n js ρ) λρ1=>tc ρ1 λb ρ2=>if b=true then te ρ2 λr ρ3=>sto [r.frz] ρ3 λes ρ4=>fh n js c g tc te q ds (acc++es) (back ρ (js.map R.o) (ρ4.drop n))else fh n js c g tc te q ds acc (back ρ (js.map R.o) (ρ2.drop n))
def vX (n:Nat)(js:List Nat)(i:AI)(g:AG)(tc:AT)(te:AE):AE:=λρ q=>i ρ λds c ρ1=>ds.length<=1000000/\fh n js c g tc te (λacc ρ2=>q (.f acc) ρ2) ds [] ρ1
def aAll:AT:=λρ q=>q true ρ
section
variable {K:ac}
theorem eU:TTok K tAll aAll:=λF σ ρ H q Q r h k=>k _ _ _ h r .refl
theorem oy {F:Fr}{σ:St}{ρ:En}{H:Hp}{v:V}{r:R}{q:List D->En->Prop}(a:Rel K F σ ρ H)(i:InF K F σ ρ H v r)(h:sto [r] ρ q):∃d ρ',q [d] ρ'/\Rel K F σ ρ' H/\Kp σ ρ ρ' H H/\RepD K (hid H (hs F σ ρ')) v d:=by
 obtain⟨ds,ρ',h1,h2,h3,h4⟩:=fD a (.cons i .nil) h;cases ds with
 | nil=>unfold RepDs at h4;exact h4.elim
 | cons d ds =>
  unfold RepDs at h4;cases ds with
  | nil=>exact⟨d,ρ',h1,h2,h3,h4.1⟩
  | cons _ _=>obtain⟨_,z⟩:=h4;unfold RepDs at z;exact z.elim
theorem dr {n:Nat}{js:List Nat}{wi:TI}{g:TG}{tc:TT}{te:TE}{ai:AI}{ag:AG}{atc:AT}{ate:AE}(hi:TIok K (λ_=>true) wi ai)(hg:TGok K (λj=>decide (n<=j)) g ag)(hc:TTok K tc atc)(he:TEok K te ate)
  (hd:dis (js.map R.o)=true:=by rfl):TEok K (ka n js wi g tc te) (vX n js ai ag atc ate):=by
 intro F σ ρ H q Q r h k;refine hi F σ ρ H _ _ r h λds c ρ1 J H1 h1 r1 k1 wk=>?_;obtain⟨hz,h1⟩:=h1;have hd':dis (blkR n js)=true:=by rw[jX];exact hd
 refine⟨λi m ys H'=>∃ ρ' acc,m=ds.length - i/\i<=ds.length/\Rel K F σ ρ' H'/\Kp σ ρ1 ρ' H1 H'/\RepDs K (hid H' (hs F σ ρ')) ys acc/\acc.length<=i/\fh n js c ag atc ate (λacc ρ2=>q (.f acc) ρ2) (ds.drop i) acc ρ',⟨ds.length,ρ1,[],rfl,wp _,r1,.refl,.nil,wp _,h1⟩,?_⟩;rintro i m ys H' ⟨ρ',acc,rfl,hl,r',k',rd,al,h'⟩;have w:c ρ'->WkAt K (hs F σ ρ') H' J ds:=λhc=>wk σ ρ' H' k'.vis r'.sl (λ_ _ _ e=>e) (λa z=>qI r' z) hc;have yl:ys.length=acc.length:=rd.length;rcases wu i ds.length with lt | ge
 ·right;rw[xp lt]at h';unfold fh at h';obtain⟨hcc,h'⟩:=h';obtain⟨go,yld⟩:=(w hcc i).1 ds[i] (dL lt);refine⟨go,g6 (by omega),λzs H2=>∃ ρ2 acc2,Rel K F σ ρ2 H2/\Kp σ ρ1 ρ2 H1 H2/\RepDs K (hid H2 (hs F σ ρ2)) zs acc2/\acc2.length<=i+1/\fh n js c ag atc ate (λacc ρ2=>q (.f acc) ρ2) (ds.drop (i+1)) acc2 ρ2,
   λzs H2 ⟨ρ2,acc2,a1,a2,a3,a4,a5⟩=>⟨ds.length - (i+1),by omega,ρ2,acc2,rfl,lt,a1,a2,a3,a4,a5⟩,λx H2 hy=>?_⟩
  obtain⟨sm,rx⟩:=yld x H2 hy;have r0':=r';have k':Kp σ ρ1 ρ' H1 H2:=k'.trans ⟨λa o e _=>sm a o e,λ_ h=>h⟩;have rd:RepDs K (hid H2 (hs F σ ρ')) ys acc:=rd.same (bB λa o e n=>⟨sm a o e,n⟩);have r':=r0'.grow sm;have src:=mV (K:=K) (F:=F) (σ:=σ) (ρ:=ρ') (H:=H2) n js;have rb:=r'.sub src hd';have hs2:=ou r' src;rw[cz]at rb hs2;have pin:∀i a,(fe F σ ρ' H2 (bst n σ js) (blkE n js ρ')).pin i a->decide (n<=i)=true:=λi a h=>by
   rcases h with h | h
   ·exact decide_eq_true (mW h.1)
   ·exact h.elim
  have hlen:(bst n σ js).length=n+js.length:=iH;have ret:∀ σ2 ρ2 H3,Rel K (fe F σ ρ' H2 (bst n σ js) (blkE n js ρ')) σ2 ρ2 H3->σ2.length=(bst n σ js).length->σ2.drop n=capt σ js->(∀i,(gt ρ2 i).own=true->(gt (blkE n js ρ') i).own=true) ->
    Rel K F σ (back ρ' (js.map R.o) (ρ2.drop n)) H3/\Kp σ ρ' (back ρ' (js.map R.o) (ρ2.drop n)) H2 H3/\Same (hid H3 (hs (fe F σ ρ' H2 (bst n σ js) (blkE n js ρ')) σ2 ρ2)) (hid H3 (hs F σ (back ρ' (js.map R.o) (ρ2.drop n)))):=λσ2 ρ2 H3 rr hlen2 hdrop hown=>by
   obtain⟨f1,f2⟩:=rr.forget (n:=n) (by omega) λi a h=>of_decide_eq_true (pin i a h)
   rw[hdrop]at f1 f2;have f1':Rel K (fe F σ ρ' H2 (bst n σ js) ((blkR n js).map (cN ρ'))) (bst n σ js) (im n .un++ρ2.drop n) H3:=by rw[cz];exact f1
   have bk:=r'.back src hd' f1' λi hi=>by
    rw[cz];rw[mL]at hi;split at hi
    ·cases hi
    ·rename_i hni;rw[jO,show n+(i - n)=i by omega]at hi;exact hown i hi
   have ln:(im n Sv.un++ρ2.drop n).length=n+js.length:=by
    have:=rr.len;simp;omega
   rw[kU js ρ' n _ ln,z5 (by simp),cz]at bk;exact⟨bk.1,bk.2.1,f2.trans bk.2.2⟩
  refine hg _ (bst n σ js) (blkE n js ρ') H2 x _ _ _ pin rb (by rw[hs2];exact rx) h' λσ2 ρ2 h2 r2 l2 p2 o2=>?_;have hdrop:σ2.drop n=capt σ js:=by
   have:σ2.drop n=(bst n σ js).drop n:=by
    apply zI;intro i;rw[xK,xK];exact p2 (n+i) (decide_eq_true (by omega))
   rw[this];unfold bst;rw[z5 (by simp)]
  refine⟨hdrop,hc _ σ2 ρ2 H2 _ _ r2 h2 λb ρ3 H3 h3 r3 k3=>?_⟩;cases b with
  | false =>
   obtain⟨b1,b2,_⟩:=ret σ2 ρ3 H3 r3 l2 hdrop λi hi=>(o2 i (k3.sb i hi)).1
   exact⟨_,acc,b1,k'.trans b2,rd.same b2.vis,by omega,h3⟩
  | true =>
   refine he _ σ2 ρ3 H3 _ _ r3 h3 λr4 ρ4 v H4 h4 o4=>?_;obtain⟨r4',k4,i4⟩:=o4.inF;obtain⟨d,ρ5,h5,r5,k5,rv⟩:=oy r4' i4 h4;obtain⟨b1,b2,b3⟩:=ret σ2 ρ5 H4 r5 l2 hdrop λi hi=>(o2 i (k3.sb i (k4.sb i (k5.sb i hi)))).1
   exact⟨_,acc++[d],b1,k'.trans b2,(rd.same b2.vis).append (.one (rv.same b3)),by simp;omega,h5⟩
 ·left;rw[xB ge]at h';unfold fh at h';obtain⟨hcc,h'⟩:=h';refine⟨(w hcc i).2 ge,small (by omega),λl hl'=>?_⟩;exact((k.after k1).after k').new r' h' rd hl'
end
def outS:En->En->En
 | [],_=>[]
 | s::ss,ρ=>(if s.own=true then gt ρ 0 else s)::outS ss ρ.tail
theorem tm (ρ:En)(i:Nat):gt ρ.tail i=gt ρ (i+1):=by cases ρ <;> rfl
theorem mC:∀(ss ρ:En),(outS ss ρ).length=ss.length
 | [],_=>rfl
 | s::ss,ρ=>by simp[outS,mC ss]
theorem lS:∀(ss ρ:En) (i:Nat),gt (outS ss ρ) i=if(gt ss i).own=true then gt ρ i else gt ss i
 | [],ρ,i=>by simp[outS,gt,Sv.own]
 | s::ss,ρ,0=>rfl
 | s::ss,ρ,i+1=>by
  show gt (outS ss ρ.tail) i=_;rw[lS ss ρ.tail i,tm];rfl
def fin (pr:Nat->Bool):R->En->Ko->Prop
 | .d d,ρ,k=>k (.d d) ρ
 | .n s,ρ,k=>k (.n s) ρ
 | .o i,ρ,k=>(match gt ρ i with
  | .ow ds=>if pr i=true then k (.d (.lst ds)) (pt ρ i (.vl (.lst ds)))else k (.n (.ow ds)) (pt ρ i .un)
  | .vl d=>k (.d d) ρ
  | .dk kvs=>if pr i=true then False else k (.n (.dk kvs)) (pt ρ i .un)
  | .dt kvs=>if pr i=true then False else k (.n (.dt kvs)) (pt ρ i .un)
  | _=>False)
 | .t _,_,_=>False
 | .x s,ρ,k=>k (.x s) ρ
def uE (pr:Nat->Bool)(ss:En):Prop:=∀i,(gt ss i).own=true->pr i=true
section
variable {K:ac}{F:Fr}{σ σ':St}{ρ ρ':En}{H H':Hp}
open Classical in
noncomputable def del (H:Hp)(l:Addr):Hp:=λa=>if a=l then none else H a
open Classical in
theorem gV {l:Addr}:del H l l=none:=by unfold del;rw[if_pos rfl]
open Classical in
theorem i_ {a l:Addr}(h:a≠l):del H l a=H a:=by unfold del;rw[if_neg h]
theorem eP {l:Addr}{o:HO}(h:H l=some o):upd (del H l) l o=H:=by
 funext a;by_cases e:a=l
 ·subst e;rw[aX,h]
 ·rw[aI e,i_ e]
theorem Rel.take (r:Rel K F σ ρ H){i:Nat}(hi:(gt ρ i).own=true)(hm:∀a,¬F.pin i a):∃l o,H l=some o/\σ[i]? = some (some (.ref l))/\Rel K F σ (pt ρ i .un) (del H l)/\SvOk K (hid (del H l) (hs F σ (pt ρ i .un))) H (some (some (.ref l))) (gt ρ i):=by
 have s:=r.sl i;obtain⟨l,o,el,hl⟩:=s.alive hi;have own':∀j,(gt (pt ρ i .un) j).own=true->i≠j/\(gt ρ j).own=true:=λj h=>cU rfl h;have sub:∀a,bF σ (pt ρ i .un) a->bF σ ρ a/\a≠l:=λa ⟨j,hj,e⟩=>by
  obtain⟨ij,hj⟩:=own' j hj;exact⟨⟨j,hj,e⟩,λz=>ij (r.nd i j l hi hj el (z▸e))⟩
 have ol:bF σ ρ l:=⟨i,hi,el⟩
 have vis:Same (hid H (hs F σ ρ)) (hid (del H l) (hs F σ (pt ρ i .un))):=bB λa u e n=>by
  have al:a≠l:=λz=>n (.inr (z▸ol));exact⟨by rw[i_ al];exact e,λz=>n (z.imp id λz=>(sub a z).1)⟩
 have h0:F.H0 l=none:=by
  rcases r.ow i l hi el with h | h
  ·exact absurd (Or.inl h.1) (hm l)
  ·exact h
 refine⟨l,o,hl,el,⟨by rw[dW,r.len],λa u e n=>?_,λa z=>?_,λa h=>r.zo a (sub a h).1,λj a hj e=>r.ow j a (own' j hj).2 e,r.mi,r.ml,λa z=>?_,λj k a hj hk ej ek=>r.nd j k a (own' j hj).2 (own' k hk).2 ej ek,λj=>?_⟩,?_⟩
 ·have al:a≠l:=λz=>by rw[z,h0]at e;cases e
  rw[i_ al];exact r.fr a u e n
 ·have al:a≠l:=λq=>r.zo l ol (q▸z);unfold Nt;rw[i_ al];exact r.zl a z
 ·have al:a≠l:=λq=>r.ml a z (q▸h0);rw[i_ al];exact r.ma a z
 ·by_cases ij:i=j
  ·subst ij;rw[ir ρ i _ (h8 hi)];trivial
  ·rw[bC ρ i j _ ij];refine(r.sl j).keep vis λa u ho e h=>?_;have al:a≠l:=λz=>ij (r.nd i j l hi ho el (z▸e));rw[i_ al];exact h
 ·rw[el]at s;exact s.keep vis λ_ _ _ _ e=>e
theorem Rel.out {vs:List V}{ss:En}{Z:Addr->Prop}(r0:Rel K (F0 vs ss H Z) (vs.map some) ss H)(r:Rel K (F0 vs ss H Z) σ' ρ' H') :
  Rel K (F0 vs ss H Z) (vs.map some) (outS ss ρ') H'/\Same (hid H' (hs (F0 vs ss H Z) σ' ρ')) (hid H' (hs (F0 vs ss H Z) (vs.map some) (outS ss ρ')))/\∀i,(gt (outS ss ρ') i).own=true->(gt ss i).own=true:=by
 have own':∀i,(gt (outS ss ρ') i).own=true->(gt ss i).own=true/\(gt ρ' i).own=true:=λi h=>by
  rw[lS]at h;split at h
  ·rename_i q;exact⟨q,h⟩
  ·rename_i q;exact absurd h q
 have same:∀i a,(gt ss i).own=true->(vs.map some)[i]? = some (some (.ref a))->σ'[i]? = some (some (.ref a)):=λi a h e=>r.mi i a (.inl ⟨h,e⟩);have sub:∀a,bF (vs.map some) (outS ss ρ') a->bF σ' ρ' a/\bF (vs.map some) ss a:=λa ⟨i,hi,e⟩=>by
  obtain⟨h1,h2⟩:=own' i hi;exact⟨⟨i,h2,same i a h1 e⟩,⟨i,h1,e⟩⟩
 have v1:Same (hid H' (hs (F0 vs ss H Z) σ' ρ')) (hid H' (hs (F0 vs ss H Z) (vs.map some) (outS ss ρ'))):=bB λa o e n=>⟨e,λz=>n (z.imp id λz=>(sub a z).1)⟩
 have v2:Same (hid H (hs (F0 vs ss H Z) (vs.map some) ss)) (hid H' (hs (F0 vs ss H Z) (vs.map some) (outS ss ρ'))):=bB λa o e n=>⟨r.fr a o e λz=>n (.inr z),λz=>n (z.imp id λz=>(sub a z).2)⟩
 refine⟨⟨by rw[mC,r0.len],r.fr,r.zl,λa h=>r.zo a (sub a h).1,λi a hi e=>.inl ⟨⟨(own' i hi).1,e⟩,i,(own' i hi).1,e⟩,r0.mi,r.ml,r.ma,λi j a hi hj ei ej=>r0.nd i j a (own' i hi).1 (own' j hj).1 ei ej,λi=>?_⟩,v1,λi h=>(own' i h).1⟩;rw[lS];split
 ·rename_i q;obtain⟨l,o,e1,e2⟩:=(r0.sl i).alive q;have:=same i l q e1;rw[e1,<- this];exact(r.sl i).keep v1 λ_ _ _ _ e=>e
 ·rename_i q;exact(r0.sl i).keep v2 λl o ho=>absurd ho q
theorem kH:∀(ρ:En) (n i:Nat),gt (ρ++im n .un) i=gt ρ i
 | [],n,i=>by
  show gt (im n .un) i = .un;induction n generalizing i with
  | zero=>rfl
  | succ n ih=>cases i with
   | zero=>rfl
   | succ i=>exact ih i
 | s::ρ,n,0=>rfl
 | s::ρ,n,i+1=>kH ρ n i
theorem Rel.ext (r:Rel K F σ ρ H)(n:Nat):Rel K F (σ++im n none) (ρ++im n .un) H:=by
 have s:∀ {i a},(gt ρ i).own=true->(σ++im n none)[i]? = some (some (V.ref a))->σ[i]? = some (some (.ref a)):=λ{i a} h e=>by
  rwa [wU (by rw[r.len];exact h8 h)]at e
 have sub:∀a,bF (σ++im n none) (ρ++im n .un) a->bF σ ρ a:=λa ⟨i,hi,e⟩=>by
  rw[kH]at hi;exact⟨i,hi,s hi e⟩
 have vis:Same (hid H (hs F σ ρ)) (hid H (hs F (σ++im n none) (ρ++im n .un))):=bB λa o e n=>⟨e,λz=>n (z.imp id (sub a))⟩
 refine⟨by simp[r.len],r.fr,r.zl,λa h=>r.zo a (sub a h),λi a hi e=>?_,λi a h=>?_,r.ml,r.ma,λi j a hi hj ei ej=>?_,λi=>?_⟩
 ·rw[kH]at hi;exact r.ow i a hi (s hi e)
 ·have:=r.mi i a h;rw[wU (lm.mp this).1];exact this
 ·rw[kH]at hi hj;exact r.nd i j a hi hj (s hi ei) (s hj ej)
 ·rw[kH];have q:=r.sl i;rcases wu i σ.length with lt | ge
  ·rw[wU lt];exact q.keep vis λ_ _ _ _ e=>e
  ·rw[gA ρ i (by rw[<- r.len];exact ge)];trivial
end
theorem p_ {K:ac}{ps:List Str}{S:ASp}(hS:∀ss q,S ss q->ss.length=ps.length):∀vs H Q E,spA K S vs H Q E->vs.length=ps.length:=λvs H Q E h=>by
 obtain⟨ss,Z,q,r,hs',_⟩:=h;have:=r.len;rw[db]at this;rw[this];exact hS ss q hs'
theorem qU {P:v3}{w:wz}{K:ac}{mg:Str->Option bi}{base:Heap}{x:Str}{st:Stmt}{N ps:List Str}{a:AS}(pr:Nat->Bool)(S:ASp){f:Addr}{cdv:bi}{A:wy}{outer:List Env}{s:bn}{H:Hp}{vs:List V}{Q:VK}{E:XK}
  (hbody:∃t,PSs (cxOf CX0 P w K mg base N x (aK st) f cdv A outer s H E).nox (cf st) t/\TSok K pr t a)
  (hS:∀ss q,S ss q->ss.length=ps.length/\uE pr ss/\a ⟨λρ=>q (.d .non) (outS ss ρ),λr ρ=>fin pr r ρ λr' ρ'=>q r' (outS ss ρ'),λ_=>False,λ_=>False⟩ (ss++im (N.length - ps.length) .un))
  (h:spA K S vs H Q E):∃t,PSs (cxOf CX0 P w K mg base N x (aK st) f cdv A outer s H E).nox (cf st) t/\t {nx:=λ_ H'=>Q .non H',rt:=Q} (gG N vs) H:=by
 have hl:=p_ (λss q h=>(hS ss q h).1) _ _ _ _ h;obtain⟨ss,Z,q,r0,hs',post⟩:=h;obtain⟨h1,h2,h3⟩:=hS ss q hs';obtain⟨t,ht,tok⟩:=hbody;refine⟨t,ht,?_⟩;have hp:∀i a,(F0 vs ss H Z).pin i a->pr i=true:=λi a h=>by
  rcases h with h | h
  ·exact h2 i h.1
  ·exact h.elim
 unfold gG;rw[hl];have fin_d:∀ σ' ρ' v H' d,q (.d d) (outS ss ρ')->Rel K (F0 vs ss H Z) σ' ρ' H'->RepD K (hid H' (hs (F0 vs ss H Z) σ' ρ')) v d->Q v H':=λσ' ρ' v H' d hq r rd=>by
  obtain⟨o1,o2,o3⟩:=r0.out r;exact post (.d d) _ v H' hq o3 (λi z=>nomatch z) ⟨o1,rd.same o2⟩
 refine tok (F0 vs ss H Z) _ _ H _ _ hp (r0.ext _) h3 ⟨λσ' ρ' H' hq r=>?_,λ_ _ _ z=>z.elim,λ_ _ _ z=>z.elim,λσ' ρ' rr v H' hq r=>?_⟩
 ·exact fin_d σ' ρ' _ H' .non hq r (by unfold RepD;rfl)
 ·cases rr with
  | d d=>exact fin_d σ' ρ' v H' d hq r.1 r.2
  | t n=>exact hq.elim
  | x s =>
   obtain⟨ra,rb,rc⟩:=r;obtain⟨o1,o2,o3⟩:=r0.out ra;exact post (.x s) _ v H' hq o3 (λi z=>nomatch z) ⟨o1,rb,rc.keep o2 λl o ho=>by rw[rb]at ho;cases ho⟩
  | n sv =>
   obtain⟨Hb,l,o,a1,a2,a3,a4,a5,a6⟩:=r;obtain⟨o1,o2,o3⟩:=r0.out a1;exact post (.n sv) _ v H' hq o3 (λi z=>nomatch z) ⟨Hb,l,o,o1,a2,a3.keep o2 λ_ _ _ _ e=>e,a4,a5,a6⟩
  | o i =>
   obtain⟨r,ei⟩:=r;have hq':(match gt ρ' i with
    | .ow ds=>if pr i=true then q (.d (.lst ds)) (outS ss (pt ρ' i (.vl (.lst ds))))else q (.n (.ow ds)) (outS ss (pt ρ' i .un))
    | .vl d=>q (.d d) (outS ss ρ')
    | .dk kvs=>if pr i=true then False else q (.n (.dk kvs)) (outS ss (pt ρ' i .un))
    | .dt kvs=>if pr i=true then False else q (.n (.dt kvs)) (outS ss (pt ρ' i .un))
    | _=>False):=hq
   clear hq;split at hq'
   ·rename_i ds hg;split at hq'
    ·obtain⟨l,el,r2,k2,rd⟩:=r.frz hg;rw[ei]at el;injection el with el;injection el with el;subst el;exact fin_d σ' _ _ H' _ hq' r2 rd
    ·rename_i hpr;have ho:(gt ρ' i).own=true:=by rw[hg];rfl
     obtain⟨l,o,hl',el,r2,sv⟩:=r.take ho λa z=>hpr (hp i a z)
     rw[ei]at el;injection el with el;injection el with el;subst el;obtain⟨o1,o2,o3⟩:=r0.out r2;rw[hg]at sv;refine post (.n (.ow ds)) _ _ H' hq' o3 (λi z=>nomatch z) ⟨del H' l,l,o,o1,rfl,?_,gV,(eP hl').symm,rfl⟩;rw[eP hl'];exact sv.keep o2 λ_ _ _ _ e=>e
   ·rename_i d hg;have s:=r.sl i;rw[hg,ei]at s;obtain⟨x,e1,rd⟩:=s;injection e1 with e1;injection e1 with e1;subst e1;exact fin_d σ' ρ' _ H' d hq' r rd
   ·rename_i kvs hg;split at hq'
    ·exact hq'.elim
    ·rename_i hpr;have ho:(gt ρ' i).own=true:=by rw[hg];rfl
     obtain⟨l,o,hl',el,r2,sv⟩:=r.take ho λa z=>hpr (hp i a z)
     rw[ei]at el;injection el with el;injection el with el;subst el;obtain⟨o1,o2,o3⟩:=r0.out r2;rw[hg]at sv;refine post (.n (.dk kvs)) _ _ H' hq' o3 (λi z=>nomatch z) ⟨del H' l,l,o,o1,rfl,?_,gV,(eP hl').symm,rfl⟩;rw[eP hl'];exact sv.keep o2 λ_ _ _ _ e=>e
   ·rename_i kvs hg;split at hq'
    ·exact hq'.elim
    ·rename_i hpr;have ho:(gt ρ' i).own=true:=by rw[hg];rfl
     obtain⟨l,o,hl',el,r2,sv⟩:=r.take ho λa z=>hpr (hp i a z)
     rw[ei]at el;injection el with el;injection el with el;subst el;obtain⟨o1,o2,o3⟩:=r0.out r2;rw[hg]at sv;refine post (.n (.dt kvs)) _ _ H' hq' o3 (λi z=>nomatch z) ⟨del H' l,l,o,o1,rfl,?_,gV,(eP hl').symm,rfl⟩;rw[eP hl'];exact sv.keep o2 λ_ _ _ _ e=>e
   ·exact hq'.elim
theorem DefN.aok {P:v3}{w:wz}{K:ac}{mg:Str->Option bi}{base:Heap}{x:Str}{st:Stmt}{N ps:List Str}{k:Nat}{a:AS}(D:DefN K mg x st ps)(Sc:bI N ps (aK st))(pr:Nat->Bool)(S:ASp)
  (hbody:∀(f:Addr) (cdv:bi) (A:wy) (outer:List Env) (s:bn) (H:Hp) (E:XK),Room k (A.deeper (zf x (aK st) s.heap.objs.size f cdv)) ->
   ∃t,PSs (cxOf CX0 P w K mg base N x (aK st) f cdv A outer s H E).nox (cf st) t/\TSok K pr t a)
  (hS:∀ss q,S ss q->ss.length=ps.length/\uE pr ss/\a ⟨λρ=>q (.d .non) (outS ss ρ),λr ρ=>fin pr r ρ λr' ρ'=>q r' (outS ss ρ'),λ_=>False,λ_=>False⟩ (ss++im (N.length - ps.length) .un)):OkN P w K mg base (k+1) x ps (spA K S) :=
 D.ok Sc (p_ λss q h=>(hS ss q h).1) λf cdv A outer s H vs Q E hr h=>qU pr S (hbody f cdv A outer s H E hr) hS h
def SLaw:ASp:=λss q=>∃ns:List Int,ns.length<=63/\ss=[.sc ns]/\∀ss',q (.d (.bl true)) ss'
theorem uP {P:v3}{w:wz}{K:ac}{mg:Str->Option bi}{base:Heap}{k:Nat}{x:Str}{ps:List Str}(h:OkN P w K mg base k x ps (spA K SLaw)):OkN P w K mg base k x ps (sf K):=by
 obtain⟨f,fd,a1,a2,a3,a4,g⟩:=h.ex;refine⟨f,fd,a1,a2,a3,a4,g.imp λvs H Q E hq=>?_⟩;obtain⟨a,ns,rfl,sq,hl,k⟩:=hq;refine⟨[.sc ns],λ_=>False,λr _=>r = .d (.bl true),⟨rfl,λa o e _=>e,λa z=>z.elim,λa _ z=>z,λi a hi _=>?_,λi a h=>?_,λa h=>?_,λa h=>?_,λi j a hi=>?_,λi=>?_⟩,⟨ns,hl,rfl,λ_=>rfl⟩,λr ss' v H' e1 _ _ rr=>?_⟩
 ·exfalso;cases i with
  | zero=>cases hi
  | succ i=>cases hi
 ·rcases h with h | h
  ·cases i with
   | zero=>cases h.1
   | succ i=>cases h.1
  ·exact h.elim
 ·obtain⟨i,hi,_⟩:=h;cases i with
  | zero=>cases hi
  | succ i=>cases hi
 ·obtain⟨i,hi,_⟩:=h;cases i with
  | zero=>cases hi
  | succ i=>cases hi
 ·exfalso;cases i with
  | zero=>cases hi
  | succ i=>cases hi
 ·cases i with
  | succ i=>trivial
  | zero =>
   refine⟨a,rfl,?_⟩;refine(show Same H (hid H _)from λb o e=>dh (λz=>?_) e).seq sq;rcases z with z | ⟨i,hi,_⟩
   ·exact z
   ·cases i with
    | zero=>cases hi
    | succ i=>cases hi
 ·subst e1;obtain⟨_,rd⟩:=rr;unfold RepD at rd;subst rd;exact k H'
def oB (K:ac):Sp:=λvs H Q _=>∃(t c:Addr) (m sp lf:Int) (ns:List Int) (n:Nat),vs=[.ref t,.int m]/\H t=some (.dK (cj c sp lf))/\SqL K H c (ns.map V.int)/\0<=sp/\sp<=n/\0<=lf/\n<1000000000000/\Dv m /\
 ∀(r:Nat) (sp' lf':Int),(r:Int)<m->0<=sp'->sp'<=(n+1:Nat)->0<=lf'->Q (.int (r:Nat)) (upd H t (.dK (cj c sp' lf')))
def oA (K:ac):Sp:=λvs H Q _=>∃(a:Addr) (ns:List Int),vs=[.ref a]/\SqL K H a (ns.map V.int) /\
 ∀t c,H t=none->H c=none->t≠c->Q (.ref t) (upd (upd H c (.lst ((ns.take 63).map V.int))) t (.dK (cj c 0 0)))
def tS:ASp:=λss q=>∃ns:List Int,ss=[.sc ns]/\q (.n (.tp 0)) [.sc ns]
def qX:ASp:=λss q=>∃(n:Nat) (m:Int),ss=[.tp n,.vl (.int m)]/\n<1000000000000/\Dv m/\∀r:Nat,(r:Int)<m->q (.d (.int r)) [.tp (n+1),.vl (.int m)]
theorem OkN.imp {P:v3}{w:wz}{K:ac}{mg:Str->Option bi}{base:Heap}{k:Nat}{x:Str}{ps:List Str}{sp sp':Sp}(h:OkN P w K mg base k x ps sp)(i:∀vs H Q E,sp' vs H Q E->sp vs H Q E):OkN P w K mg base k x ps sp':=by
 obtain⟨f,fd,a1,a2,a3,a4,g⟩:=h.ex;exact⟨f,fd,a1,a2,a3,a4,g.imp i⟩
theorem vh {vs:List V}{s:Sv}{F:Fr}{K:ac}{H:Hp}(r:Rel K F (vs.map some) [s] H):∃x,vs=[x]:=by
 have:=r.len
 match vs,this with
 | [x],_=>exact⟨x,rfl⟩
theorem vg {vs:List V}{s s':Sv}{F:Fr}{K:ac}{H:Hp}(r:Rel K F (vs.map some) [s,s'] H):∃x y,vs=[x,y]:=by
 have:=r.len
 match vs,this with
 | [x,y],_=>exact⟨x,y,rfl⟩
theorem tG {K:ac}(vs:List V)(H:Hp)(Q:VK)(E:XK)(h:spA K qX vs H Q E):oB K vs H Q E:=by
 obtain⟨ss,Z,q,r,⟨n,m,rfl,hn,hm,hq⟩,post⟩:=h;obtain⟨x,y,rfl⟩:=vg r;obtain⟨t,c,ns,sp,lf,e0,ht,hc,h1,h2,h3⟩:=r.sl 0;obtain⟨y',e1,ry⟩:=r.sl 1;unfold RepD at ry;injection e0 with e0;injection e0 with e0;subst e0;injection e1 with e1;injection e1 with e1;subst e1 ry;refine⟨t,c,m,sp,lf,ns,n,rfl,ht,bQ.seq hc,h1,h2,h3,hn,hm,λrr sp' lf' hr a1 a2 a3=>?_⟩;have hw:=r.write (i:=0) (l:=t) (o:=.dK (cj c sp' lf')) (s:=.tp (n+1)) rfl rfl rfl ⟨t,c,ns,sp',lf',rfl,aX,hc,a1,a2,a3⟩;refine post (.d (.int rr)) [.tp (n+1),.vl (.int m)] _ _ (hq rr hr) (λi h=>?_) (λi z=>nomatch z) ⟨hw.1,by unfold RepD;rfl⟩
 match i,h with
 | 0,_=>rfl
 | 1,h=>cases h
 | i+2,h=>cases h
theorem rX {K:ac}(vs:List V)(H:Hp)(Q:VK)(E:XK)(h:spA K tS vs H Q E):oA K vs H Q E:=by
 obtain⟨ss,Z,q,r,⟨ns,rfl,hq⟩,post⟩:=h;obtain⟨x,rfl⟩:=vh r;obtain⟨a,e0,sq⟩:=r.sl 0;injection e0 with e0;injection e0 with e0;subst e0;refine⟨a,ns,rfl,bQ.seq sq,λt c ht hc htc=>?_⟩;have rc:=r.fresh (o:=.lst ((ns.take 63).map V.int)) hc;have kc:Kp ([V.ref a].map some) [.sc ns] [.sc ns] H (upd H c (.lst ((ns.take 63).map V.int))):=Kp.fresh hc;have ht':(upd H c (.lst ((ns.take 63).map V.int))) t=none:=by rw[aI htc];exact ht
 refine post (.n (.tp 0)) _ _ _ hq (λi h=>h) (λi z=>nomatch z) ⟨_,t,_,rc,rfl,⟨t,c,ns.take 63,0,0,rfl,aX,SqL.of (dh (fP r hc) aX),by decide,by decide,by decide⟩,ht',rfl,rfl⟩
section
variable {K:ac}{F:Fr}{σ:St}{ρ ρ':En}{H H':Hp}{ta tb tc:TE}{a b c:AE}{rr rr':R2}{g g':R->R->AE}
def gNeg:R->AE:=λr ρ q=>match r with
 | .d (.int i)=>q (.d (.int (-i))) ρ
 | _=>False
theorem gY (ha:TEok K ta a):TEok K (tUn (rU λi=>.int (-i)) ta) (aUn gNeg a):=by
 intro F σ ρ H q Q r h k;refine ha F σ ρ H _ _ r h λr1 ρ1 x H1 h1 o1=>?_;obtain⟨r1',k1,i1⟩:=o1.inF;unfold gNeg at h1;split at h1
 ·rename_i i e;rw[e]at i1;exact⟨i,i1.int,(k.after k1).int r1' h1⟩
 ·exact h1.elim
def ti:D->Bool
 | .non=>true
 | _=>false
def isEx (ρ:En):R->Bool
 | .o i=>(match gt ρ i with | .ex _ _=>true | _=>false)
 | _=>false
def gIsN (neg:Bool):R->R->AE:=λr1 r2 ρ q=>match view ρ r1,r2 with
 | some d,.d .non=>q (.d (.bl (if neg then !ti d else ti d))) ρ
 | none,.d .non=>isEx ρ r1=true/\q (.d (.bl neg)) ρ
 | _,_=>False
theorem qG {F:Fr}{σ:St}{ρ:En}{H:Hp}{x:V}{r1:R}(a:Rel K F σ ρ H)(h1:InF K F σ ρ H x r1)(h:isEx ρ r1=true):∃e,x = .ref e:=by
 cases r1 with
 | d d=>cases h
 | n s=>cases h
 | t n=>cases h
 | x n=>cases h
 | o i =>
  have q:=a.sl i;cases hg:gt ρ i with
  | ex C fs =>
   rw[hg]at q;obtain⟨e,od,e1,_⟩:=q;rw[show σ[i]? = _ from h1]at e1;injection e1 with e1;injection e1 with e1;exact⟨e,e1⟩
  | _=>exact absurd h (by show ¬(match gt ρ i with | .ex _ _=>true | _=>false)=true;rw[hg];exact λz=>nomatch z)
theorem pC {x:V}{d:D}(h:RepD K H x d):decide (x=V.non)=ti d:=by
 cases d with
 | non=>unfold RepD at h;subst h;rfl
 | bl b=>unfold RepD at h;subst h;rfl
 | int b=>unfold RepD at h;subst h;rfl
 | str b=>unfold RepD at h;subst h;rfl
 | tup ds=>unfold RepD at h;obtain⟨a,vs,rfl,_⟩:=h;rfl
 | lst ds=>unfold RepD at h;obtain⟨a,vs,rfl,_⟩:=h;rfl
theorem sO:OpOk K (λx y H Q=>y = .non/\Q (.bl (decide (x = .non))) H) (gIsN false):=by
 intro F σ ρ H x y r1 r2 q Q a h1 h2 h b;unfold gIsN at h;split at h
 ·rename_i d e;unfold InF RepD at h2;refine⟨h2,?_⟩;rw[pC (dq a h1 e)];exact b.bl a h
 ·unfold InF RepD at h2;obtain⟨h',h⟩:=h;obtain⟨e,rfl⟩:=qG a h1 h';refine⟨h2,?_⟩;rw[decide_eq_false (λz=>nomatch z)];exact b.bl a h
 ·exact h.elim
def jS:D->Bool
 | .tup _=>false
 | .lst _=>false
 | _=>true
def inD (d:D)(ds:List D):Bool:=ds.any λe=>eqD e d
@[irreducible] def gIn (neg:Bool):R->R->AE:=λr1 r2 ρ q=>match view ρ r1,view ρ r2 with
 | some d,some (.lst ds)=>(jS d=true/\ds.all jS=true)/\q (.d (.bl (if neg then !inD d ds else inD d ds))) ρ
 | some d,some (.tup ds)=>(jS d=true/\ds.all jS=true)/\q (.d (.bl (if neg then !inD d ds else inD d ds))) ρ
 | _,_=>False
theorem jR {x:V}{d:D}(h:RepD K H x d)(f:jS d=true):iQ x=true:=by
 cases d with
 | tup ds=>cases f
 | lst ds=>cases f
 | non=>unfold RepD at h;subst h;rfl
 | bl b=>unfold RepD at h;subst h;rfl
 | int b=>unfold RepD at h;subst h;rfl
 | str b=>unfold RepD at h;subst h;rfl
theorem tE {x y:V}{d e:D}(h:RepD K H x d)(h':RepD K H y e)(f:jS d=true)(f':jS e=true):eqV x y=eqD d e:=by
 cases d with
 | tup ds=>cases f
 | lst ds=>cases f
 | non=>unfold RepD at h;subst h;cases e with
  | tup ds=>cases f'
  | lst ds=>cases f'
  | non=>unfold RepD at h';subst h';simp[eqV,eqD]
  | bl b=>unfold RepD at h';subst h';simp[eqV,eqD]
  | int b=>unfold RepD at h';subst h';simp[eqV,eqD]
  | str b=>unfold RepD at h';subst h';simp[eqV,eqD]
 | bl b=>unfold RepD at h;subst h;cases e with
  | tup ds=>cases f'
  | lst ds=>cases f'
  | non=>unfold RepD at h';subst h';simp[eqV,eqD]
  | bl b=>unfold RepD at h';subst h';simp[eqV,eqD]
  | int b=>unfold RepD at h';subst h';simp[eqV,eqD]
  | str b=>unfold RepD at h';subst h';simp[eqV,eqD]
 | int b=>unfold RepD at h;subst h;cases e with
  | tup ds=>cases f'
  | lst ds=>cases f'
  | non=>unfold RepD at h';subst h';simp[eqV,eqD]
  | bl b=>unfold RepD at h';subst h';simp[eqV,eqD]
  | int b=>unfold RepD at h';subst h';simp[eqV,eqD]
  | str b=>unfold RepD at h';subst h';simp[eqV,eqD]
 | str b=>unfold RepD at h;subst h;cases e with
  | tup ds=>cases f'
  | lst ds=>cases f'
  | non=>unfold RepD at h';subst h';simp[eqV,eqD]
  | bl b=>unfold RepD at h';subst h';simp[eqV,eqD]
  | int b=>unfold RepD at h';subst h';simp[eqV,eqD]
  | str b=>unfold RepD at h';subst h';simp[eqV,eqD]
theorem pE {x:V}{d:D}(h:RepD K H x d)(f:jS d=true):∀ {vs:List V} {ds:List D},RepDs K H vs ds->ds.all jS=true->vs.all iQ=true/\inV x vs=inD d ds
 | [],[],_,_=>⟨rfl,rfl⟩
 | v::vs,e::ds,hr,fa=>by
  unfold RepDs at hr;rw[zL,wC]at fa;obtain⟨q1,q2⟩:=pE h f hr.2 fa.2;refine⟨by rw[zL,jR hr.1 fa.1,q1];rfl,?_⟩;unfold inV inD at *;rw[xR,xR,q2,tE hr.1 h fa.1 f]
 | [],d::ds,h,_=>by unfold RepDs at h;exact h.elim
 | v::vs,[],h,_=>by unfold RepDs at h;exact h.elim
theorem uH (neg:Bool):OpOk K (rIn K neg) (gIn neg):=by
 intro F σ ρ H x y r1 r2 q Q a h1 h2 h b;unfold gIn at h;split at h
 ·rename_i d ds e1 e2;obtain⟨⟨f1,f2⟩,h⟩:=h;have rx:=dq a h1 e1;obtain⟨l,vs,rfl,sq,rd⟩:=cW a h2 e2;obtain⟨q1,q2⟩:=pE rx f1 (rd.same bQ) f2;refine⟨l,vs,rfl,.inl sq,jR rx f1,q1,?_⟩;rw[q2];exact b.bl a h
 ·rename_i d ds e1 e2;obtain⟨⟨f1,f2⟩,h⟩:=h;have rx:=dq a h1 e1;obtain⟨l,vs,rfl,sq,rd,_⟩:=dG a h2 e2;obtain⟨q1,q2⟩:=pE rx f1 (rd.same bQ) f2;refine⟨l,vs,rfl,.inr sq,jR rx f1,q1,?_⟩;rw[q2];exact b.bl a h
 ·exact h.elim
end
theorem dM {c:En->Prop}{g:AG}{b:AS}{e:AEnds}(I:Nat->En->Prop){ds:List D}(hc:∀k ρ,k<=ds.length->I k ρ->c ρ)
  (hs:∀(k:Nat) d ρ (N:En->Prop),ds[k]? = some d->I k ρ->(∀ ρ',I (k+1) ρ'->N ρ')->g d ρ λρ1=>b {nx:=N,ct:=N,bk:=e.nx,rt:=e.rt} ρ1) (hd:∀ ρ,I ds.length ρ->e.nx ρ):∀ ρ,I 0 ρ->forA c g b e ds ρ:=by
 have go:∀(es:List D) (k:Nat),ds.drop k=es->k<=ds.length->∀ ρ,I k ρ->forA c g b e es ρ:=by
  intro es;induction es with
  | nil =>
   intro k h hk ρ i;have:ds.length<=k:=B8.mp h;have:k=ds.length:=by omega
   subst this;unfold forA;exact⟨hc _ ρ (ms _) i,hd ρ i⟩
  | cons d es ih =>
   intro k h hk ρ i;have lt:k<ds.length:=by
    rcases wu k ds.length with q | q
    ·exact q
    ·rw[xB q]at h;cases h
   rw[xp lt]at h;injection h with h1 h2;unfold forA;exact⟨hc k ρ hk i,hs k d ρ _ (by rw[<- h1];exact dL lt) i (λρ' i'=>ih (k+1) h2 lt ρ' i')⟩
 exact go ds 0 rfl (wp _)
theorem fS {n:Nat}{js:List Nat}{c:En->Prop}{g:AG}{tc:AT}{te:AE}{q:List D->En->Prop}(I:Nat->List D->En->Prop){ds:List D}(hc:∀k acc ρ,k<=ds.length->I k acc ρ->c ρ)
  (hs:∀(k:Nat) d acc ρ (N:List D->En->Prop),ds[k]? = some d->I k acc ρ->(∀acc' ρ',I (k+1) acc' ρ'->N acc' ρ') ->
   g d (blkE n js ρ) λρ1=>tc ρ1 λb ρ2=>if b=true then te ρ2 λr ρ3=>sto [r.frz] ρ3 λes ρ4=>N (acc++es) (back ρ (js.map R.o) (ρ4.drop n))else N acc (back ρ (js.map R.o) (ρ2.drop n)))
  (hd:∀acc ρ,I ds.length acc ρ->q acc ρ):∀ ρ,I 0 [] ρ->fh n js c g tc te q ds [] ρ:=by
 have go:∀(es:List D) (k:Nat),ds.drop k=es->k<=ds.length->∀acc ρ,I k acc ρ->fh n js c g tc te q es acc ρ:=by
  intro es;induction es with
  | nil =>
   intro k h hk acc ρ i;have:ds.length<=k:=B8.mp h;have:k=ds.length:=by omega
   subst this;unfold fh;exact⟨hc _ acc ρ (ms _) i,hd acc ρ i⟩
  | cons d es ih =>
   intro k h hk acc ρ i;have lt:k<ds.length:=by
    rcases wu k ds.length with q | q
    ·exact q
    ·rw[xB q]at h;cases h
   rw[xp lt]at h;injection h with h1 h2;unfold fh;exact⟨hc k acc ρ hk i,hs k d acc ρ (λacc' ρ'=>fh n js c g tc te q es acc' ρ') (by rw[<- h1];exact dL lt) i (λacc' ρ' i'=>ih (k+1) h2 lt acc' ρ' i')⟩
 exact go ds 0 rfl (wp _) []
section
variable {X:Cx}(K:ac)
def uw (K:ac):R2:=λx y H Q=>∃a b xs ys,x = .ref a/\y = .ref b/\SqL K H a xs/\SqL K H b ys/\xs.length+ys.length<=1000000/\∀p,H p=none->Q (.ref p) (upd H p (.lst (xs++ys)))
theorem sN (hK:X.K=K:=by rfl):OpR X (y4 .Add) (uw K):=by
 subst hK;intro pins s σ H x y v u Q I rx ry h;obtain⟨a,b,xs,ys,rfl,rfl,ha,hb,hz,q⟩:=h;cases rx
 cases ry
 obtain⟨its,r1,p1,_⟩:=I.list ha;obtain⟨its2,r2,p2,_⟩:=I.list hb;have hz':its.length+its2.length<=v5:=small (by rw[<- r1.length,<- r2.length];exact hz);obtain⟨⟨cls,dd,data,sl⟩,ho,hc,n,hd⟩:=p1.isList;obtain⟨⟨cls2,dd2,data2,sl2⟩,ho2,hc2,n2,hd2⟩:=p2.isList;simp only at hc hd hc2 hd2;subst hc hd hc2 hd2;refine concat_meets ⟨_,ho,rfl⟩ ⟨_,ho2,rfl⟩ noFill_list_add seq_list_add PySem.F.slot_list_add PySem.F.entry_list_add (PySem.F.args_list_add_2 _ _) (list_addW a b its.toArray its2.toArray n n2 dd dd2 sl sl2 (by rw[kt,kt];exact hz')) ⟨ho,ho2,?_⟩;refine⟨.ref s.heap.objs.size,_,I.laid (t':=s.toks) (o:=.lst (xs++ys)) (λb ob q=>bv _ q) (ms _) ?_,rfl,q _ (I.hok.fresh (ms _))⟩;refine⟨by rw[wb];exact small hz,_,0,r1.append r2,?_⟩;rw[show(its++its2).toArray=its.toArray++its2.toArray by simp];exact wa _ rfl
def tRev (K:ac)(te:TE)(ts:TO):TE:=λσ H Q=>te σ H λx H1=>ts σ H1 λo H2=>o=some (-1)/\∃a xs,x = .ref a/\SqL K H2 a xs/\∀p,H2 p=none->Q (.ref p) (upd H2 p (.lst xs.reverse))
variable {e st:Expr}{te:TE}{ts:TO}{pos p2:Pos}
theorem sG (he:PE X e te)(hst:PO X (some st) ts)(hK:X.K=K:=by rfl){ops:bi->bi->List bi}(htl:∀v sl,Aw (.Slice none none (some st) p2) false v sl=DH (ops v sl) (zn v sl)):PE X (.Subscript e (.Slice none none (some st) p2) pos) (tRev K te ts):=by
 subst hK;intro pins s σ H Q I h;refine BW (thn (he pins s σ H _ I h) λv s1 ⟨x,H1,I1,r1,q1⟩=>?_);refine wpAny_Slice ?_;rw[Cd];refine lw (lw ?_);refine thn (hst pins s1 σ H1 _ I1 q1) λvk s3 ⟨o,H3,I3,pk,q3⟩=>?_;obtain⟨rfl,a,xs,rfl,hx,q⟩:=q3;cases r1
 have I4:Inv X pins σ H3 {s3 with heap:=s3.heap.push {cls:=.type "slice",data:=.fields #[.none,.none,vk]}}:=I3.kept (t':=s3.toks) λb ob q=>bv _ q;obtain⟨its,r,ht,hz⟩:=I4.list hx;have hg:nw (pp X.prog X.w) X.A (zn (.ref a) (.ref s3.heap.objs.size)) (EP X pins σ Q) X.xe {s3 with heap:=s3.heap.push {cls:=.type "slice",data:=.fields #[.none,.none,vk]}}:=by
  refine B_ ht.isList (Bb ..) .none .none pk (by simp) ?_ (by rw[kt,<- r.length];exact hz);rw[PySem.W.krv_pick];refine⟨.ref _,_,I4.laid (t':=s3.toks) (o:=.lst xs.reverse) (λb ob q=>bv _ q) (ms _) ?_,rfl,q _ (I4.hok.fresh (ms _))⟩;refine⟨by rw[xq];exact hz,its.reverse,0,?_,?_⟩
  ·have rev:∀ {xs:List V} {us:List bi},Vals xs us->Vals xs.reverse us.reverse:=by
    intro xs us h;induction h with
    | nil=>exact .nil
    | cons a _ ih=>rw[zH,zH];exact ih.append (.cons a .nil)
   exact rev r
  ·exact wa _ rfl
 show nw (pp X.prog X.w) X.A (AQ e (.Slice none none (some st) p2) (.ref a) (.ref s3.heap.objs.size)) (EP X pins σ Q) X.xe {s3 with heap:=s3.heap.push {cls:=.type "slice",data:=.fields #[.none,.none,vk]}};exact tail_any ht.isList.typeIs Bk.lookup hg (htl _ _)
end
section
variable {K:ac}{ta te:TE}{a ae:AE}{ts:TA}{as:AA}
def gCat:R->R->AE:=λr1 r2 ρ q=>match view ρ r1,view ρ r2 with
 | some (.lst ds),some (.lst es)=>ds.length+es.length<=1000000/\q (.f (ds++es)) ρ
 | _,_=>False
theorem sP:OpOk K (uw K) gCat:=by
 intro F σ ρ H x y r1 r2 q Q a h1 h2 h b;unfold gCat at h;split at h
 ·rename_i ds es e1 e2;obtain⟨l,vs,rfl,sq,rd⟩:=cW a h1 e1;obtain⟨l2,vs2,rfl,sq2,rd2⟩:=cW a h2 e2;exact⟨l,l2,vs,vs2,rfl,rfl,sq,sq2,by rw[rd.length,rd2.length];exact h.1,λp hp=>b.new a h.2 (rd.append rd2) hp⟩
 ·exact h.elim
def aRev (a:AE)(o:AO):AE:=λρ q=>a ρ λr ρ1=>o ρ1 λk ρ2=>k=some (-1)/\(match view ρ2 r.frz with
 | some (.lst ds)=>q (.f ds.reverse) ρ2
 | _=>False)
theorem RepDs.reverse {H:Hp}:∀ {vs:List V} {ds:List D},RepDs K H vs ds->RepDs K H vs.reverse ds.reverse
 | [],[],_=>.nil
 | v::vs,d::ds,h=>by
  unfold RepDs at h;rw[zH,zH];exact(RepDs.reverse h.2).append (.one h.1)
 | [],d::ds,h=>by unfold RepDs at h;exact h.elim
 | v::vs,[],h=>by unfold RepDs at h;exact h.elim
theorem rW {to:TO}{ao:AO}(ha:TEok K ta a)(ho:TOok K to ao):TEok K (tRev K ta to) (aRev a ao):=by
 intro F σ ρ H q Q r h k;refine ha F σ ρ H _ _ r h λr1 ρ1 x H1 h1 rel1=>?_;obtain⟨r',k1,i1⟩:=rel1.inF;refine ho F σ ρ1 H1 _ _ r' h1 λo ρ2 H2 h2 r2 k2=>?_;obtain⟨rfl,h2⟩:=h2;split at h2
 ·rename_i ds e;obtain⟨p,vs,rfl,sq,rd⟩:=cW r2 (i1.keep k2) e;exact⟨rfl,p,vs,rfl,sq,λp' hp=>((k.after k1).after k2).new r2 h2 rd.reverse hp⟩
 ·exact h2.elim
end
abbrev nD (n:Nat):D:=.int (n:Nat)
abbrev nv (n:Nat):Sv:=.vl (.int (n:Nat))
def ownB (pr:Nat->Bool):En->Nat->Bool
 | [],_=>true
 | s::ss,i=>(!s.own||pr i)&&ownB pr ss (i+1)
theorem lB {pr:Nat->Bool}:∀ {ss:En} {j:Nat},ownB pr ss j=true->∀i,(gt ss i).own=true->pr (j+i)=true
 | [],_,_,i,h=>by cases h
 | s::ss,j,hb,0,h=>by
  simp only[ownB,wC,Be,yo]at hb;rcases hb.1 with q | q
  ·rw[show(gt (s::ss) 0)=s from rfl,q]at h;cases h
  ·exact q
 | s::ss,j,hb,i+1,h=>by
  simp only[ownB,wC]at hb;have:=lB hb.2 i h;rwa [show j+1+i=j+(i+1)by omega]at this
theorem DefN.aok2 {P:v3}{w:wz}{K:ac}{mg:Str->Option bi}{base:Heap}{x:Str}{st:Stmt}{N ps:List Str}{k:Nat}{a:AS}(D:DefN K mg x st ps)(Sc:bI N ps (aK st))(pr:Nat->Bool)(us:En)(S:ASp)(hus:im (N.length - ps.length) Sv.un=us)
  (hbody:∀(f:Addr) (cdv:bi) (A:wy) (outer:List Env) (s:bn) (H:Hp) (E:XK),Room k (A.deeper (zf x (aK st) s.heap.objs.size f cdv)) ->
   ∃t,PSs (cxOf CX0 P w K mg base N x (aK st) f cdv A outer s H E).nox (cf st) t/\TSok K pr t a)
  (hS:∀ss q,S ss q->ss.length=ps.length/\ownB pr ss 0=true/\a ⟨λρ=>q (.d .non) (outS ss ρ),λr ρ=>fin pr r ρ λr' ρ'=>q r' (outS ss ρ'),λ_=>False,λ_=>False⟩ (ss++us)):OkN P w K mg base (k+1) x ps (spA K S) :=
 D.aok Sc pr S hbody λss q h=>⟨(hS ss q h).1,λi hi=>by have:=lB (hS ss q h).2.1 i hi;rwa [x5]at this,by rw[hus];exact(hS ss q h).2.2⟩
theorem jB {lo:Int}{n k:Nat}{d:D}(h:(rngD lo n)[k]? = some d):k<n/\d = .int (lo+k):=by
 unfold rngD at h;rw[sB]at h;obtain⟨j,e1,e2⟩:=wt.mp h;have lt:k<n:=by
  rcases wu k n with q | q
  ·exact q
  ·rw[xh (by simpa using q)]at e1;cases e1
 rw[xg lt]at e1;cases e1
 exact⟨lt,e2.symm⟩
abbrev t5 (n:Nat)(js:List Nat)(g:AG)(tc:AT)(te:AE)(ρ:En)(d:D)(acc:List D)(N:List D->En->Prop):Prop :=
 g d (blkE n js ρ) λρ1=>tc ρ1 λb ρ2=>if b=true then te ρ2 λr ρ3=>sto [r.frz] ρ3 λes ρ4=>N (acc++es) (back ρ (js.map R.o) (ρ4.drop n))else N acc (back ρ (js.map R.o) (ρ2.drop n))
section
variable {n:Nat}{js:List Nat}{c:En->Prop}{g:AG}{tc:AT}{te:AE}{q:List D->En->Prop}
theorem fR {lo:Int}{m:Nat}(f:Nat->D){ρ:En}(hc:c ρ)(hs:∀k acc (N:List D->En->Prop),k<m->N (acc++[f k]) ρ->t5 n js g tc te ρ (.int (lo+k)) acc N)
  (hd:q ((wF m).map f) ρ):fh n js c g tc te q (rngD lo m) [] ρ:=by
 refine fS (λk acc ρ'=>k<=m/\ρ'=ρ/\acc=(wF k).map f) (λk acc ρ' _ h=>h.2.1▸hc) ?_ ?_ ρ ⟨wp _,rfl,rfl⟩
 ·rintro k d acc _ N hk ⟨_,rfl,rfl⟩ hN;obtain⟨lt,rfl⟩:=jB hk;refine hs k _ N lt (hN _ _ ⟨lt,rfl,?_⟩);rw[yI,wJ];rfl
 ·rintro acc _ ⟨_,rfl,rfl⟩;rw[cb];exact hd
end
section
variable {c:En->Prop}{g:AG}{b:AS}{e:AEnds}
theorem mP {lo:Int}{m:Nat}(I:Nat->En->Prop)(hc:∀k ρ,I k ρ->c ρ)(hs:∀(k:Nat) ρ (N:En->Prop),k<m->I k ρ->(∀ ρ',I (k+1) ρ'->N ρ')->g (.int (lo+k)) ρ λρ1=>b {nx:=N,ct:=N,bk:=e.nx,rt:=e.rt} ρ1)
  (hd:∀ ρ,I m ρ->e.nx ρ) {ρ:En} (h0:I 0 ρ):forA c g b e (rngD lo m) ρ:=by
 refine dM I (λk ρ _ h=>hc k ρ h) (λk d ρ N hk h hN=>?_) (λρ h=>hd ρ (by rwa [cb]at h)) ρ h0;obtain⟨lt,rfl⟩:=jB hk;exact hs k ρ N lt h hN
theorem fQ {α:Type}(h:α->D){xs:List α}(I:Nat->En->Prop)(hc:∀k ρ,I k ρ->c ρ)(hs:∀(k:Nat) x ρ (N:En->Prop),xs[k]? = some x->I k ρ->(∀ ρ',I (k+1) ρ'->N ρ')->g (h x) ρ λρ1=>b {nx:=N,ct:=N,bk:=e.nx,rt:=e.rt} ρ1)
  (hd:∀ ρ,I xs.length ρ->e.nx ρ) {ρ:En} (h0:I 0 ρ):forA c g b e (xs.map h) ρ:=by
 refine dM I (λk ρ _ h=>hc k ρ h) (λk d ρ N hk h' hN=>?_) (λρ h=>hd ρ (by rwa [db]at h)) ρ h0;rw[sB]at hk;obtain⟨x,e1,rfl⟩:=wt.mp hk;exact hs k x ρ N e1 h' hN
end
theorem jY {xs:List Nat}{i:Nat}(h:i<xs.length):atI (natsD xs) ((i:Nat):Int)=some (.int (xs.getD i 0:Nat)):=by
 refine gq ?_;unfold natsD;rw[sB,dL h];simp[h]
theorem bD {r1:R}{ρ:En}{q:Ko}{xs:List Nat}{i:Nat}(hv:view ρ r1=some (.lst (natsD xs)))(h:i<xs.length)(hq:q (.d (.int (xs.getD i 0:Nat))) ρ):gIx r1 (.d (.int (i:Nat))) ρ q:=by
 unfold gIx;rw[hv];simp only[jY h];exact hq
theorem dX {neg:Bool}{r1 r2:R}{ρ:En}{q:Ko}{d e:D}{b:Bool}(h1:view ρ r1=some d)(h2:view ρ r2=some e)(hd:d.depth<=60)(hb:eqD d e=b)(hq:q (.d (.bl (if neg then !b else b))) ρ):gEq neg r1 r2 ρ q:=by
 unfold gEq;rw[h1,h2];subst hb;exact⟨hd,hq⟩
theorem iu {r1:R}{ρ:En}{q:Ko}{ds:List D}{i:Int}{d:D}(hv:view ρ r1=some (.tup ds))(h:atI ds i=some d)(hq:q (.d d) ρ):gIx r1 (.d (.int i)) ρ q:=by
 unfold gIx;rw[hv];simp only[h];exact hq
theorem gJ {r1:R}{ρ:En}{q:Ko}{ds:List D}{i:Int}{d:D}(hv:view ρ r1=some (.lst ds))(h:atI ds i=some d)(hq:q (.d d) ρ):gIx r1 (.d (.int i)) ρ q:=by
 unfold gIx;rw[hv];simp only[h];exact hq
theorem lenD (rows:List Nat):((natsD rows).length:Int)=rows.length:=by rw[db]
theorem cutS {A B:AS}{e:AEnds}{ρ:En}(P:En->Prop)(h1:∀N:En->Prop,(∀ ρ',P ρ'->N ρ')->A {e with nx:=N} ρ)(h2:∀ ρ',P ρ'->B e ρ'):aSeq A B e ρ:=h1 (B e) h2
theorem sR {x:Int}{n:Nat}(h:x=(n:Nat)):Sv.vl (.int x)=nv n:=by rw[h]
theorem xorD (a b:Nat):D.int (zm (a:Int) (b:Int))=nD (a ^^^ b):=by rw[nZ]
theorem minI (a b:Nat):(if(b:Int)<(a:Int)then(b:Int)else(a:Int))=((min a b:Nat):Int):=by split <;> omega
theorem maxI (a b:Nat):(if(b:Int) > (a:Int)then(b:Int)else(a:Int))=((max a b:Nat):Int):=by split <;> omega
theorem r_ (rows:List Nat)(a b:Nat):bt rows (min a b,max a b)=rows++[rows.getD a 0 ^^^ rows.getD b 0]:=by
 unfold bt;rcases zW a b with h | h
 ·simp only[yf h,De h]
 ·simp only[yB h,Dk h];rw[Nat.xor_comm]
def l6:ASp:=λss q=>∃n most jm:Nat,ss=[.tp n,nv most,nv jm]/\n<=100000000000/\1<=most/\most<=12/\jm<=132/\∀(N:Net) (n':Nat),dm N->N.m<=most->N.js.length<=jm->n'<=n+1000->q (.d (netD N)) [.tp n',nv most,nv jm]
theorem bP (xs:List Nat)(x:Nat):natsD (xs++[x])=natsD xs++[nD x]:=by unfold natsD;rw[wJ];rfl
def iI:ASp:=λss q=>∃x y:Nat,ss=[nv x,nv y]/\q (.d (nD (x ^^^ y))) [nv x,nv y]
def SOwn:ASp:=λss q=>∃m:Nat,ss=[nv m]/\m<=1000/\q (.f (natsD (aZ m))) [nv m]
theorem kM (xs:List D)(k:Nat):cutD xs none (some ((k:Nat):Int))=xs.take k:=by
 unfold cutD;have e0:HT.sIx xs.length 0 none=0:=rfl;rw[e0,Dn,BZ,HT.sIx_nat];rcases zW k xs.length with h | h
 ·rw[yf h]
 ·rw[yB h,x9 (ms _),x9 h]
def fW:ASp:=λss q=>∃a b:Nat,ss=[nv a,nv b]/\q (.d (L2.pairD (min a b,max a b))) [nv a,nv b]
theorem iB (xs:List D)(k:Nat):cutD xs (some ((k:Nat):Int)) none=xs.drop k:=by
 unfold cutD;have e0:HT.sIx xs.length xs.length none=xs.length:=rfl;rw[e0,HT.sIx_nat];rcases zW k xs.length with h | h
 ·rw[yf h,x9 (by rw[zP];omega)]
 ·rw[yB h,xB (ms _),xB h];simp
theorem aQ (xs:List Nat):(natsD xs).length=xs.length:=by rw[db]
section
variable {X:Cx}(K:ac)
theorem jQ (l:List bi):∀(n:Nat) (acc:Array bi),Bt (λx y=>x++y) acc (im n l.toArray)=acc++((im n l).flatten).toArray
 | 0,acc=>by simp
 | n+1,acc=>by
  rw[xD,zY,jQ l n,xD,ym];simp
theorem l7 {xs:List V}{us:List bi}(h:Vals xs us):∀n,Vals (im n xs).flatten (im n us).flatten
 | 0=>.nil
 | n+1=>by rw[xD,xD,ym,ym];exact h.append (l7 h n)
end
section
variable {K:ac}{te:TE}{ae:AE}{ts:TA}{as:AA}
theorem RepDs.reps {H:Hp}{vs:List V}{ds:List D}(h:RepDs K H vs ds):∀n,RepDs K H (im n vs).flatten (im n ds).flatten
 | 0=>.nil
 | n+1=>by rw[xD,xD,ym,ym];exact h.append (RepDs.reps h n)
end
end L2
namespace HT
open PySem PySem.Spec PyProof.Rows
theorem tup_whole {prog:v3}{w:wz}{A:wy}{E:bi->bn->Prop}{s:bn}{t sl:Addr}{items:Array bi}{vl vu:bi}{lo hi:Option Int}{Q:bi->bn->Prop}(ht:IsTup s.heap t items)(hs:s.heap.IsSliceOf sl vl vu .none)(pl:AD vl lo)(pu:AD vu hi)
  (hw:sIx items.size 0 lo=0/\sIx items.size items.size hi=items.size) (h:Q (.ref t) s):nw (pp prog w) A (zn (.ref t) (.ref sl)) Q E s:=by
 obtain⟨os,hos,hcs,hds⟩:=id hs;have hTs:s.TypeIs (.ref sl) "slice" := ⟨os,hos,hcs⟩
 unfold zn;try with_reducible refine yp ?_
 first | refine bd (lw ?_) | skip
 refine bd (DE ht.typeIs (by decide) ?_);refine bd (xO (name:=yV "__getitem__") ht.typeIs xb
  (x_ xb ht.typeIs Dh ?_ (Dy _ _)))
 show nw _ _ (Ap (.ref t)>>=_) _ _ s;refine bd (tupleItemsOf_ ht ?_);refine bd (Aa hTs ?_);rw[if_pos (by decide)];refine bd (dU hs pl pu ?_);have yes:(((sIx items.size 0 lo:Nat):Int)==0&&(1:Int)==1&&(sIx items.size items.size hi - sIx items.size 0 lo)==items.size)=true:=by
  rw[hw.1,hw.2];simp
 show nw _ _ (if(((sIx items.size 0 lo:Nat):Int)==0&&(1:Int)==1&&(sIx items.size items.size hi - sIx items.size 0 lo)==items.size)=true then _ else _) _ _ s;rw[if_pos yes];have hex:∀ {R:Bool->bn->Prop} {E':bi->bn->Prop} {A'},R true s->nw (pp prog w) A' (Aq (.ref t)) R E' s:=λhR=>by
  unfold Aq;exact bd (Aa ht.typeIs (lw hR))
 refine bd (hex ?_);rw[if_pos rfl];first
  | exact bd (zM (bd (lw (lw ⟨_,rfl,lw h⟩))))
  | exact bd (zM (lw ⟨_,rfl,lw h⟩))
  | exact bd (zM (bd (lw ⟨_,rfl,lw h⟩)))
  | exact zM (bd (lw ⟨_,rfl,lw h⟩))
end HT
namespace L2
open PySem PySem.Spec PyProof.Rows
section
variable {X:Cx}(K:ac)
def uq (K:ac):V->Option Int->Option Int->Hp->VK->Prop:=λx lo hi H Q=>∃a xs,x = .ref a/\SqT K H a xs /\
 ((HT.sIx xs.length 0 lo=0/\HT.sIx xs.length xs.length hi=xs.length)->Q (.ref a) H)/\(¬(HT.sIx xs.length 0 lo=0/\HT.sIx xs.length xs.length hi=xs.length)->∀p,H p=none->Q (.ref p) (upd H p (.tup (cutV xs lo hi))))
theorem sg (hK:X.K=K:=by rfl):SlR X (uq K):=by
 subst hK;intro pins s σ H x v vl vu lo hi sl Q I rx hs pl pu h;obtain⟨a,xs,rfl,hx,q1,q2⟩:=h;by_cases hw:HT.sIx xs.length 0 lo=0/\HT.sIx xs.length xs.length hi=xs.length
 ·cases rx
  obtain⟨its,r,ht,hz⟩:=I.tuple hx;have hlen:its.toArray.size=xs.length:=by rw[kt];exact r.length.symm
  refine⟨"tuple",_,xb.lookup,ht.typeIs,?_⟩;exact HT.tup_whole ht hs pl pu (by rw[hlen];exact hw) ⟨.ref a,H,I,rfl,q1 hw⟩
 ·exact ug pins s σ H (.ref a) v vl vu lo hi sl Q I rx hs pl pu ⟨a,xs,rfl,hx,hw,q2 hw⟩
end
section
variable {K:ac}{ta:TE}{a:AE}
def aSlT (a:AE)(l u:AO):AE:=λρ q=>a ρ λr ρ1=>l ρ1 λlo ρ2=>u ρ2 λhi ρ3=>match view ρ3 r.frz with
 | some (.tup ds)=>q (.d (.tup (cutD ds lo hi))) ρ3
 | _=>False
theorem qT {ds:List D}{lo hi:Option Int}(h:HT.sIx ds.length 0 lo=0/\HT.sIx ds.length ds.length hi=ds.length):cutD ds lo hi=ds:=by
 unfold cutD;rw[h.1,h.2];simp
theorem rV {tl th:TO}{al au:AO}(ha:TEok K ta a)(hl:TOok K tl al)(hh:TOok K th au):TEok K (tSl (uq K) ta tl th) (aSlT a al au):=by
 intro F σ ρ H q Q r h k;refine ha F σ ρ H _ _ r h λr1 ρ1 x H1 h1 rel1=>?_;obtain⟨r',k1,i1⟩:=rel1.inF;refine hl F σ ρ1 H1 _ _ r' h1 λlo ρ2 H2 h2 r2 k2=>?_;refine hh F σ ρ2 H2 _ _ r2 h2 λhi ρ3 H3 h3 r3 k3=>?_;have kk:=((k.after k1).after k2).after k3;split at h3
 ·rename_i ds e;obtain⟨p,vs,rfl,sq,rd,sv⟩:=dG r3 ((i1.keep k2).keep k3) e;refine⟨p,vs,rfl,sq,λz=>?_,λ_ p' hp=>kk.newT r3 h3 (pT rd) hp⟩;refine kk.dat r3 h3 ?_;rw[rd.length]at z;rw[qT z];unfold RepD;exact⟨p,vs,rfl,sv,rd⟩
 ·exact h3.elim
end
def dKey:D->Option Key
 | .int i=>some (.inl i)
 | .str x=>some (.inr x)
 | _=>none
section
variable {κ:Type} [DecidableEq κ]
def valD (kvs:List (κ×D))(k:κ):Option D:=(kvs.find? λkv=>decide (kv.1=k)).map (·.2)
def putD (kvs:List (κ×D))(k:κ)(d:D):List (κ×D) :=
 if(kvs.any λkv=>decide (kv.1=k))=true then kvs.map (λkv=>if kv.1=k then(kv.1,d)else kv)else kvs++[(k,d)]
variable {K:ac}{H:Hp}
theorem k_ (k:κ):∀ {ks:List (κ×V)} {kvs:List (κ×D)},ks.map wP=kvs.map wP->RepDs K H (ks.map wZ) (kvs.map wZ) ->
  (∀d,valD kvs k=some d->∃v,valV ks k=some v/\RepD K H v d)/\(valD kvs k=none->valV ks k=none)
 | [],[],_,_=>⟨(λ_ h=>nomatch h),λ_=>rfl⟩
 | p::ks,q::kvs,e,r=>by
  simp only[wv,AB]at e;rw[wv,wv]at r;unfold RepDs at r;obtain⟨i1,i2⟩:=k_ k e.2 r.2;by_cases z:q.1=k
  ·have e1:valD (q::kvs) k=some q.2:=by simp[valD,xv,z]
   rw[e1,gM (e.1.trans z)];exact⟨λd h=>⟨_,rfl,by cases h;exact r.1⟩,λh=>by cases h⟩
  ·have e1:valD (q::kvs) k=valD kvs k:=by simp[valD,xv,z]
   rw[e1,gN (λh=>z (e.1▸h))];exact⟨i1,i2⟩
 | [],q::kvs,e,_=>by simp at e
 | p::ks,[],e,_=>by simp at e
theorem tO (k:κ){ks:List (κ×V)}{kvs:List (κ×D)}(e:ks.map wP=kvs.map wP):(ks.any λkv=>decide (kv.1=k))=kvs.any λkv=>decide (kv.1=k):=by
 have h1:(ks.any λkv=>decide (kv.1=k))=(ks.map wP).any λx=>decide (x=k):=by rw[BM];rfl
 have h2:(kvs.any λkv=>decide (kv.1=k))=(kvs.map wP).any λx=>decide (x=k):=by rw[BM];rfl
 rw[h1,h2,e]
theorem mq (k:κ){v:V}{d:D}(rv:RepD K H v d):∀ {ks:List (κ×V)} {kvs:List (κ×D)},ks.map wP=kvs.map wP->RepDs K H (ks.map wZ) (kvs.map wZ) ->
  (ks.map λkv=>if kv.1=k then(kv.1,v)else kv).map wP=(kvs.map λkv=>if kv.1=k then(kv.1,d)else kv).map wP/\RepDs K H ((ks.map λkv=>if kv.1=k then(kv.1,v)else kv).map wZ) ((kvs.map λkv=>if kv.1=k then(kv.1,d)else kv).map wZ)
 | [],[],_,_=>⟨rfl,.nil⟩
 | p::ks,q::kvs,e,r=>by
  simp only[wv,AB]at e;rw[wv,wv]at r;unfold RepDs at r;obtain⟨i1,i2⟩:=mq k rv e.2 r.2;simp only[wv,e.1];by_cases z:q.1=k
  ·simp only[z,if_true];exact⟨by rw[i1],.cons rv i2⟩
  ·simp only[z,if_false];exact⟨by rw[i1,e.1],.cons r.1 i2⟩
 | [],q::kvs,e,_=>by simp at e
 | p::ks,[],e,_=>by simp at e
theorem sy (k:κ){v:V}{d:D}(rv:RepD K H v d){ks:List (κ×V)}{kvs:List (κ×D)}(e:ks.map wP=kvs.map wP)(r:RepDs K H (ks.map wZ) (kvs.map wZ)) :
  (putK ks k v).map wP=(putD kvs k d).map wP/\RepDs K H ((putK ks k v).map wZ) ((putD kvs k d).map wZ):=by
 unfold putK putD;rw[tO k e];split
 ·exact mq k rv e r
 ·refine⟨by rw[wJ,wJ,e];rfl,?_⟩;rw[wJ,wJ];exact r.append (.one rv)
theorem qE {ks:List (κ×V)}{kvs:List (κ×D)}(e:ks.map wP=kvs.map wP):ks.length=kvs.length:=by
 have:=congrArg B6 e;simpa using this
end
section
variable {K:ac}{F:Fr}{σ:St}{ρ ρ':En}{H H':Hp}{td ty tx:TE}{ad ay ax:AE}
theorem sZ {v:V}{d:D}{k:Key}(h:RepD K H v d)(e:dKey d=some k):v=kV k:=by
 cases d with
 | int i=>unfold RepD at h;injection e with e;subst e;exact h
 | str i=>unfold RepD at h;injection e with e;subst e;exact h
 | non=>cases e
 | bl _=>cases e
 | tup _=>cases e
 | lst _=>cases e
def aDNew:AE:=λρ q=>q (.n (.dk [])) ρ
theorem l_:TEok K tDNewK aDNew:=λF σ ρ H q Q r h k p hp=>k (.n (.dk [])) ρ _ _ h ⟨H,p,_,r,.refl,rfl,⟨p,[],rfl,aX,rfl,.nil⟩,hp,rfl,rfl⟩
theorem tI {i:Nat}{x:V}{kvs:List (Key×D)}(r:Rel K F σ ρ H)(ei:σ[i]? = some (some x))(hg:gt ρ i = .dk kvs):∃t ks,x = .ref t/\H t=some (.dK ks)/\ks.map wP=kvs.map wP/\RepDs K (hid H (hs F σ ρ)) (ks.map wZ) (kvs.map wZ):=by
 have s:=r.sl i;rw[hg,ei]at s;obtain⟨t,ks,e,h1,h2,h3⟩:=s;injection e with e;injection e with e;exact⟨t,ks,e,h1,h2,h3⟩
@[irreducible] def pO (kvs:List (Key×D))(d:D)(q:D->Prop):Prop:=match dKey d with
 | some k=>(match valD kvs k with | some x=>q x | none=>False)
 | none=>False
theorem pN {kvs:List (Key×D)}{d:D}{q:D->Prop}(h:pO kvs d q):∃k x,dKey d=some k/\valD kvs k=some x/\q x:=by
 unfold pO at h;split at h
 ·rename_i k e;split at h
  ·rename_i x e';exact⟨k,x,e,e',h⟩
  ·exact h.elim
 ·exact h.elim
theorem mM {kvs:List (Key×D)}{d x:D}{k:Key}{q:D->Prop}(e:dKey d=some k)(e':valD kvs k=some x)(h:q x):pO kvs d q:=by
 unfold pO;simp only[e,e'];exact h
def vV (a i:AE):AE:=λρ q=>a ρ λr ρ1=>match r with
 | .o j=>i ρ1 λr2 ρ2=>(match r2,gt ρ2 j with
  | .d d,.dk kvs=>pO kvs d λx=>q (.d x) ρ2
  | _,_=>False)
 | _=>False
theorem md (ha:TEok K td ad)(hi:TEok K ty ay):TEok K (uf td ty) (vV ad ay):=by
 intro F σ ρ H q Q r h k;refine ha F σ ρ H _ _ r h λr1 ρ1 x H1 h1 o1=>?_;obtain⟨r1',k1,i1⟩:=o1.inF;split at h1
 ·rename_i j;have ej:σ[j]? = some (some x):=i1;refine hi F σ ρ1 H1 _ _ r1' h1 λr2 ρ2 y H2 h2 o2=>?_;obtain⟨r2',k2,i2⟩:=o2.inF;split at h2
  ·rename_i d kvs hg;obtain⟨kk,z,ek,ez,hq⟩:=pN h2;obtain⟨t,ks,rfl,ht,e1,e2⟩:=tI r2' ej hg;obtain⟨v,ev,rv⟩:=(k_ kk e1 e2).1 z ez;refine⟨t,v,rfl,?_,((k.after k1).after k2).dat r2' hq rv⟩;rw[sZ i2 ek,<- ev];exact DGet.k ht
  ·exact h2.elim
 ·exact h1.elim
def aDIn (neg:Bool)(i a:AE):AE:=λρ q=>i ρ λr ρ1=>a ρ1 λr2 ρ2=>match r,r2 with
 | .d d,.o j=>(match gt ρ2 j,dKey d with
  | .dk kvs,some k=>q (.d (.bl (if neg then !(valD kvs k).isSome else(valD kvs k).isSome))) ρ2
  | _,_=>False)
 | _,_=>False
theorem nM {kvs:List (Key×D)}{ks:List (Key×V)}{k:Key}(e1:ks.map wP=kvs.map wP)(e2:RepDs K H (ks.map wZ) (kvs.map wZ)):(valV ks k).isSome=(valD kvs k).isSome:=by
 obtain⟨a,b⟩:=k_ k e1 e2;cases h:valD kvs k with
 | none=>rw[b h];rfl
 | some d=>obtain⟨v,e,_⟩:=a d h;rw[e];rfl
theorem m5 (hi:TEok K ty ay)(ha:TEok K td ad):TEok K (oo ty td) (aDIn true ay ad):=by
 intro F σ ρ H q Q r h k;refine hi F σ ρ H _ _ r h λr1 ρ1 y H1 h1 o1=>?_;obtain⟨r1',k1,i1⟩:=o1.inF;refine ha F σ ρ1 H1 _ _ r1' h1 λr2 ρ2 x H2 h2 o2=>?_;obtain⟨r2',k2,i2⟩:=o2.inF;split at h2
 ·rename_i d j;have ej:σ[j]? = some (some x):=i2;split at h2
  ·rename_i kvs kk hg ek;obtain⟨t,ks,rfl,ht,e1,e2⟩:=tI r2' ej hg;refine⟨t,valV ks kk,rfl,?_,?_⟩
   ·rw[sZ i1 ek];exact DGet.k ht
   ·rw[nM e1 e2];exact((k.after k1).after k2).bl r2' h2
  ·exact h2.elim
 ·exact h2.elim
def vU (x o i:AE):AS:=λe ρ=>x ρ λr ρ1=>sto [r.frz] ρ1 λds ρ2=>o ρ2 λr2 ρ3=>match r2 with
 | .o j=>i ρ3 λr3 ρ4=>(match r3,gt ρ4 j,ds with
  | .d kd,.dk kvs,[d]=>(match dKey kd with | some k=>kvs.length<=1000000/\e.nx (pt ρ4 j (.dk (putD kvs k d))) | none=>False)
  | _,_,_=>False)
 | _=>False
theorem jy {pr:Nat->Bool}{tv:TE}{av:AE}(h:TEok K tv av)(ho:TEok K td ad)(hi:TEok K ty ay):TSok K pr (ui td ty tv) (vU av ad ay):=by
 intro F σ ρ H D e hp r ha k;refine h F σ ρ H _ _ r ha λr1 ρ1 v H1 h1 o=>?_;obtain⟨r',k1,i1⟩:=o.inF;obtain⟨ds,ρ2,h2,r2,k2,rd⟩:=fD r' (.cons i1 .nil) h1;refine ho F σ ρ2 H1 _ _ r2 h2 λr3 ρ3 x H3 h3 o3=>?_;obtain⟨r3',k3,i3⟩:=o3.inF;split at h3
 ·rename_i j;have ej:σ[j]? = some (some x):=i3;refine hi F σ ρ3 H3 _ _ r3' h3 λr4 ρ4 y H4 h4 o4=>?_;obtain⟨r4',k4,i4⟩:=o4.inF;split at h4
  ·rename_i kd kvs d hg;split at h4
   ·rename_i kk ek;obtain⟨t,ks,rfl,ht,e1,e2⟩:=tI r4' ej hg;unfold RepDs at rd;have rd4:=(RepD.same rd.1 (k3.trans k4).vis)
    obtain⟨p1,p2⟩:=sy kk rd4 e1 e2;have hw:=r4'.write (i:=j) (l:=t) (o:=.dK (putK ks kk v)) (s:=.dk (putD kvs kk d)) (by rw[hg];rfl) ej rfl ⟨t,_,rfl,aX,p1,p2⟩;refine⟨t,_,rfl,?_,k.nx _ _ _ h4.2 hw.1⟩;rw[sZ i4 ek];exact DPut.k ht (g6 (by rw[qE e1];exact h4.1))
   ·exact h4.elim
  ·exact h4.elim
 ·exact h3.elim
end
section
variable {X:Cx}{pins:List (Addr×Obj)}{σ:St}{H:Hp}{s:bn}{h':Heap}
theorem Inv.turns {t':Nat}{ch:List Addr}(I:Inv X pins σ H s)(k:∀b o,b∉ch->s.heap.get? b=some o->h'.get? b=some o)(hf:∀b∈ch,FpOk X pins H b):Inv X pins σ H {s with heap:=h',toks:=t'}:=by
 have nit:∀b u,H b=some u->b∉ch:=λb u e z=>by rw[(hf b z).1]at e;cases e
 refine I.step (g':=s.gens) (d':=s.drawn) (ch:=ch) (λb hb=>?_) (λb o _ _ hc e _=>k b o hc e) (λb o _ _ hc e _=>⟨o.slots,k b o hc e⟩) (λ_ _ _ _ n=>n)
  (λb o hc e=>⟨o,k b o hc e⟩) (λ_ _ e=>e) (λ_ _ _ e=>e) (λb ps e=>⟨#[],by rw[e];simp⟩) (λm hm=>?_) (λb u e=>?_) I.bare
 ·obtain⟨_,h2,_,h4,h5,h6⟩:=hf b hb;exact⟨h4,h2,h5,h6⟩
 ·obtain⟨o,es,ep,ho,r⟩:=hm;exact⟨o,es,ep,k _ o (λz=>(hf _ z).2.1 rfl) ho,r⟩
 ·refine(I.hok b u e).stay (λc v hc q=>k c v ?_ q) (λ_ q=>q) λ_ _ q=>q;rcases hc with z | z
  ·rw[z];exact nit b u e
  ·exact nit c _ z
theorem Inv.trackO {p:Addr}{o:HO}(I:Inv X pins σ H s)(hf:FpOk X pins H p)(new:cK X.prog X.w (upd H p o) s.heap p o):Inv X pins σ (upd H p o) s:=by
 have hn:=hf.1;refine I.call' (ch:=[p]) rfl ⟨λb u e _ _ _=>e,λb u e _ _ _=>⟨u.slots,e⟩,λb u e n hx=>?_,λb u e _=>⟨u,e⟩,λb xs e=>?_,λb u v e=>?_,λb ps e=>⟨#[],?_⟩⟩ (λb u e=>?_) I.bare (λb hb=>?_)
 ·rw[aI (λz=>hx (by simp[z]))];exact n
 ·rw[aI (bg e hn)];exact e
 ·rw[aI (bg e hn)];exact e
 ·rw[aI (bg e hn),e];simp
 ·by_cases hb:b=p
  ·subst hb;rw[aX]at e;cases e;exact new
  ·rw[aI hb]at e;exact(I.hok b u e).stay (λc v _ q=>q) (λc q=>by rw[aI (bg q hn)];exact q) λc xs q=>by rw[aI (bg q hn)];exact q
 ·rw[w9.mp hb];obtain⟨_,h2,_,h4,h5,h6⟩:=hf;exact⟨h4,h2,h5,h6⟩
end
section
variable {K:ac}{ts:TA}{as:AA}
def k8 (pin:Nat->Bool)(ρ:En):R->Option (List D×(En->Prop))
 | .d (.lst ds)=>some (ds,λ_=>True)
 | .o i=>(match gt ρ i with
  | .ow ds=>if pin i=true then some (ds,λρ2=>gt ρ2 i = .ow ds)else none
  | _=>none)
 | _=>none
theorem qk {pin:Nat->Bool}{F:Fr}{σ:St}{ρ:En}{H:Hp}{v:V}{r:R}{ds:List D}{c:En->Prop}(a:Rel K F σ ρ H)(i:InF K F σ ρ H v r)(e:k8 pin ρ r=some (ds,c)) :
  ∃l vs,v = .ref l/\SqL K H l vs/\∀ σ2 ρ2 H2,Same (hid H (hs F σ ρ)) (hid H2 (hs F σ2 ρ2))->(∀i,SvOk K (hid H2 (hs F σ2 ρ2)) H2 σ2[i]? (gt ρ2 i))->(∀j a,pin j=true->σ[j]? = some (some (.ref a))->σ2[j]? = some (some (.ref a)))->c ρ2->∃vs2,SqL K H2 l vs2/\RepDs K (hid H2 (hs F σ2 ρ2)) vs2 ds:=by
 cases r with
 | n s=>cases e
 | t n=>cases e
 | x s=>cases e
 | d d =>
  cases d with
  | lst es =>
   simp only[k8,xI,z9]at e;obtain⟨rfl,rfl⟩:=e;have rd:RepD K _ v (.lst es):=i;unfold RepD at rd;obtain⟨l,vs,rfl,sq,rr⟩:=rd;exact⟨l,vs,rfl,bQ.seq (StL.sq sq),λσ2 ρ2 H2 sm _ _ _=>⟨vs,bQ.seq (sm.seq (StL.sq sq)),rr.same sm⟩⟩
  | non=>cases e
  | bl _=>cases e
  | int _=>cases e
  | str _=>cases e
  | tup _=>cases e
 | o j =>
  have ej:σ[j]? = some (some v):=i;unfold k8 at e;cases hg:gt ρ j with
  | ow es =>
   simp only[hg]at e;split at e
   ·rename_i hp;simp only[xI,z9]at e;obtain⟨rfl,rfl⟩:=e;have s:=a.sl j;rw[hg,ej]at s;obtain⟨l,vs,e1,hl,rd⟩:=s;injection e1 with e1;injection e1 with e1;subst e1;refine⟨l,vs,rfl,SqL.of hl,λσ2 ρ2 H2 sm sv pn hc=>?_⟩;have s2:=sv j;rw[hc,pn j l hp ej]at s2;obtain⟨l',vs',e2,hl',rd'⟩:=s2;injection e2 with e2;injection e2 with e2;injection e2 with e2;subst e2;exact⟨vs',SqL.of hl',rd'⟩
   ·cases e
  | un=>simp[hg]at e
  | vl _=>simp[hg]at e
  | tp _=>simp[hg]at e
  | dk _=>simp[hg]at e
  | dt _=>simp[hg]at e
  | ex _ _=>simp[hg]at e
  | sc _=>simp[hg]at e
  | px _ _ _=>simp[hg]at e
  | xl _=>simp[hg]at e
  | ob _ _=>simp[hg]at e
  | ll _=>simp[hg]at e
  | ds _ _ _=>simp[hg]at e
end
section
variable {K:ac}{ts:TA}{as:AA}
def aNever:AS:=λ_ _=>False
theorem bV {pr:Nat->Bool}:TSok K pr tNever aNever:=λF σ ρ H D e hp r h k=>h.elim
end
section
variable {X:Cx}(K:ac)
def tFmt (te:TE):TE:=λσ H Q=>te σ H λx H1=>∃i,x = .int i/\i.natAbs.log2<1920/\Q (.str (toString i)) H1
theorem rB {e:Expr}{te:TE}{pos:Pos}(he:PE X e te):PE X (.FormattedValue e (-1) none pos) (tFmt te):=by
 intro pins s σ H Q I h;refine FormattedValue_plain (thn (he pins s σ H _ I h) λv s1 ⟨x,H1,I1,r1,q1⟩=>?_);obtain⟨i,rfl,hz,q⟩:=q1;obtain⟨t,rfl⟩:=r1;exact formatField_int_small hz ⟨.str _,H1,I1.tok _,⟨_,rfl⟩,q⟩
abbrev TJ:=Str->TE
def PJ (X:Cx)(es:List Expr)(t:TJ):Prop:=∀(out:Str) (pins:List (Addr×Obj)) (s:bn) (σ:St) (H:Hp) (Q:VK),Inv X pins σ H s->t out σ H Q->nw (pp X.prog X.w) X.A (joinParts out (BS es X.env)) (EP X pins σ Q) X.xe s
def jNil:TJ:=λout _ H Q=>out.length<=v5/\Q (.str out) H
def nK (te:TE)(t:TJ):TJ:=λout σ H Q=>te σ H λx H1=>∃y,x = .str y/\(out++y).length<=v5/\t (out++y) σ H1 Q
theorem rA:PJ X [] jNil:=λout pins s σ H Q I h=>joinParts_nil ⟨.str out,H,I.tok _,⟨_,rfl⟩,h.2⟩ h.1
theorem hI {e:Expr}{es:List Expr}{te:TE}{t:TJ}(he:PE X e te)(hr:PJ X es t)(hs:BS (e::es) X.env=eval e X.env::BS es X.env:=by rfl):PJ X (e::es) (nK te t):=by
 intro out pins s σ H Q I h;rw[hs];refine joinParts_cons (thn (he pins s σ H _ I h) λv s1 ⟨x,H1,I1,r1,y,e1,hz,q⟩=>?_);subst e1;obtain⟨t',rfl⟩:=r1;exact⟨hz,hr _ pins s1 σ H1 Q I1 q⟩
theorem ku {v1 v2:Expr}{rest:List Expr}{pos:Pos}{t:TJ}(h:PJ X (v1::v2::rest) t)(hs:BS (v1::v2::rest) X.env=eval v1 X.env::eval v2 X.env::BS rest X.env:=by rfl):PE X (.JoinedStr (v1::v2::rest) pos) (t yy):=by
 intro pins s σ H Q I hq;refine JoinedStr_many ?_;rw[<- hs];exact h yy pins s σ H Q I hq
end
theorem kh (a b:Int):xt a b (-1)=((a - b).toNat:Nat):=by
 unfold xt;rw[if_neg (by decide)];simp only[Int.neg_neg,DW];split <;> omega
theorem m8 {a b:Int}(ha:-(2^61)<=a)(ha':a<2^61)(hb:-(2^61)<=b)(hb':b<2^61):Bd a b (-1)=true:=by
 unfold Bd;rw[kh];simp only[wl,wC,Be,decide_eq_true_eq,beq_iff_eq,show ¬((-1:Int) > 0)by decide,if_false];omega
def Itd (lo:Int)(n:Nat):It:=⟨λi _=>i<n,λi H x H'=>H'=H/\x = .int (lo - i),λi _=>n<=i⟩
theorem j8 {P:v3}{w:wz}{K:ac}{tg:Expr}(it:Addr)(lo:Int)(n:Nat):Turn P w K tg (Itd lo n) [it] it (λi h=>AC h it (lo+(i:Nat)*(-1)) ((n:Int) - (i:Nat)) (-1)) where
 mem:=by simp
 obj:=λi h st b hb=>by
  have e:b=it:=by simpa using hb
  subst e;exact⟨_,st,λv z=>by
   have z':Data.fields _=Data.cell v:=z;cases z'⟩
 keep:=λi h h' st k=>k it (by simp) _ st
 item:=by
  intro X hP hw hK hc i pins s σ H E I hf st hg;subst hP hw hK;obtain⟨f0,f1,f2,f3,f4,f5⟩:=hf it (by simp);have W:=DK (prog:=X.prog) (w:=X.w) (I.ok.hd hc) it lo (-1) n;refine W.item i s _ _ hg st λv h' tk hv st' kk=>?_;obtain⟨t,rfl⟩:=hv;have I1:Inv X pins σ H {s with heap:=h',toks:=tk}:=I.turned (λb o hb e=>kk b o (by simpa using hb) e) f0 f1 f3 f4 f5;refine⟨_,rfl,pI (s:={s with heap:=h',toks:=tk}) (n := "range_iterator") st' rfl rfl (by decide) ⟨.int (lo - i),H,I1,⟨t,?_⟩,⟨rfl,rfl⟩,st',λb hb=>(hf b hb).1⟩⟩;rw[show lo+(i:Int)*(-1)=lo - i by omega]
 done:=by
  intro X hP hw hK hc i pins s σ H E I hf st hg;subst hP hw hK;obtain⟨f0,f1,f2,f3,f4,f5⟩:=hf it (by simp);exact CC (I.ok.hd hc) st (by have:n<=i:=hg;omega) λh' eb=>⟨rfl,I.turned (t':=s.toks) (λb o hb e=>eb b o hb e) f0 f1 f3 f4 f5⟩
 self:=λ_ _ _ _ _ st h=>Ab st h
section
variable {X:Cx}{tg:Expr}
theorem nq {pins:List (Addr×Obj)}{σ:St}{H:Hp}{s:bn}{R:It->Hp->Prop}{E:bi->bn->Prop}{lo hi:Int}{t u v:Tok}{tk:Nat}(I:Inv X pins σ H s)(h1:-(2^61)<=lo)(h2:lo<2^61)(h3:-(2^61)<=hi)(h4:hi<2^61)
  (q:R (Itd lo (lo - hi).toNat) H):nw (pp X.prog X.w) X.A (pyIter (.ref s.heap.objs.size)) (PIE X pins σ tg R) E {s with heap:=s.heap.push {cls:=.type "range",data:=.fields #[.int lo t,.int hi u,.int (-1) v]},toks:=tk}:=by
 refine Dr (BH ..) (m8 h1 h2 h3 h4) ?_;have I1:Inv X pins σ H {s with heap:=s.heap.push {cls:=.type "range",data:=.fields #[.int lo t,.int hi u,.int (-1) v]},toks:=tk}:=I.kept λb o e=>bv _ e;refine⟨(s.heap.push {cls:=.type "range",data:=.fields #[.int lo t,.int hi u,.int (-1) v]}).objs.size,[(s.heap.push {cls:=.type "range",data:=.fields #[.int lo t,.int hi u,.int (-1) v]}).objs.size],_,_,H,rfl,
  I1.kept (t':=tk) λb o e=>bv _ e,j8 _ lo (lo - hi).toNat,?_,λb hb=>?_,q⟩
 ·have e1:lo+((0:Nat):Int)*(-1)=lo:=by simp
  have e2:(((lo - hi).toNat:Nat):Int) - ((0:Nat):Int)=xt lo hi (-1):=by rw[kh];simp
  show AC _ _ (lo+((0:Nat):Int)*(-1)) ((((lo - hi).toNat:Nat):Int) - ((0:Nat):Int)) (-1);rw[e1,e2];exact wa _ rfl
 ·have e:b=(s.heap.push {cls:=.type "range",data:=.fields #[.int lo t,.int hi u,.int (-1) v]}).objs.size:=by simpa using hb
  subst e;exact I1.fpOk (ms _) (I1.hok.fresh (ms _))
theorem vA {a b c:V}{us:List bi}(r:Vals [a,b,c] us):∃u v w,us=[u,v,w]/\RelV a u/\RelV b v/\RelV c w:=by
 cases r with
 | cons r1 r=>cases r with
  | cons r2 r=>cases r with
   | cons r3 r=>cases r;exact⟨_,_,_,rfl,r1,r2,r3⟩
def u0 (ta:TA):TI:=λσ H R=>ta σ H λvs H1=>∃i j:Int,vs=[.int i,.int j,.int (-1)]/\(-400000<=i/\i<=400000/\-400000<=j/\j<=400000)/\R (Itd i (i - j).toNat) H1
theorem kq {a b c:Expr}{ta:TA}{p pos:Pos}(hg:Gl X "range")(hm:X.mg "range" = none)(ha:PA X [a,b,c] ta)(hs:wq [a,b,c] X.env=(false,eval a X.env)::wq [b,c] X.env:=by rfl)(hs2:(yt pos (wq [b,c] X.env)).any (·.1)=false:=by rfl) :
  PI X tg (.Call (.Name "range" p) [a,b,c] [] pos) (u0 ta):=by
 intro pins s σ H R I h;refine CB (eF I hg hm Dx (wN (thn (ha pos pins s σ H _ I h) λus s1 ⟨vs,H1,I1,r1,q1⟩=>?_) hs hs2));obtain⟨i,j,rfl,⟨q1,q2,q3,q4⟩,q⟩:=q1;obtain⟨u,v,w,rfl,⟨t,rfl⟩,⟨t',rfl⟩,⟨t'',rfl⟩⟩:=vA r1;exact call_range_3 (by decide) (nq I1 (by omega) (by omega) (by omega) (by omega) q) (Or.inl (PyProof.noPylong_small (by decide)))
end
section
variable {K:ac}{tk tv:TE}{ak av:AE}{ts:TA}{as:AA}
theorem InFs.three {F:Fr}{σ:St}{ρ:En}{H:Hp}{vs:List V}{r1 r2 r3:R}(h:InFs K F σ ρ H vs [r1,r2,r3]):∃x y z,vs=[x,y,z]/\InF K F σ ρ H x r1/\InF K F σ ρ H y r2/\InF K F σ ρ H z r3:=by
 cases h with
 | cons a h=>cases h with
  | cons b h=>cases h with
   | cons c h=>cases h;exact⟨_,_,_,rfl,a,b,c⟩
def dwnD (lo:Int)(n:Nat):List D:=(wF n).map λ(i:Nat)=>D.int (lo - (i:Nat))
theorem dy (lo:Int)(n:Nat):(dwnD lo n).length=n:=by simp[dwnD]
theorem q0 {S:Addr->Prop}{H:Hp}{lo:Int}{n:Nat}:WkAt K S H (Itd lo n) (dwnD lo n):=by
 intro k;constructor
 ·intro d h;unfold dwnD at h;rw[sB]at h;obtain⟨j,e1,e2⟩:=wt.mp h;have lt:k<n:=by
   rcases wu k n with q | q
   ·exact q
   ·rw[xh (by simpa using q)]at e1;cases e1
  rw[xg lt]at e1;cases e1
  refine⟨lt,λx H' z=>⟨z.1▸Same.refl H,?_⟩⟩;rw[z.2,<- e2];unfold RepD;rfl
 ·intro h;rw[dy]at h;exact h
def vP (as:AA):AI:=λρ q=>as ρ λrs ρ1=>match rs with
 | [.d (.int i),.d (.int j),.d (.int (-1))]=>(-400000<=i/\i<=400000/\-400000<=j/\j<=400000)/\q (dwnD i (i - j).toNat) (λ_=>True) ρ1
 | _=>False
theorem j9 {pin:Nat->Bool}{ta:TA}(h:TAok K ta as):TIok K pin (u0 ta) (vP as):=by
 intro F σ ρ H q Rk r ha k;refine h F σ ρ H _ _ r ha λrs ρ1 vs H1 h1 r1 i1 k1=>?_;split at h1
 ·obtain⟨x,y,z,rfl,ix,iy,iz⟩:=i1.three;exact⟨_,_,by rw[ix.int,iy.int,iz.int],h1.1,k _ _ _ _ _ h1.2 r1 k1 λ_ _ _ _ _ _ _ _=>q0⟩
 ·exact h1.elim
theorem gU {lo:Int}{n k:Nat}{d:D}(h:(dwnD lo n)[k]? = some d):k<n/\d = .int (lo - k):=by
 unfold dwnD at h;rw[sB]at h;obtain⟨j,e1,e2⟩:=wt.mp h;have lt:k<n:=by
  rcases wu k n with q | q
  ·exact q
  ·rw[xh (by simpa using q)]at e1;cases e1
 rw[xg lt]at e1;cases e1
 exact⟨lt,e2.symm⟩
theorem mQ {c:En->Prop}{g:AG}{b:AS}{e:AEnds}{lo:Int}{m:Nat}(I:Nat->En->Prop)(hc:∀k ρ,I k ρ->c ρ)(hs:∀(k:Nat) ρ (N:En->Prop),k<m->I k ρ->(∀ ρ',I (k+1) ρ'->N ρ')->g (.int (lo - k)) ρ λρ1=>b {nx:=N,ct:=N,bk:=e.nx,rt:=e.rt} ρ1)
  (hd:∀ ρ,I m ρ->e.nx ρ) {ρ:En} (h0:I 0 ρ):forA c g b e (dwnD lo m) ρ:=by
 refine dM I (λk ρ _ h=>hc k ρ h) (λk d ρ N hk h hN=>?_) (λρ h=>hd ρ (by rwa [dy]at h)) ρ h0;obtain⟨lt,rfl⟩:=gU hk;exact hs k ρ N lt h hN
end
section
variable {K:ac}{ts:TA}{as:AA}
def gK (k:Nat):List D->List D
 | []=>[]
 | d::ds=>.tup [.int (k:Nat),d]::gK (k+1) ds
theorem dD:∀ {ds:List D} {b k:Nat} {d:D},(gK b ds)[k]? = some d->∃x,ds[k]? = some x/\d = .tup [.int ((b+k:Nat):Int),x]
 | [],b,k,d,h=>by simp[gK]at h
 | x::ds,b,0,d,h=>by
  simp only[gK,yM,xI]at h;exact⟨x,rfl,h.symm⟩
 | x::ds,b,k+1,d,h=>by
  simp only[gK,List.getElem?_cons_succ]at h;obtain⟨a,e1,e2⟩:=dD (ds:=ds) (b:=b+1) (k:=k) h;exact⟨a,by simpa using e1,by rw[e2,show b+1+k=b+(k+1)by omega]⟩
theorem bG:∀(ds:List D) (b:Nat),(gK b ds).length=ds.length
 | [],b=>rfl
 | x::ds,b=>by simp only[gK,wn,bG ds]
end
open Builtin.SmallTypes (nextOf)
structure Feed (prog:v3)(w:wz)(it:Addr)(dep:List Addr)(St:Nat->Heap->Prop)(gv:Nat->Option bi):Prop where
 mem:it∈dep
 obj:∀i h,St i h->∃o vs n,h.get? it=some o/\o.data = .fields vs/\o.cls = .type n/\n ≠ "zip"
 keep:∀i h h',St i h->(∀b o,b∈dep->h.get? b=some o->h'.get? b=some o)->St i h'
 item:∀(A:wy) i (s:bn) x (Q:bi->bn->Prop) E,St i s.heap->gv i=some x->(∀h',St (i+1) h'->w_ it s.heap h'->Q x {s with heap:=h'})->nw (pp prog w) A (nextOf (.ref it)) Q E s
 fin:∀(A:wy) i (s:bn) (Q:bi->bn->Prop) E,A.handled=none->St i s.heap->gv i=none->(∀h' e,DX it s.heap h'->(∃o,h'.get? e=some o/\o.cls = .type "StopIteration")->E (.ref e) {s with heap:=h'})->nw (pp prog w) A (nextOf (.ref it)) Q E s
section
variable {prog:v3}{w:wz}
theorem jT {it l:Addr}{xs:Array bi}(hne:l≠it):Feed prog w it [it,l] (λi h=>h.IsTupleIter it l i/\h.IsTuple l xs) (λi=>xs[i]?) where
 mem:=by simp
 obj:=λi h ⟨⟨o,e,c,d⟩,_⟩=>⟨o,_,_,e,d,c,by decide⟩
 keep:=λi h h' ⟨a,b⟩ k=>⟨a.at λo e=>k it o (by simp) e,by obtain⟨o,e,r⟩:=b;exact⟨o,k l o (by simp) e,r⟩⟩
 item:=λA i s x Q E ⟨a,b⟩ hx k=>by
  obtain⟨o,ho,hc,hd⟩:=id a;obtain⟨ol,hol,rr,nl,hdl⟩:=id b;unfold nextOf;refine bd (xO (name:=yV "__next__") a.typeIs yE (x_ yE a.typeIs BD ?_ (By _)));show nw _ _ (Cr (.ref it) 0>>=_) _ _ s;refine bd (wx ho hd (x:=.ref l) rfl ?_);show nw _ _ (if(Value.ref l==Value.none)=true then _ else _) _ _ s;rw[if_neg (λz=>by cases z)];show nw _ _ (Cr (.ref it) 1>>=_) _ _ s;refine bd (wx ho hd (x:=.int i 0) rfl ?_);show nw _ _ (seqItems? (.ref l)>>=_) _ _ s;refine bd (BP hol hdl ?_);simp only[xE,hx];refine bd (xo ho hd (by simp) (lw ⟨x,rfl,lw ?_⟩));refine k _ ⟨⟨_,ww _ ho (wX (wW hd _)),(zK ..).trans hc,by rw[wW hd];simp[wK]⟩,ol,?_,rr,nl,hdl⟩ (xX ..);exact((xX ..).2 l hne).trans hol
 fin:=λA i s Q E hh ⟨a,b⟩ hx k=>by
  obtain⟨o,ho,hc,hd⟩:=id a;obtain⟨ol,hol,rr,nl,hdl⟩:=id b;unfold nextOf;refine bd (xO (name:=yV "__next__") a.typeIs yE (x_ yE a.typeIs BD ?_ (By _)));show nw _ _ (Cr (.ref it) 0>>=_) _ _ s;refine bd (wx ho hd (x:=.ref l) rfl ?_);show nw _ _ (if(Value.ref l==Value.none)=true then _ else _) _ _ s;rw[if_neg (λz=>by cases z)];show nw _ _ (Cr (.ref it) 1>>=_) _ _ s;refine bd (wx ho hd (x:=.int i 0) rfl ?_);show nw _ _ (seqItems? (.ref l)>>=_) _ _ s;refine bd (BP hol hdl ?_);simp only[xE,hx];refine bd (zM (bd (xo ho hd (by simp) ?_)));show nw _ _ (newExc (.type "StopIteration") []>>=_) _ _ _;refine bd ?_;simp only[newExc,newTuple];refine bd (w6 ?_ (by size_fits));refine bd (m:=firstArgMember _ _) (yg (a:=Value.none) (by first | rfl | (simp only[firstArgMember];rfl)) ?_);refine w6 ?_ (by size_fits);simp only[raiseNew];refine bd (wpAny_handled ?_);first | rw[show A.in1.handled=none from hh] | rw[hh]
  refine bd (lw (wpAny_throw ?_));exact k _ _ (((xX ..).extBut.push _).push _) ⟨_,wa _ rfl,rfl⟩
variable {A:wy}{E:bi->bn->Prop}{s:bn}{z TI TO i1 i2:Addr}{d1 d2:List Addr}{S1 S2:Nat->Heap->Prop}{g1 g2:Nat->Option bi}
end
end L2
set_option maxHeartbeats 1000000
namespace L2
open PySem PySem.Spec PyProof.Rows
open PySem.MeetsSeq PySem.MeetsSeq2 PySem.MeetsSeq3
open PySem.AutoSeq1 (wpAny_loadPart')
def Fly (od:Option Addr)(h:Heap)(e C T:Addr):Prop :=
 ∃oe vs oT ts,h.get? e=some oe/\oe.cls = .ref C/\oe.dict=od/\oe.data = .fields vs/\vs[1]? = some (.ref T)/\T≠e/\h.get? T=some oT/\oT.data = .fields ts/\ts[3]? = some .none
structure Gone (fs:List Addr)(h h':Heap)(e:Addr)(hv:bi):Prop where
 keep:∀b o,h.get? b=some o->b≠e->hv ≠ .ref b->b∉fs->h'.get? b=some o
 slot:∀b o,h.get? b=some o->b≠e->hv ≠ .ref b->∃sl,h'.get? b=some {o with slots:=sl}
section
variable {M:Bp}{A:wy}{E:bi->bn->Prop}{s:bn}{base:Heap}{env:Env}{outer:List Env}{L e C:Addr}{oe:Obj}{vs:Array bi}{od:Option Addr}
theorem mE {hd:bi}{had:Bool}{Q:Unit->bn->Prop}(fr:A.frames=some (env::outer))(ff:s.heap.FunFrames base (env::outer))(lf:env.frame=some L)
  (ge:s.heap.get? e=some oe) (gc:oe.cls = .ref C) (gd:oe.dict=od) (gf:oe.data = .fields vs) (gz:1<vs.size)
  (fin:∀h' T,s.heap.objs.size<=T->Fly od h' e C T->(∀b o,s.heap.get? b=some o->b≠e->b∉frs (env::outer)->h'.get? b=some o)->(∀b o,s.heap.get? b=some o->b≠e->∃sl,h'.get? b=some {o with slots:=sl})->Q () {s with heap:=h'}) :
  nw M A (do let a <- frameOf env;let pl <- CI L had;let b <- xZ hd a .none (wK L) .none pl;BQ (.ref e) 1 b) (λ_ s'=>nw M A (yX (.ref e) none) Q E s') E s:=by
 have off:e∉frs (env::outer):=λq=>by
  obtain⟨_,o,go,no⟩:=ff.mem q;cases ge.symm.trans go
  exact no vs gf
 refine bd (Bh fr ff lf λha sa=>bd (AZ λpl ip=>?_));unfold xZ Cq;refine bd (w6 ?_ (ip.sizeOk5 _ _ _ _ _));have ge1:ha.get? e=some oe:=(sa.2.1 e off).trans ge;have sz:ha.objs.size=s.heap.objs.size:=sa.1;generalize hT:([hd,Value.ref L,.none,wK L,.none]++(if pl.isEmpty then im 6 Value.none else pl)).toArray=tv;have tz:3<tv.size:=by rw[<- hT,kt,wb];simp only[wn,za];omega
 have neT:e≠ha.objs.size:=wm (lc ge1);refine xo (bv _ ge1) gf gz ?_;generalize hp:ha.push {cls:=.type "traceback",dict:=none,data:=.fields tv}=hb;have gT:hb.get? ha.objs.size=some {cls:=.type "traceback",dict:=none,data:=.fields tv}:=by rw[<- hp];exact wa _ rfl
 have kb:∀b o,ha.get? b=some o->hb.get? b=some o:=λb o q=>by rw[<- hp];exact bv _ q
 have w1:=wW gf λa=>a.setIfInBounds 1 (.ref ha.objs.size);have g3:=ww (wL λa=>a.setIfInBounds 1 (.ref ha.objs.size)) (kb e oe ge1) (wX w1);have gT3:=(vY hb (wL λa=>a.setIfInBounds 1 (.ref ha.objs.size)) neT).trans gT;unfold yX;refine bd (wx g3 w1 (x:=.ref ha.objs.size) (by simp[gz]) ?_);rw[if_pos (by simp:(Value.ref ha.objs.size != Value.none)=true)];refine xo gT3 rfl tz ?_;have on:∀b o,b≠e->ha.get? b=some o->((hb.update e (wL λa=>a.setIfInBounds 1 (.ref ha.objs.size))).update ha.objs.size (wL λa=>a.setIfInBounds 3 ((none:Option Addr).elim Value.none λf=>wK f))).get? b=some o:=λb o ne q=>by
  rw[vY _ _ (wM (lc q)),vY _ _ (xc ne)];exact kb b o q
 refine fin _ ha.objs.size (by rw[sz];exact ms _) ⟨_,_,_,_,(vY _ _ neT.symm).trans g3,(zK _ _).trans gc,?_,w1,by simp[gz],neT.symm,ww _ gT3 (wX (wW rfl _)),wW rfl _,by simp[tz]⟩ (λb o q ne nf=>on b o ne ((sa.2.1 b nf).trans q)) λb o q ne=>?_
 ·obtain⟨oc,od,oda,osl⟩:=oe;cases gf
  exact gd
 ·obtain⟨sl,q'⟩:=sa.2.2 b o q;exact⟨sl,on b _ ne q'⟩
theorem lv {hv:bi}{Q:Unit->bn->Prop}(fr:A.frames=some (env::outer))(ff:s.heap.FunFrames base (env::outer))(lf:env.frame=some L)
  (ge:s.heap.get? e=some oe) (gc:oe.cls = .ref C) (gd:oe.dict=od) (gf:oe.data = .fields vs) (g1:vs[1]? = some hv)
  (hh:hv = .none ∨ ∃T oT ts,hv = .ref T/\T≠e/\s.heap.get? T=some oT/\oT.data = .fields ts/\ts[3]? = some .none)
  (fin:∀h' T,s.heap.objs.size<=T->Fly od h' e C T->Gone (frs (env::outer)) s.heap h' e hv->Q () {s with heap:=h'}) :
  nw M A (x6 (.ref e) env) (λ_ s'=>nw M A (yX (.ref e) none) Q E s') E s:=by
 have gz:=(wR.mp g1).1;unfold x6;simp only[lf];refine bd (wx ge gf g1 ?_);rcases hh with rfl | ⟨T,oT,ts,rfl,nT,gT,fT,t3⟩
 ·rw[if_neg (by decide)];exact mE fr ff lf ge gc gd gf gz λh' T' q1 q2 q3 q4=>fin h' T' q1 q2 ⟨λb o a1 a2 _ a4=>q3 b o a1 a2 a4,λb o a1 a2 _=>q4 b o a1 a2⟩
 ·rw[if_pos (by simp:(Value.ref T != Value.none)=true)];refine bd (wx gT fT t3 ?_);rw[if_neg (by simp[wK]:¬(Value.none==wK L)=true)];refine bd (xo gT fT (wR.mp t3).1 ?_);have ot:∀b,b≠T->(s.heap.update T (wL λa=>a.setIfInBounds 3 Value.none)).get? b=s.heap.get? b:=λb q=>vY _ _ (xc q);have gT':=ww (wL λa=>a.setIfInBounds 3 Value.none) gT (wX (wW fT _));have nr:∀b o,s.heap.get? b=some o->(∀us,o.data ≠ .fields us)->b≠T:=λb o q nf z=>by
   subst z;cases gT.symm.trans q
   exact nf ts fT
  refine mE fr (ff.of_keeps λb o q nf=>⟨o,(ot b (nr b o q nf)).trans q,rfl⟩) lf ((ot e nT.symm).trans ge) gc gd gf gz λh' T' q1 q2 q3 q4=>fin h' T' ?_ q2 ⟨λb o a1 a2 a3 a4=>q3 b o ((ot b λz=>a3 (by rw[z])).trans a1) a2 a4,λb o a1 a2 a3=>q4 b o ((ot b λz=>a3 (by rw[z])).trans a1) a2⟩;rwa [AW]at q1
end
def Hot (od:Option Addr)(h0 h:Heap)(H:Hp)(e C:Addr):Prop :=
 ∃oe vs hv,h.get? e=some oe/\oe.cls = .ref C/\oe.dict=od/\oe.data = .fields vs/\vs[1]? = some hv/\h0.get? e=none/\H e=none /\
  (hv = .none ∨ ∃T oT ts,hv = .ref T/\T≠e/\h.get? T=some oT/\oT.data = .fields ts/\ts[3]? = some .none/\h0.get? T=none/\H T=none)
section
variable {X:Cx}{pins:List (Addr×Obj)}{σ:St}{H:Hp}{s:bn}{h0:Heap}{e C:Addr}{od:Option Addr}
theorem lvI {E:bi->bn->Prop}{Q:Unit->bn->Prop}(I:Inv X pins σ H s)(hs:X.stack=X.env::X.outer)(hf:X.env.frame=some X.env.locals)(hsub:∀b o,h0.get? b=some o->b<s.heap.objs.size)(hot:Hot od h0 s.heap H e C)
  (fin:∀h' ch,(∀b∈ch,h0.get? b=none/\H b=none)->e∈ch->Un (frs X.stack) ch H H s.heap h'->HOk X.prog X.w H h'->Hot od h0 h' H e C->Q () {s with heap:=h'}) :
  nw (pp X.prog X.w) X.A (x6 (.ref e) X.env) (λ_ s'=>nw (pp X.prog X.w) X.A (yX (.ref e) none) Q E s') E s:=by
 obtain⟨oe,vs,hv,ge,gc,gd,gf,g1,ye,ue,hh⟩:=hot;have hh':hv = .none ∨ ∃T oT ts,hv = .ref T/\T≠e/\s.heap.get? T=some oT/\oT.data = .fields ts/\ts[3]? = some .none:=by
  rcases hh with q | ⟨T,oT,ts,q1,q2,q3,q4,q5,_⟩
  ·exact .inl q
  ·exact .inr ⟨T,oT,ts,q1,q2,q3,q4,q5⟩
 refine lv (hs▸I.ok.frames) (hs▸I.stack) hf ge gc gd gf g1 hh' λh' T q1 ⟨oe',vs',oT',ts',f1,f2,f3,f4,f5,f6,f7,f8,f9⟩ g=>?_;have hch:∀b∈e::(match hv with | .ref T=>[T] | _=>[]),h0.get? b=none/\H b=none:=λb hb=>by
  rcases we.mp hb with rfl | hb
  ·exact⟨ye,ue⟩
  ·rcases hh with rfl | ⟨T,oT,ts,rfl,_,_,_,_,y,u⟩
   ·cases hb
   ·rw[w9.mp hb];exact⟨y,u⟩
 have nch:∀b,b∉e::(match hv with | .ref T=>[T] | _=>[])->b≠e/\hv ≠ .ref b:=λb hb=>⟨λz=>hb (z ▸ .head _),λz=>hb (by subst z;exact .tail _ (.head _))⟩
 have there:∀b o,s.heap.get? b=some o->∃o',h'.get? b=some o'∨b=e∨hv = .ref b:=λb o q=>by
  by_cases z1:b=e
  ·exact⟨o,.inr (.inl z1)⟩
  ·by_cases z2:hv = .ref b
   ·exact⟨o,.inr (.inr z2)⟩
   ·obtain⟨sl,q'⟩:=g.slot b o q z1 z2;exact⟨_,.inl q'⟩
 refine fin h' _ hch (.head _) ⟨λb o q n nf nx=>g.keep b o q (nch b nx).1 (nch b nx).2 (by rw[<- hs];exact nf),λb o q n _ nx=>g.slot b o q (nch b nx).1 (nch b nx).2,λb o _ n _=>n,λb o q nx=>?_,λ_ _ q=>q,λ_ _ _ q=>q,λb ps q=>⟨#[],by rw[q];simp⟩⟩ (λa o q=>?_) ⟨oe',vs',_,f1,f2,f3,f4,f5,ye,ue,.inr ⟨T,oT',ts',rfl,f6,f7,f8,f9,?_,I.hok.fresh q1⟩⟩
 ·obtain⟨sl,q'⟩:=g.slot b o q (nch b nx).1 (nch b nx).2;exact⟨_,q'⟩
 ·have tr:∀b o',H b=some o'->b≠e/\hv ≠ .ref b/\b∉frs (X.env::X.outer):=λb o' z=>by
   refine⟨λw=>?_,λw=>?_,λw=>?_⟩
   ·rw[w,ue]at z;cases z
   ·rcases hh with y | ⟨T,oT,ts,y,_,_,_,_,_,u⟩
    ·rw[y]at w;cases w
    ·rw[y]at w;cases w;rw[u]at z;cases z
   ·rw[<- hs]at w;rw[I.stkFree b w]at z;cases z
  refine(I.hok a o q).stay (λb u hb z=>?_) (λ_ z=>z) λ_ _ z=>z;have:∃o',H b=some o':=by
   rcases hb with rfl | hb
   ·exact⟨_,q⟩
   ·exact⟨_,hb⟩
  obtain⟨o',ho'⟩:=this;obtain⟨a1,a2,a3⟩:=tr b o' ho';exact g.keep b u z a1 a2 a3
 ·cases z:h0.get? T with
  | none=>rfl
  | some o=>exact absurd (hsub T o z) (zC.mpr q1)
end
def odV:Option Addr->bi
 | none=>.none
 | some dx=>.ref dx
def Yg (h:Heap)(od:Option Addr):Prop:=∀dx,od=some dx->h.get? dx=none
def CX1 (P:v3)(w:wz):CXT:=λouter H s E e s' =>
 ∃a C od H',e = .ref a/\s'.os=s.os/\zT s'.gens/\Un (frs outer) [] H H' s.heap s'.heap/\HOk P w H' s'.heap/\Hot od s.heap s'.heap H' a C/\Yg s.heap od/\E (odV od) (some C) H'
section
variable {P:v3}{w:wz}{K:ac}{mg:Str->Option bi}{base:Heap}{N:List Str}{qual:Str}{scope:xx}{f:Addr}{cd:bi}{A:wy}{outer:List Env}{s0:bn}{H0:Hp}{E:XK}
theorem uO {pins:List (Addr×Obj)}{σ:St}{H:Hp}{s:bn}{e C:Addr}{od:Option Addr}(I:Inv (cxOf (CX1 P w) P w K mg base N qual scope f cd A outer s0 H0 E) pins σ H s)(hot:Hot od s0.heap s.heap H e C)(hyg:Yg s0.heap od)(he:E (odV od) (some C) H) :
  (cxOf (CX1 P w) P w K mg base N qual scope f cd A outer s0 H0 E).xe (.ref e) s:=by
 show nw (pp P w) _ (zS _ (.ref e)) _ _ s;unfold zS;refine bd (lvI I rfl rfl (λb o q=>?_) hot λh' ch hch hin un hok hot'=>?_)
 ·exact o0 (lc q) I.sz
 ·have lo:∀b o,s0.heap.get? b=some o->b∉ch:=λb o q z=>by rw[(hch b z).1]at q;cases q
  have nL:∀b o,s0.heap.get? b=some o->b≠s0.heap.objs.size:=λb o q=>wm (lc q);refine⟨e,C,od,H,rfl,I.os,I.bare,⟨λb o q n nf _=>?_,λb o q n hb _=>?_,λb o q n _=>I.base.free b o q n (λz=>nomatch z),λb o q _=>?_,I.base.tups,I.base.frzs,I.base.tbls⟩,hok,hot',hyg,he⟩
  ·refine un.keep b o (I.base.keep b o q n nf λz=>nomatch z) (I.base.free b o q n λz=>nomatch z) (λz=>?_) (lo b o q);rcases we.mp z with z | z
   ·exact nL b o q z
   ·exact nf z
  ·obtain⟨sl,q'⟩:=I.base.slot b o q n hb λz=>nomatch z
   obtain⟨sl',q''⟩:=un.slot b _ q' (I.base.free b o q n λz=>nomatch z) (.tail _ hb) (lo b o q);exact⟨sl',q''⟩
  ·obtain⟨o',q'⟩:=I.base.there b o q λz=>nomatch z
   exact un.there b o' q' (lo b o q)
end
abbrev bmV:List bi:=[.type "ValueError",.type "Exception",.type "BaseException",.type "object"]
theorem sL {K:ac}{h:Heap}{x:Str}{C:Addr}{mg:Str->Option bi}(KX:K.In h)(hm:mg x=some (.ref C))(q:yz K C bmV "ValueError.__new__" = true):OwnCls x C bmV "ValueError.__new__" mg h:=by
 unfold yz at q;split at q;next dd cd sl lk =>
  split at q;next C' bm k0 k1 k2 k3 n k5 em es =>
   simp only[wC,beq_iff_eq,yo]at q;obtain⟨⟨⟨⟨⟨rfl,rfl⟩,nd⟩,tl⟩,nk⟩,ni⟩:=q;obtain⟨a1,a2,a3,a4,a5,a6,a7,a8,a9,a10,a11⟩:=cd;obtain⟨l⟩:=sl;dsimp only at em nd nk ni es;subst em nd es;exact⟨hm,bm,a4,a1,a5,a2,a6,a7,a8,a9,a10,dd,k0,k1,k2,k3,k5,_,KX _ _ lk,.of_isNs (Ae KX nk),PySem.W.nsMap_none_of_in KX nk ni,Ad KX tl⟩
  ·cases q
 ·cases q
theorem HOk.get {P:v3}{w:wz}{H:Hp}{h:Heap}{a:Addr}{o:HO}(k:HOk P w H h)(e:H a=some o):∃u,h.get? a=some u:=by
 have x:=k a o e;cases o with
 | lst xs=>obtain⟨_,_,_,_,e⟩:=x;exact⟨_,e⟩
 | tup xs=>obtain⟨_,_,_,ob,e,_⟩:=x;exact⟨_,e⟩
 | dK kvs=>obtain⟨_,_,_,_,o,_,_,e,_⟩:=x;exact⟨_,e⟩
 | dT kvs=>obtain⟨_,_,_,_,o,_,_,e,_⟩:=x;exact⟨_,e⟩
 | set S n=>obtain⟨o,_,_,_,e,_⟩:=x;exact⟨_,e⟩
 | ins C dx fs=>obtain⟨_,_,_,e,_⟩:=x;exact⟨_,e⟩
 | own y=>exact x
 | xd fs=>obtain⟨_,⟨_,_,_,e,_⟩,_⟩:=x;exact⟨_,e⟩
 | rng lo hi=>obtain⟨_,_,_,e⟩:=x;exact⟨_,e⟩
 | frz ob u=>obtain⟨e,_⟩:=x;exact⟨_,e⟩
 | tbl ps=>exact⟨_,x⟩
 | met f y=>exact⟨_,x⟩
 | ext φ=>obtain⟨_,e,_⟩:=x;exact e
 | big ps φ=>obtain⟨_,_,e,_⟩:=x;exact e
theorem Inv.back0 {X:Cx}{pins:List (Addr×Obj)}{σ:St}{H:Hp}{s:bn}(I:Inv X pins σ H s)(hx:X.ex=[]){b:Addr}(h:s.heap.get? b=none):X.s₀.heap.get? b=none:=by
 cases q:X.s₀.heap.get? b with
 | none=>rfl
 | some o =>
  obtain⟨o',q'⟩:=I.base.there b o q (by rw[hx];simp);rw[h]at q';cases q'
def Fld (H:Hp):Option Str->Option Addr->V->Prop
 | none,od,v=>od=none/\v = .non
 | some f,od,v=>∃dx,od=some dx/\H dx=some (.xd [(f,v)])
structure Tie (X:Cx)(C:Addr)(fn:Option Str)(R:VK):Prop where
 ex:X.ex=[]
 run:∀ {pins:List (Addr×Obj)} {σ:St} {H:Hp} {s:bn} {e:Addr} {od:Option Addr} {v:V},Inv X pins σ H s->Hot od X.s₀.heap s.heap H e C->Yg X.s₀.heap od->Fld H fn od v->R v H->X.xe (.ref e) s
def SPr (X:Cx)(pins:List (Addr×Obj))(D:Ends)(f:Flow)(s':bn):Prop :=
 match f with
 | .next=>∃ σ' H',Inv X pins σ' H' s'/\D.nx σ' H'
 | _=>False
def PSr (X:Cx)(R:VK)(st:Stmt)(t:TS):Prop :=
 ∀(pins:List (Addr×Obj)) (s:bn) (σ:St) (H:Hp) (D:Ends),D.rt=R->Inv X pins σ H s->t D σ H->nw (pp X.prog X.w) X.A (exec st X.env) (SPr X pins D) X.xe s
def PSsr (X:Cx)(R:VK)(st:List Stmt)(t:TS):Prop :=
 ∀(pins:List (Addr×Obj)) (s:bn) (σ:St) (H:Hp) (D:Ends),D.rt=R->Inv X pins σ H s->t D σ H->nw (pp X.prog X.w) X.A (execs st X.env) (SPr X pins D) X.xe s
def rE (D:Ends):Ends:={nx:=D.nx,rt:=λ_ _=>False,bk:=λ_ _=>False,ct:=λ_ _=>False}
section
variable {X:Cx}{R:VK}{C:Addr}
theorem bZ {st:Stmt}{t:TS}(h:PS X.nox st t)(ht:∀D σ H,t D σ H->t (rE D) σ H:=by intro _ _ _ h;exact h):PSr X R st t:=λpins s σ H D _ I hw=>by
 refine wG (h pins s σ H (rE D) (I.wish _) (ht D σ H hw)) (λf s' q=>?_) λ_ _ z=>wD z;cases f with
 | next=>obtain⟨σ',H',I',q⟩:=q;exact⟨σ',H',I'.unwish,q⟩
 | brk=>obtain⟨_,_,_,q⟩:=q;exact q
 | cont=>obtain⟨_,_,_,q⟩:=q;exact q
 | ret u=>obtain⟨_,_,_,_,_,q⟩:=q;exact q
theorem bH:PSsr X R [] tNext:=λ_ _ σ H _ _ I h=>yS ⟨σ,H,I,h⟩
theorem aL {st:Stmt}{rest:List Stmt}{t u:TS}(h1:PSr X R st t)(h2:PSsr X R rest u):PSsr X R (st::rest) (tSeq t u):=by
 intro pins s σ H D e I h;refine z8 (thn (h1 pins s σ H {D with nx:=u D} e I h) λf s1 q=>?_);cases f with
 | next =>
  obtain⟨σ',H',I',q⟩:=q;exact h2 pins s1 σ' H' D e I' q
 | ret v=>exact q
 | brk=>exact q
 | cont=>exact q
theorem fH {st:Stmt}:PSr X R st tNever:=λ_ _ _ _ _ _ _ h=>h.elim
theorem dA {st:List Stmt}:PSsr X R st tNever:=λ_ _ _ _ _ _ _ h=>h.elim
theorem g_ {c:Expr}{a b:List Stmt}{tc:TT}{t u:TS}{pos:Pos}(hc:PT X.nox c tc)(ha:PSsr X R a t)(hb:PSsr X R b u):PSr X R (.If c a b pos) (tIfS tc t u):=by
 intro pins s σ H D e I h;refine wpAny_If (thn (hc.nox pins s σ H _ I h) λd s1 ⟨H1,I1,q1⟩=>?_);cases d with
 | true=>exact ha pins s1 σ H1 D e I1 q1
 | false=>exact hb pins s1 σ H1 D e I1 q1
theorem oS {x:Str}(T:Tie X C none R)(hc:X.calm=true)(hm:X.mg x=some (.ref C))(hq:yz X.K C bmV "ValueError.__new__" = true){e0:Expr}{v0:V}{np cpos pos:Pos}(ha:PE X.nox e0 (tC v0))
  (hg:Gl X x:=by rfl) (he:wq [e0] X.env=[(false,eval e0 X.env)]:=by rfl) (hdb:(x==("__debug__" : Str))=false:=by decide):PSr X R (.Raise (some (.Call (.Name x np) [e0] [] cpos)) none pos) (tRet (tC .non)):=by
 intro pins s σ H D e I h;obtain⟨tl,N,nm,q,bs,hdct,sn,sub,ab,col,dd,k0,k1,k2,k3,k5,mN,hC,hN,hni,tw⟩:=(sL I.mod.kin hm hq).obj;refine wpAny_Raise_call_subT (k5:=k5) (k3:=k3) (k2:=k2) (k1:=k1) (k0:=k0) (dd:=dd) (col:=col) (ab:=ab) (sub:=sub) (sn:=sn) (hdct:=hdct) (bs:=bs) (N:=N) (q:=q) (nm:=nm) (C:=C) (bm:=tl) (mN:=mN) zj (tw.hasType (by decide +kernel)) (I.ok.hd hc) (by rw[he];rfl) hni (eE I hg hm ⟨rfl,?_⟩ hdb);rw[he];refine y7 (yJ ?_);refine thn (ha.nox pins s σ H (λv H'=>H'=H) I rfl) λu s1 ⟨x,H1,I1,r1,q1⟩=>yR ?_;subst q1;refine⟨rfl,by show(1:Nat)<=_;decide,I1.bk _ _ hC,hN.keeps I1.bk,tw.keeps I1.bk,λh' a mk=>?_⟩;obtain⟨tt,g1,g2,g3⟩:=mk.there;refine T.run (I1.kept (t':=s1.toks) mk.keeps) ⟨_,_,.none,g1,rfl,rfl,rfl,rfl,I1.back0 T.ex mk.new,?_,.inl rfl⟩ (λ_ z=>nomatch z) ⟨rfl,rfl⟩ (e▸h);cases z:H1 a with
 | none=>rfl
 | some o =>
  obtain⟨u,z'⟩:=I1.hok.get z;rw[mk.new]at z';cases z'
end
theorem PA.nox {X:Cx}{es:List Expr}{t:TA}(h:PA X.nox es t):PA X es t:=λpos pins s σ H Q I hw =>
 wG (h pos pins s σ H Q (I.wish _) hw) (λ_ _ ⟨xs,H',I',r,q⟩=>⟨xs,H',I'.unwish,r,q⟩) λ_ _ z=>wD z
def XW (E:XK)(C:Addr)(fn:Option Str):VK:=λv H'=>∀od,Fld H' fn od v->E (odV od) (some C) H'
def spX (C:Addr)(fn:Option Str)(sp:Sp):Sp:=λvs H Q E=>sp vs H (XW E C fn) E
structure OkX (P:v3)(w:wz)(K:ac)(mg:Str->Option bi)(base:Heap)(k:Nat)(x:Str)(ps:List Str)(C:Addr)(fn:Option Str)(sp:Sp):Prop where
 ex:∃f fd,mg x=some (.ref f)/\xQ K (.ref f)=true/\j4 K fd ps []/\FnOk P w K mg base (CX1 P w) k f fd ps (spX C fn sp)
section
variable {P:v3}{w:wz}{K:ac}{mg:Str->Option bi}{base:Heap}{N:List Str}{qual:Str}{scope:xx}{f:Addr}{cd:bi}{A:wy}{outer:List Env}{s0:bn}{H0:Hp}{E:XK}{C:Addr}{fn:Option Str}{od:Option Addr}
theorem tie1:Tie (cxOf (CX1 P w) P w K mg base N qual scope f cd A outer s0 H0 E) C fn (XW E C fn):=⟨rfl,λI hot hy hf hr=>uO I hot hy (hr _ hf)⟩
theorem Hot.older {h0 h1 h:Heap}{H:Hp}{e C:Addr}(q:Hot od h1 h H e C)(le:∀b,h1.get? b=none->h0.get? b=none):Hot od h0 h H e C:=by
 obtain⟨oe,vs,hv,a1,a2,a3,a4,a5,a6,a7,a8⟩:=q;refine⟨oe,vs,hv,a1,a2,a3,a4,a5,le _ a6,a7,?_⟩;rcases a8 with z | ⟨T,oT,ts,b1,b2,b3,b4,b5,b6,b7⟩
 ·exact .inl z
 ·exact .inr ⟨T,oT,ts,b1,b2,b3,b4,b5,le _ b6,b7⟩
end
section
variable {X:Cx}{E:XK}{C:Addr}{fn:Option Str}{K:ac}{S:ASp}
theorem sC {R:VK}{body:List Stmt}{t:TS}(h:PSsr X R body t):PSs X body (λ_ σ H=>∃D0:Ends,D0.rt=R/\(∀ σ H,¬D0.nx σ H)/\t D0 σ H):=by
 rintro pins s σ H D I ⟨D0,e,no,ht⟩;refine thn (h pins s σ H D0 e I ht) λfl s' q=>?_;cases fl with
 | next=>obtain⟨σ',H',_,q⟩:=q;exact(no _ _ q).elim
 | ret v=>exact wD q
 | brk=>exact wD q
 | cont=>exact wD q
end
theorem DefN.aokX {P:v3}{w:wz}{K:ac}{mg:Str->Option bi}{base:Heap}{x:Str}{st:Stmt}{N ps:List Str}{k:Nat}{a:AS}(D:DefN K mg x st ps)(Sc:bI N ps (aK st))(pr:Nat->Bool)(us:En)(S:ASp)(C:Addr)(fn:Option Str)(hus:im (N.length - ps.length) Sv.un=us)
  (hbody:∀(f:Addr) (cdv:bi) (A:wy) (outer:List Env) (s:bn) (H:Hp) (E:XK),Room k (A.deeper (zf x (aK st) s.heap.objs.size f cdv)) ->
   ∃t,PSsr (cxOf (CX1 P w) P w K mg base N x (aK st) f cdv A outer s H E) (XW E C fn) (cf st) t/\TSok K pr t a)
  (hS:∀ss q,S ss q->ss.length=ps.length/\ownB pr ss 0=true/\a ⟨λ_=>False,λr ρ=>(∃d,r = .d d)/\q r (outS ss ρ),λ_=>False,λ_=>False⟩ (ss++us)):OkX P w K mg base (k+1) x ps C fn (spA K S):=by
 have lenOk:∀vs H Q E,spX C fn (spA K S) vs H Q E->vs.length=ps.length:=λvs H Q E h=>by
  obtain⟨ss,Z,q,r,hs',_⟩:=h;have:=r.len;rw[db]at this;rw[this];exact(hS ss q hs').1
 obtain⟨f,fd,hm,F,hb⟩:=D.ex;refine⟨f,fd,hm,F.kp,.all hb,?_⟩;obtain⟨oc,od,kV,doc,pm,an,cdv,ct,osl,rfl,lk,hcd⟩:=F.ex;refine u_ lk hcd Sc lenOk λA outer s H vs Q E hr h=>?_;have hl:=lenOk _ _ _ _ h;obtain⟨ss,Z,q,r0,hs',post⟩:=h;obtain⟨h1,h2,h3⟩:=hS ss q hs';obtain⟨t,ht,tok⟩:=hbody f cdv A outer s H E hr;refine⟨_,sC ht,{nx:=λ_ _=>False,rt:=XW E C fn,bk:=λ_ _=>False,ct:=λ_ _=>False},rfl,λ_ _ z=>z,?_⟩;have hp:∀i a,(F0 vs ss H Z).pin i a->pr i=true:=λi a h=>by
  rcases h with h | h
  ·have:=lB h2 i h.1;rwa [x5]at this
  ·exact h.elim
 unfold gG;rw[hl];rw[<- hus]at h3;refine tok (F0 vs ss H Z) _ _ H _ _ hp (r0.ext _) h3 ⟨λ_ _ _ z=>z.elim,λ_ _ _ z=>z.elim,λ_ _ _ z=>z.elim,λσ' ρ' rr v H' hq r=>?_⟩;obtain⟨⟨d,e⟩,hq⟩:=hq;subst e;obtain⟨r1,r2⟩:=r;obtain⟨o1,o2,o3⟩:=r0.out r1;exact post (.d d) _ v H' hq o3 (λi z=>nomatch z) ⟨o1,r2.same o2⟩
section
variable {X:Cx}{pins:List (Addr×Obj)}{σ σ1:St}{H H1:Hp}{s s1:bn}{h':Heap}{ch:List Addr}{e C:Addr}
theorem Inv.hot (I1:Inv X pins σ1 H1 s1)(I:Inv X pins σ H s)(hx:X.ex=[])(un:Un (frs X.stack) ch H H s.heap h')(hok:HOk X.prog X.w H h')(hch:∀b∈ch,s1.heap.get? b=none):Inv X pins σ H {s with heap:=h'}:=by
 have n0:∀b o,X.s₀.heap.get? b=some o->b∉ch:=λb o q z=>by
  obtain⟨o',q'⟩:=I1.base.there b o q (by rw[hx];simp);rw[hch b z]at q';cases q'
 have nf:∀b o,X.s₀.heap.get? b=some o->b∉X.fs->b∉frs X.stack:=λb o q n z=>by
  rcases we.mp (I.stkSub b z)with z | z
  ·exact absurd (o0 (lc q) I.ok.above) (by rw[z];exact xS _)
  ·exact n z
 have nx:∀b,b∉X.ex:=λb=>by rw[hx];simp
 obtain⟨m,⟨o,es,ep,ho,r⟩,hl⟩:=id I.loc;have nL:X.env.locals∉ch:=λz=>by
  obtain⟨m1,⟨o1,_,_,ho1,_⟩,_⟩:=id I1.loc;rw[hch _ z]at ho1;cases ho1
 have nC:∀x c,X.env.cells.lookup x=some c->c∉ch:=λx c q z=>by
  obtain⟨v,o1,ho1,_⟩:=I1.cell x c q;rw[hch _ z]at ho1;cases ho1
 have cell:∀ {x c v},X.env.cells.lookup x=some c->s.heap.IsCell c v->Heap.IsCell h' c v:=λ{x c v} q ⟨oc,hoc,hd⟩=>by
  obtain⟨sl,q'⟩:=un.any hoc (I.freeC x c q) (nC x c q);exact⟨_,q',hd⟩
 obtain⟨sl,hL⟩:=un.any ho I.free nL;refine⟨I.ok,I.os,I.bare,⟨λb o q n f _=>?_,λb o q n f _=>?_,λb o q n _=>I.base.free b o q n (nx b),λb o q _=>?_,I.base.tups,I.base.frzs,I.base.tbls⟩,⟨m,⟨_,es,ep,hL,r⟩,λi x v a1 a2 a3=>?_⟩,λx c q=>?_,I.free,I.freeC,λp hp=>?_,hok,I.len⟩
 ·exact un.keep b o (I.base.keep b o q n f (nx b)) (I.base.free b o q n (nx b)) (nf b o q f) (n0 b o q)
 ·obtain⟨sl1,q1⟩:=I.base.slot b o q n f (nx b);obtain⟨sl2,q2⟩:=un.any q1 (I.base.free b o q n (nx b)) (n0 b o q);exact⟨sl2,q2⟩
 ·obtain⟨o',q'⟩:=I.base.there b o q (nx b);exact un.there b o' q' (n0 b o q)
 ·obtain⟨u,ru,lk⟩:=hl i x v a1 a2 a3;refine⟨u,ru,?_⟩;rcases lk with z | ⟨z1,c,z2,z3⟩
  ·exact .inl z
  ·exact .inr ⟨z1,c,z2,cell z2 z3⟩
 ·obtain⟨v,hv⟩:=I.cell x c q;exact⟨v,cell q hv⟩
 ·obtain⟨p1,p2,p3,p4,p5⟩:=I.pin p hp;refine⟨un.keep _ _ p1 p2 (λz=>?_) (λz=>?_),p2,p3,p4,p5⟩
  ·rcases we.mp (I.stkSub _ z)with z | z
   ·exact p3 z
   ·exact p4 z
  ·have:=(I1.pin p hp).1;rw[hch _ z]at this;cases this
theorem sfI {A:wy}{E:bi->bn->Prop}{Q:Unit->bn->Prop}{h0:Heap}{od:Option Addr}(I:Inv X pins σ H s)(hot:Hot od h0 s.heap H e C)
  (fin:∀h' ch,(∀b∈ch,h0.get? b=none)->Un (frs X.stack) ch H H s.heap h'->HOk X.prog X.w H h'->(∃oe vs,h'.get? e=some oe/\oe.cls = .ref C/\oe.dict=od/\oe.data = .fields vs)->Q () {s with heap:=h'}) :
  nw (pp X.prog X.w) A (yX (.ref e) none) Q E s:=by
 obtain⟨oe,vs,hv,ge,gc,gd,gf,g1,ye,ue,hh⟩:=hot;unfold yX;refine bd (wx ge gf g1 ?_);rcases hh with rfl | ⟨T,oT,ts,rfl,nT,gT,fT,t3,yT,uT⟩
 ·rw[if_neg (by decide)];exact lw (fin s.heap [] (λ_ z=>nomatch z) (.kept λ_ _ q=>q) I.hok ⟨oe,vs,ge,gc,gd,gf⟩)
 ·rw[if_pos (by simp:(Value.ref T != Value.none)=true)];refine xo gT fT (wR.mp t3).1 ?_;have ot:∀b,b≠T->(s.heap.update T (wL λa=>a.setIfInBounds 3 ((none:Option Addr).elim Value.none λf=>wK f))).get? b=s.heap.get? b:=λb q=>vY _ _ (xc q);have nin:∀b,b∉[T]->b≠T:=λb q z=>q (by rw[z];exact .head _);refine fin _ [T] (λb z=>by rw[w9.mp z];exact yT) ⟨λb o q _ _ n=>(ot b (nin b n)).trans q,λb o q _ _ n=>⟨o.slots,(ot b (nin b n)).trans q⟩,λ_ _ _ n _=>n,λb o q n=>⟨o,(ot b (nin b n)).trans q⟩,λ_ _ q=>q,λ_ _ _ q=>q,λb ps q=>⟨#[],by rw[q];simp⟩⟩ (λa o q=>?_) ⟨oe,vs,(ot e nT.symm).trans ge,gc,gd,gf⟩;refine(I.hok a o q).stay (λb u hb z=>(ot b λw=>?_).trans z) (λ_ z=>z) λ_ _ z=>z;subst w;rcases hb with hb | hb
  ·rw[<- hb,uT]at q;cases q
  ·rw[uT]at hb;cases hb
end
def qg (X:Cx)(body:List Stmt)(c:Expr):Prop:=∀(Q:Flow->bn->Prop) (E:bi->bn->Prop) (pins:List (Addr×Obj)) (σ:St) (H:Hp) (s:bn),Inv X pins σ H s->nw (pp X.prog X.w) X.A (eval c X.env) (λ_ _=>False) E s->nw (pp X.prog X.w) X.A (execs body X.env) Q E s
section
variable {X:Cx}{K:ac}{S:ASp}
theorem sD {body:List Stmt}{t:TS}{h0:yQ}{hs:List yQ}{pos:Pos}(h:PSs X.nox body t):PS X (.Try body (h0::hs) [] [] pos) t:=by
 intro pins s σ H D I ht;refine DU (wG (h pins s σ H D (I.wish _) ht) (λf s1 q=>?_) λ_ _ z=>wD z);have q':=SP.unwish q;cases f with
 | next=>exact yS q'
 | ret v=>exact q'
 | brk=>exact q'
 | cont=>exact q'
theorem sE {st:Stmt}{t u:TS}(h1:PS X st t)(h2:PS X st u):PS X st (λD σ H=>t D σ H∨u D σ H):=λpins s σ H D I h=>h.elim (h1 pins s σ H D I) (h2 pins s σ H D I)
end
end L2
namespace L2
open PySem PySem.Spec PyProof.Rows PySem.W
section
variable {prog:v3}{w:wz}{A:wy}{E:bi->bn->Prop}{s:bn}{K:ac}{x D:Addr}{ox:Obj}{odo:Option Obj}
theorem pP {Q:Option bi->bn->Prop}(KX:K.In s.heap)(I:zi s.heap x ox D odo)(hga:wB K (.ref D) "__getattribute__" = some (some (.builtin "BaseException.__getattribute__")))(hgn:wB K (.ref D) "__getattr__" = some none)
  (hf:CH K D odo "__class__" = some (.bind (.builtin "getset_descriptor.__get__") (.builtin "object.__class__"))) (hm:zB K D (.type "object")=some true) (hb:wA K (.ref D) (.type "BaseException")=some true)
  (h:Q (some (.ref D)) {s with toks:=s.toks+1}):nw (pp prog w) A (getAttr? (.ref x) "__class__") Q E s:=by
 obtain⟨hh,g,d,t,os⟩:=s;have L0:=I.type (M:=pp prog w);have L1:=zF (M:=pp prog w) KX hga;have L2:=zF (M:=pp prog w) KX hgn;have L3:=looks_find (M:=pp prog w) KX I hf;have L4:=BL (M:=pp prog w) KX hb;have f3:=yk.ga.bind (.ref x);have hk:builtinKind "BaseException.__getattribute__" = some .slot:=by decide +kernel
 have hsp:splitId "BaseException.__getattribute__" = some ("BaseException", "__getattribute__"):=by decide +kernel
 have ha:=BG (.ref x) (.str "__class__" t);unfold getAttr? getAttrBy? getAttrBy;refine bd (wpAny_mkText (bd (Ca (yp (bd (L0.at (bd (L1.at ?_))))))));show nw _ _ (Al _ _ _ _ _ _) _ _ _;unfold Al;repeat (any_goals (first | assumption | with_reducible refine L0.at ?_ | with_reducible refine L1.at ?_ | with_reducible refine L2.at ?_ | wp_step))
 refine zu yk.ga.plain BB ?_;simp only[zg,hk,hsp];refine bd ?_;unfold BR;repeat (any_goals (first | assumption | with_reducible refine L0.at ?_ | with_reducible refine L4.at ?_ | with_reducible refine L3.at ?_ | wp_step))
 refine class_get (s:=⟨hh,g,d,t+1,os⟩) (ox:=ox) (od:=odo) KX I hm ?_;show nw _ _ (ret (.ref D)) _ _ _;refine lw ?_;exact handed_on rfl (lw h)
end
structure ExIs (K:ac)(C:Addr):Prop where
 ga:wB K (.ref C) "__getattribute__" = some (some (.builtin "BaseException.__getattribute__"))
 gn:wB K (.ref C) "__getattr__" = some none
 cl:∀od,CH K C od "__class__" = some (.bind (.builtin "getset_descriptor.__get__") (.builtin "object.__class__"))
 mo:zB K C (.type "object")=some true
 be:wA K (.ref C) (.type "BaseException")=some true
 is:(clsIn K C).isSome=true
theorem ExIs.of {K:ac}{C:Addr}(ga:wB K (.ref C) "__getattribute__" = some (some (.builtin "BaseException.__getattribute__")))(gn:wB K (.ref C) "__getattr__" = some none)(hc:xW K C=true)(ha:wB K (.ref C) "__class__" = some (some (.builtin "object.__class__")))
  (hn:ya K (.builtin "object.__class__") "__get__" = some (some (.builtin "getset_descriptor.__get__"))) (ht:y6 K (.builtin "object.__class__")=some true) (mo:zB K C (.type "object")=some true) (be:wA K (.ref C) (.type "BaseException")=some true):ExIs K C:=by
 obtain⟨cd,hcd,_⟩:=any_some hc;refine⟨ga,gn,λod=>?_,mo,be,by rw[hcd];rfl⟩;unfold CH;rw[hcd,yq,ha,yq];simp only[hn,ht,yq]
theorem mG {K:ac}{a C:Addr}{oe:Obj}{odo:Option Obj}(q:ExIs K C):KitX K (.ref a) (.ref C) (λh=>zi h a oe C odo) where
 ty:=λ_ _ _ I=>I.type
 it:=λ_ _ KX _=>by
  have z:=q.is;unfold clsIn at z;split at z;next lk =>
   intro A' Q' E' s' k w;unfold isType loadHead;exact bd (wpAny_loadPart (k _ _ (KX _ _ lk)) (lw w))
  ·cases z
 ne:=λh tp dd its n sl KX g=>zJ.mpr λe=>by
  have e':C=tp:=Value.ref.inj (beq_iff_eq.mp e);subst e';have z:=q.is;unfold clsIn at z;split at z;next lk=>cases (KX _ _ lk).symm.trans g
  ·cases z
 ca:=λKX I k=>pP KX I q.ga q.gn (q.cl _) q.mo q.be k
section
variable {Y:Cx}{a C Dc:Addr}{oe:Obj}{vs:Array bi}{b:Bool}
theorem j5:∀ {ds:List Addr} {us:List bi},Vals (ds.map V.ref) us->us=ds.map Value.ref
 | [],_,.nil=>rfl
 | d::ds,_,.cons r rr=>by rw[j5 rr,show _=Value.ref d from r];rfl
end
section
variable {K:ac}{pr:Nat->Bool}{t u:TS}{a b:AS}{S:ASp}{ts:TA}{as:AA}{th:Addr->TS}{ah:AS}{i:Nat}
def aOr2 (a b:AS):AS:=λk ρ=>a k ρ∨b k ρ
theorem kf (h1:TSok K pr t a)(h2:TSok K pr u b):TSok K pr (λD σ H=>t D σ H∨u D σ H) (aOr2 a b):=λF σ ρ H D e hp r ha k=>ha.elim (λz=>.inl (h1 F σ ρ H D e hp r z k)) λz=>.inr (h2 F σ ρ H D e hp r z k)
end
section
variable {X:Cx}{pins:List (Addr×Obj)}{σ σ1:St}{H H1:Hp}{s s1:bn}{h':Heap}{e C:Addr}
def mcx (X:Cx)(e:Addr):Cx:={X with A:=X.A.mark (some (.ref e)),calm:=false,xe:=λ_ _=>False}
theorem Inv.mcx (I:Inv X pins σ H s)(e:Addr):Inv (mcx X e) pins σ H s :=
 ⟨⟨I.ok.mod,I.ok.kind,I.ok.glob,I.ok.blt,I.ok.above,I.ok.inj,I.ok.has,I.ok.cab,λz=>(nomatch z),I.ok.frames,I.ok.stk,I.ok.exf,I.ok.bs,I.ok.bsz,I.ok.noex,I.ok.exfs,I.ok.funs,I.ok.frf⟩,I.os,I.bare,I.base,I.loc,I.cell,I.free,I.freeC,I.pin,I.hok,I.len⟩
theorem Inv.trackX {od:Option Addr}(I1:Inv X pins σ1 H1 s1)(I:Inv X pins σ H s)(hex:X.ex=[])(ue:H e=none)(y:s1.heap.get? e=none)(hp:exP e C od s.heap):Inv X pins σ (upd H e (.ext (exP e C od))) s:=by
 obtain⟨oe,vs,ge,gc,gd,gf⟩:=id hp;have y0:=I1.back0 hex y;have ne:∀ {b:Addr} {o:HO},H b=some o->b≠e:=λz w=>by rw[w,ue]at z;cases z
 have n0:∀b o,X.s₀.heap.get? b=some o->b≠e:=λb o q z=>by rw[z,y0]at q;cases q
 have nL:X.env.locals≠e:=λz=>by
  obtain⟨m1,⟨o1,_,_,ho1,_⟩,_⟩:=id I1.loc;rw[z,y]at ho1;cases ho1
 have nC:∀x c,X.env.cells.lookup x=some c->c≠e:=λx c q z=>by
  obtain⟨v,o1,ho1,_⟩:=I1.cell x c q;rw[z,y]at ho1;cases ho1
 refine⟨I.ok,I.os,I.bare,⟨I.base.keep,I.base.slot,λb o q n x=>?_,I.base.there,λb xs q=>?_,λb o u q=>?_,λb ps q=>?_⟩,I.loc,I.cell,?_,λx c q=>?_,λp hp'=>?_,λa o q=>?_,I.len⟩
 ·rw[aI (n0 b o q)];exact I.base.free b o q n x
 ·have:=I.base.tups b xs q;rw[aI (ne this)];exact this
 ·have:=I.base.frzs b o u q;rw[aI (ne this)];exact this
 ·obtain⟨more,this⟩:=I.base.tbls b ps q;exact⟨more,by rw[aI (ne this)];exact this⟩
 ·rw[aI nL];exact I.free
 ·rw[aI (nC x c q)];exact I.freeC x c q
 ·obtain⟨p1,p2,p3,p4,p5⟩:=I.pin p hp';refine⟨p1,?_,p3,p4,p5⟩;rw[aI λz=>?_]
  ·exact p2
  ·have:=(I1.pin p hp').1;rw[z,y]at this;cases this
 ·by_cases z:a=e
  ·subst z;rw[aX]at q;cases q
   exact⟨hp,⟨oe,ge⟩,λh1 h2 ⟨oe,vs,g1,g2,g3,g4⟩ k=>⟨oe,vs,k _ g1,g2,g3,g4⟩⟩
  ·rw[aI z]at q;exact(I.hok a o q).stay (λ_ _ _ w=>w) (λb w=>by rw[aI (ne w)];exact w) λb xs w=>by rw[aI (ne w)];exact w
theorem Inv.goes {m:Str->Option bi}{v:Option bi}{n:Str}{i:Nat}{t':Nat}(I:Inv (L2.mcx X e) pins σ H s)(ok:X.Ok)(hN:X.N.Nodup)(hi:X.N[i]? = some n)(hm:∀(i:Nat) (x:Str) (v:V),X.N[i]? = some x->σ[i]? = some (some v)->Vis X.env.scope x->∃u,RelV v u/\Look X.env s.heap m x u)(sb:w_ X.env.locals s.heap h')(hn:h'.Ns X.env.locals (λx=>if x=n then v else m x)) :
  Inv X pins (σ.set i none) H {s with heap:=h',toks:=t'}:=by
 have kp:∀b o,b≠X.env.locals->s.heap.get? b=some o->h'.get? b=some o:=λb o n q=>(sb.2 b n).trans q;have n0:∀b o,X.s₀.heap.get? b=some o->b≠X.env.locals:=λb o q=>wm (o0 (lc q) I.ok.above);have cl:∀x c,X.env.cells.lookup x=some c->c≠X.env.locals:=λx c q z=>by
  obtain⟨v,oc,hoc,hdc⟩:=I.cell x c q;obtain⟨m,⟨o,es,ep,ho,hdo,_⟩,_⟩:=id I.loc;rw[z]at hoc;cases hoc.symm.trans (show s.heap.get? X.env.locals=some o from ho)
  rw[hdc]at hdo;cases hdo
 refine⟨ok,I.os,I.bare,⟨λb o q n f x=>kp b o (n0 b o q) (I.base.keep b o q n f x),λb o q n f x=>?_,I.base.free,λb o q x=>?_,I.base.tups,I.base.frzs,I.base.tbls⟩,⟨_,hn,λj x v' a1 a2 a3=>?_⟩,λx c q=>?_,I.free,I.freeC,λp hp=>?_,λa o q=>?_,by rw[xF];exact I.len⟩
 ·obtain⟨sl,q'⟩:=I.base.slot b o q n f x;exact⟨sl,kp b _ (n0 b o q) q'⟩
 ·obtain⟨o',q'⟩:=I.base.there b o q x;exact⟨o',kp b o' (n0 b o q) q'⟩
 ·have ij:i≠j:=λz=>by
   subst z;have:i<σ.length:=by rw[I.len];exact(lm.mp hi).1
   rw[wO this]at a2;cases a2
  rw[pc ij]at a2;obtain⟨u,ru,lk⟩:=hm j x v' a1 a2 a3;refine⟨u,ru,?_⟩;have xn:x≠n:=λz=>by
   subst z;have l1:=(lm.mp hi).1;have:=(List.getElem?_inj l1 hN).mp (hi.trans a1.symm);exact ij this
  rcases lk with⟨z1,z2⟩ | ⟨z1,c,z2,oc,z3,z4⟩
  ·exact .inl ⟨z1,by show(if x=n then v else m x)=some u;rw[if_neg xn];exact z2⟩
  ·exact .inr ⟨z1,c,z2,oc,kp c oc (cl x c z2) z3,z4⟩
 ·obtain⟨v,oc,hoc,hdc⟩:=I.cell x c q;exact⟨v,oc,kp c oc (cl x c q) hoc,hdc⟩
 ·obtain⟨p1,p2,p3,p4,p5⟩:=I.pin p hp;exact⟨kp _ _ p3 p1,p2,p3,p4,p5⟩
 ·refine(I.hok a o q).stay (λb u hb z=>kp b u (λw=>?_) z) (λ_ z=>z) λ_ _ z=>z;have fr:H b=none:=by rw[w];exact I.free
  rcases hb with hb | hb
  ·rw[<- hb,fr]at q;cases q
  ·rw[fr]at hb;cases hb
end
structure ECls (C:Addr)(h:Heap):Prop where
 obj:∃bm N nm q bs hdct sn sub ab col dd k0 k1 k2 k3 k5,h.get? C=some (yh nm q C N bs bm hdct sn sub ab col dd k0 k1 k2 k3 k5 "ValueError.__new__")/\Ag h bmV bm
def di (K:ac)(C:Addr):Bool:=match K.lookup C with
 | some ⟨.type "type",_,.cls cd,sl⟩=>(match cd.mro,sl.toList with
  | .ref C'::bm,[_,_,_,_,some (.builtin n),_]=>C'==C&&n == "ValueError.__new__" && !cd.hasDel&&CN K bmV bm
  | _,_=>false)
 | _=>false
theorem ecls {K:ac}{h:Heap}{C:Addr}(KX:K.In h)(q:di K C=true):ECls C h:=by
 unfold di at q;split at q;next dd cd sl lk =>
  split at q;next C' bm k0 k1 k2 k3 n k5 em es =>
   simp only[wC,beq_iff_eq,yo]at q;obtain⟨⟨⟨rfl,rfl⟩,nd⟩,tl⟩:=q;obtain⟨a1,a2,a3,a4,a5,a6,a7,a8,a9,a10,a11⟩:=cd;obtain⟨l⟩:=sl;dsimp only at em nd es;subst em nd es;exact⟨bm,a4,a1,a5,a2,a6,a7,a8,a9,a10,dd,k0,k1,k2,k3,k5,KX _ _ lk,Ad KX tl⟩
  ·cases q
 ·cases q
theorem kI {M:Bp}{A:wy}{E:bi->bn->Prop}{h:Heap}{g:Array B3}{d:Drawn}{t:Nat}{os:OsState}{e C Dc:Addr}{oe:Obj}{Q:Bool->bn->Prop}{b:Bool}
  (oD:ECls Dc h) (ge:h.get? e=some oe) (gc:oe.cls = .ref C) (hs:∀(A':wy) (E':bi->bn->Prop) (Q':Bool->bn->Prop),Q' b ⟨h,g,d,t,os⟩->nw M A' (isSubtype (.ref C) (.ref Dc)) Q' E' ⟨h,g,d,t,os⟩)
  (hq:Q b ⟨h,g,d,t,os⟩):nw M A (excMatches (.ref e) (.ref Dc)) Q E ⟨h,g,d,t,os⟩:=by
 obtain⟨b2,N2,m2,q2,s2,c2,n2,u2,a2,l2,d2,k20,k21,k22,k23,k25,hD,T2⟩:=oD.obj;have hB:(Value.ref Dc::b2).contains (.type "BaseException")=true:=by rw[xU,T2.hasType (b:=true) (by decide +kernel),AL]
 have f:=tc_notTuple;unfold excMatches;repeat (first | (with_reducible refine xu ge ?_;rw[gc]) | with_reducible refine xu hD ?_ | (with_reducible refine zE hD ?_;rw[hB]) | wp_step)
 refine hs _ _ _ ?_;cases b with
 | true =>
  repeat wp_step
  exact hq
 | false =>
  repeat wp_step
  exact hq
def goE (i:Nat)(D:Ends):Ends:={nx:=λσ H=>D.nx (σ.set i none) H,rt:=D.rt,bk:=λσ H=>D.bk (σ.set i none) H,ct:=λσ H=>D.ct (σ.set i none) H}
section
variable {X:Cx}{K:ac}{S:ASp}
def HB (X:Cx)(C:Addr)(od:Option Addr)(hs:List yQ)(tH:Addr->TS):Prop :=
 ∀(a:Addr) (D:Ends) (pins:List (Addr×Obj)) (σ:St) (H1 H2:Hp) (s1 s3:bn),Inv X pins σ H1 s1->Inv X pins σ H2 s3->Hot od s1.heap s3.heap H2 a C->tH a D σ H2 ->
  nw (pp X.prog X.w) X.A (handleBy (.ref a) X.env hs) (SP X pins D) X.xe s3
def rh (C:Addr)(i:Nat)(od:Option Addr)(th:TS):Addr->TS:=λa D σ H=>th (goE i D) (σ.set i (some (.ref a))) (upd H a (.ext (exP a C od)))
theorem pG {i:Nat}{y n:Str}{C Dc:Addr}{od:Option Addr}{np hpos:Pos}{suite:List Stmt}{b0:Stmt}{rest:List yQ}{th:TS}
  (hex:X.ex=[]) (hy:X.mg y=some (.ref Dc)) (q2:di X.K Dc=true) (q3:wA X.K (.ref C) (.ref Dc)=some true)
  (hN:X.N.Nodup) (hi:X.N[i]? = some n) (hloc:X.env.scope.names.lookup n=some .local) (hh:∀a,PSs (mcx X a) (b0::suite) th) (hgy:Gl X y:=by rfl) (hdy:(y==("__debug__" : Str))=false:=by decide) :
  HB X C od (.ExceptHandler (some (.Name y np)) (some n) (b0::suite) hpos::rest) (rh C i od th):=by
 intro a D pins σ H1 H2 s1 s3 I1 I3 hot3 hW;obtain⟨oe3,vs3,hv3,ge3,gc3,gd3,gf3,g13,y3,u3,hh3⟩:=id hot3;refine Dg (C0 (eE (I3.mcx a) hgy hy ?_ hdy)) (by intro q;cases q);refine kI (b:=true) (ecls I3.kIn q2) ge3 gc3 (λA' E' Q' q=>(BL I3.kIn q3).at q) (codeAny_handlers_suite_as ?_);refine sfI I3 hot3 λh4 ch4 hch4 un4 hok4 ⟨oe4,vs4,ge4,gc4,gd4,gf4⟩=>?_;have I4:=Inv.hot I1 I3 hex un4 hok4 hch4;have I4':=(Inv.trackX (C:=C) (od:=od) I1 I4 hex u3 y3 ⟨oe4,vs4,ge4,gc4,gd4,gf4⟩).mcx a;refine g5 (X:=L2.mcx X a) (v:=.ref a) I4' hN hi (.inl hloc) rfl (λs5 I5 _=>?_) (.inr hloc);refine wG (hh a pins s5 _ _ (goE i D) I5 hW) (λfl s6 q6=>?_) λ_ _ z=>wD z;have go:∀ {σ6:St} {H6:Hp} {Q:Unit->bn->Prop},Inv (L2.mcx X a) pins σ6 H6 s6->(∀s7,Inv X pins (σ6.set i none) H6 s7->Q () s7)->nw (pp X.prog X.w) X.A (do bindName X.env n .none;unbindBehindTheSuite X.env n hpos) Q X.xe s6:=λI6 k=>by
  obtain⟨m6,hn6,hm6⟩:=id I6.loc;refine wpAny_nameGoes_keeps hloc hn6 (by show(X.env.scope.kind==_||_)=_;rw[I3.ok.kind];rfl) λh7 v7 hn7 hs7=>?_;exact k _ (I6.goes I3.ok hN hi hm6 hs7 hn7)
 cases fl with
 | next=>obtain⟨σ6,H6,I6,q⟩:=q6;exact go I6 λs7 I7=>⟨_,H6,I7,q⟩
 | brk=>obtain⟨σ6,H6,I6,q⟩:=q6;exact go I6 λs7 I7=>⟨_,H6,I7,q⟩
 | cont=>obtain⟨σ6,H6,I6,q⟩:=q6;exact go I6 λs7 I7=>⟨_,H6,I7,q⟩
 | ret u=>obtain⟨v,σ6,H6,I6,rv,q⟩:=q6;exact go I6 λs7 I7=>⟨v,_,H6,I7,rv,q⟩
theorem tj {y:Str}{n:Option Str}{C Dc:Addr}{od:Option Addr}{np hpos:Pos}{suite:List Stmt}{rest:List yQ}{tH:Addr->TS}
  (hy:X.mg y=some (.ref Dc)) (q2:di X.K Dc=true) (q3:wA X.K (.ref C) (.ref Dc)=some false) (hr:HB X C od rest tH) (hgy:Gl X y:=by rfl) (hdy:(y==("__debug__" : Str))=false:=by decide) :
  HB X C od (.ExceptHandler (some (.Name y np)) n suite hpos::rest) tH:=by
 intro a D pins σ H1 H2 s1 s3 I1 I3 hot3 hW;obtain⟨oe3,vs3,hv3,ge3,gc3,gd3,gf3,g13,y3,u3,hh3⟩:=id hot3;refine Dg (C0 (eE (I3.mcx a) hgy hy ?_ hdy)) (by intro q;cases q);refine kI (b:=false) (ecls I3.kIn q2) ge3 gc3 (λA' E' Q' q=>(BL I3.kIn q3).at q) ?_;exact hr a D pins σ H1 H2 s1 s3 I1 I3 hot3 hW
theorem ly {k:Nat}{x:Str}{ps:List Str}{C:Addr}{fn:Option Str}{p cpos pos:Pos}{e:Expr}{es:List Expr}{t:TA}{body:List Stmt}{h0:yQ}{hs:List yQ}{tH:Option Addr->Addr->TS}
  (F:OkX X.prog X.w X.K X.mg X.base k x ps C fn (spA K S)) (hr:Room k X.A) (hc:X.calm=true) (hex:X.ex=[]) (hst:X.stack=X.env::X.outer) (hfr:X.env.frame=some X.env.locals) (ha:PA X.nox (e::es) t)
  (hb1:qg X body (.Call (.Name x p) (e::es) [] cpos)) (hH:∀od,HB X C od (h0::hs) (tH od))
  (hg:Gl X x:=by rfl) (hdb:(x==("__debug__" : Str))=false:=by decide) (he:wq (e::es) X.env=(false,eval e X.env)::wq es X.env:=by rfl) (hpl:(yt cpos (wq es X.env)).any (·.1)=false:=by rfl) :
  PS X (.Try body (h0::hs) [] [] pos) (λD σ H=>t σ H λvs H1=>spA K S (vs++[]) H1 (λv H'=>∀a od,H' a=none->Fld H' fn od v->(∀dx,od=some dx->H1 dx=none)->tH od a D σ H') E0):=by
 intro pins s σ H D I h;obtain⟨f,fd,hm,hk,hb,F⟩:=F.ex;refine DU (hb1 _ _ pins σ H _ I ?_);refine zO (eE I hg hm ?_ hdb);refine BX (h₀:=X.base) I.ok.mod.kin hk (wG (ha cpos pins s σ H _ (I.wish _) h) (λus s1 ⟨vs,H1,I1w,r,q⟩=>⟨I1w.unwish.kIn,?_⟩) λ_ _ z=>wD z) he hpl;have I1:=I1w.unwish;have q':spX C fn (spA K S) (vs++[]) H1 (λ_ _=>False) (λu cls H'=>cls=some C/\∃v od,u=odV od/\Fld H' fn od v/\∀a od,H' a=none->Fld H' fn od v->(∀dx,od=some dx->H1 dx=none)->tH od a D σ H'):=by
  obtain⟨ss,Z,q',a1,a2,a3⟩:=q;exact⟨ss,Z,q',a1,a2,λr ss' v H' b1 b2 b3 b4 od hf=>⟨rfl,v,od,rfl,hf,a3 r ss' v H' b1 b2 b3 b4⟩⟩
 have hl:(us++[]).length=ps.length:=by
  rw[<- (r.append (.nil:Vals [] [])).length];exact F.len (vs++[]) H1 _ _ q'
 refine A0 (Ac (F.run X.A X.stack s1 H1 ⟨us,[]⟩ (us++[]) (vs++[]) _ _ hr I1.env0 (hb s1 us I1.kIn hl) (r.append .nil) q') λrr s2 hq=>?_);cases rr with
 | ok fl =>
  cases fl with
  | ret u=>obtain⟨_,_,_,_,_,_,_,z⟩:=hq;exact z.elim
  | next=>exact wD hq
  | brk=>exact wD hq
  | cont=>exact wD hq
 | error ev =>
  obtain⟨a,C',od,H2,rfl,os,bare,un,hok,hot,hyg,hC,v,od',hO,hF,hW⟩:=hq;cases hC
  obtain rfl:od=od':=by
   cases od <;> cases od' <;> first | rfl | cases hO <;> rfl
  have I2:Inv X pins σ H2 s2:=I1.call' os un hok bare λb z=>nomatch z;have sub1:∀b o,s1.heap.get? b=some o->b<s2.heap.objs.size:=λb o q=>by
   obtain⟨o',q'⟩:=un.there b o q λz=>nomatch z
   exact lc q'
  refine lvI I2 hst hfr sub1 hot λh3 ch3 hch3 _ un3 hok3 hot3=>?_;have I3:=Inv.hot I1 I2 hex un3 hok3 λb hb=>(hch3 b hb).1;obtain⟨oe3,vs3,hv3,ge3,gc3,gd3,gf3,g13,y3,u3,hh3⟩:=id hot3;refine hH od a D pins σ H1 H2 s1 _ I1 I3 hot3 (hW a od u3 hF λdx e=>?_);cases z:H1 dx with
  | none=>rfl
  | some o =>
   obtain⟨u,z'⟩:=I1.hok.get z;rw[hyg dx e]at z';cases z'
theorem lC {n:Str}{c:Expr}{np pos:Pos}(hs:zd c (some (.Name n np)) pos.line X.env=pure false:=by rfl):qg X [.Assign [.Name n np] c pos] c:=λQ E pins σ H s I h =>
 z8 (Bi (thn h λ_ _ z=>z.elim) hs)
end
section
variable {X:Cx}{R:VK}{E:XK}{C:Addr}{fn:Option Str}{K:ac}{S:ASp}
theorem rz {st:Stmt}{t u:TS}(h1:PSr X R st t)(h2:PSr X R st u):PSr X R st (λD σ H=>t D σ H∨u D σ H):=λpins s σ H D e I h=>h.elim (h1 pins s σ H D e I) (h2 pins s σ H D e I)
end
section
variable {Y:Cx}(K:ac)
def rIsX (K:ac)(c:V)(u:bi):List V->Hp->VK->Prop:=λxs H Q=>∃a C od b,xs=[.ref a,c]/\H a=some (.ext (exP a C od))/\(∀dx,od=some dx->H dx≠none)/\ExIs K C/\sK K (.ref C) u=some b/\Q (.bl b) H
theorem mI {pins:List (Addr×Obj)}{σ:St}{H:Hp}{s:bn}{a C:Addr}{od:Option Addr}(I:Inv Y pins σ H s)(h:H a=some (.ext (exP a C od)))(hd:∀dx,od=some dx->H dx≠none):∃oe odo,zi s.heap a oe C odo:=by
 obtain⟨⟨oe,vs,ge,gc,gd,gf⟩,_,_⟩:=I.hok a _ h;cases od with
 | none=>exact⟨oe,none,ge,gc,by unfold notCls;rw[gf],by rw[gd];trivial⟩
 | some dx =>
  cases z:H dx with
  | none=>exact absurd z (hd dx rfl)
  | some o =>
   obtain⟨u,z'⟩:=I.hok.get z;exact⟨oe,some u,ge,gc,by unfold notCls;rw[gf],by rw[gd];exact z'⟩
theorem fU {c:V}{u:bi}(rc:∀u',RelV c u'->u'=u)(hK:Y.K=K:=by rfl):gL Y (.builtin "isinstance") (rIsX K c u):=by
 subst hK;intro pins s σ H xs us Q I r h;obtain⟨a,C,od,b,rfl,hH,hd,q,hk,h⟩:=h;cases r with
 | cons r1 rr =>
  cases rr with
  | cons r2 rr =>
   cases rr
   cases (show _=Value.ref a from r1)
   rw[rc _ r2];obtain⟨oe,odo,it⟩:=mI I hH hd;exact kia_one (mG q) I.kIn it hk (by intro z;cases z) λtk=>⟨.bl b,H,I.tok tk,rfl,h⟩
def uv (K:ac)(ds:List Addr):List V->Hp->VK->Prop:=λxs H Q=>∃a p C od b,xs=[.ref a,.ref p]/\H a=some (.ext (exP a C od))/\(∀dx,od=some dx->H dx≠none)/\H p=some (.tup (ds.map V.ref))/\ExIs K C/\xP K (.ref C) (ds.map Value.ref)=some b/\Q (.bl b) H
theorem nX {ds:List Addr}(hK:Y.K=K:=by rfl):gL Y (.builtin "isinstance") (uv K ds):=by
 subst hK;intro pins s σ H xs us Q I r h;obtain⟨a,p,C,od,b,rfl,hX,hd,hH,q,hk,h⟩:=h;cases r with
 | cons r1 rr =>
  cases rr with
  | cons r2 rr =>
   cases rr
   cases (show _=Value.ref a from r1)
   cases (show _=Value.ref p from r2)
   obtain⟨_,its,rv,ot,g1,g2,n,g3⟩:=I.hok p _ hH;obtain⟨oc,od,oda,osl⟩:=ot;simp only at g2 g3;subst g2 g3;rw[j5 rv]at g1;obtain⟨oe,odo,it⟩:=mI I hX hd;exact kia_tup (mG q) I.kIn it g1 hk (by intro z;cases z) λtk=>⟨.bl b,H,I.tok tk,rfl,h⟩
end
section
variable {K:ac}{pr:Nat->Bool}{F:Fr}{σ:St}{ρ:En}{H:Hp}{th:TS}{ah:AS}{S:ASp}{ts:TA}{as:AA}{ta:TE}{a:AE}
theorem Rel.gone (r:Rel K F σ ρ H){i:Nat}(hm:∀a,¬F.pin i a):Rel K F (σ.set i none) (pt ρ i .un) H:=by
 rcases wu i ρ.length with hi | hi;case inr =>
  rw[mw ρ i .un hi,yG (by rw[r.len];exact hi)];exact r
 have sub:∀a,bF (σ.set i none) (pt ρ i .un) a->bF σ ρ a:=λa ⟨j,hj,e⟩=>by
  obtain⟨ij,hj⟩:=cU rfl hj;rw[pc ij]at e;exact⟨j,hj,e⟩
 have vis:Same (hid H (hs F σ ρ)) (hid H (hs F (σ.set i none) (pt ρ i .un))):=bB λa o e n=>⟨e,λz=>n (z.imp id (sub a))⟩
 refine⟨by rw[xF,dW,r.len],r.fr,r.zl,λa h=>r.zo a (sub a h),λj a hj e=>?_,λj a h=>?_,r.ml,r.ma,λj k a hj hk ej ek=>?_,λj=>?_⟩
 ·obtain⟨ij,hj⟩:=cU rfl hj;rw[pc ij]at e;exact r.ow j a hj e
 ·have:i≠j:=λe=>hm a (e▸h);rw[pc this];exact r.mi j a h
 ·obtain⟨nj,hj⟩:=cU rfl hj;obtain⟨nk,hk⟩:=cU rfl hk;rw[pc nj]at ej;rw[pc nk]at ek;exact r.nd j k a hj hk ej ek
 ·by_cases ij:i=j
  ·subst ij;rw[ir ρ i .un hi];trivial
  ·rw[bC ρ i j _ ij,pc ij];exact(r.sl j).keep vis λ_ _ _ _ e=>e
def goA (i:Nat)(k:AEnds):AEnds:=⟨λρ=>k.nx (pt ρ i .un),k.rt,λρ=>k.bk (pt ρ i .un),λρ=>k.ct (pt ρ i .un)⟩
def exF:Option Str->R->Option (Option (List (Str×D)))
 | none,_=>some none
 | some f,r=>match r.frz with
  | .d d=>some (some [(f,d)])
  | _=>none
theorem qM {f:Str}{r:R}{fs:Option (List (Str×D))}(h:exF (some f) r=some fs):∃d,r.frz = .d d/\fs=some [(f,d)]:=by
 unfold exF at h;dsimp only at h;split at h;next d e=>cases h;exact⟨d,e,rfl⟩
 ·cases h
def rN (C:Addr)(fn:Option Str)(i:Nat)(ah:AS)(r:R):AS:=λk ρ=>match exF fn r with
 | some fs=>ah (goA i k) (pt ρ i (.ex C fs))
 | none=>False
def vM (ca:AE)(ah:R->AS):AS:=λk ρ=>ca ρ λr ρ1=>ah r k ρ1
theorem jw {fn:Option Str}{tH:Option Addr->Addr->TS}{aH:R->AS}(ht:TAok K ts as)
  (hh:∀(F:Fr) (σ:St) (ρ:En) (H1 H':Hp) (D:Ends) (k:AEnds) (r:R) (v:V) (a:Addr) (od:Option Addr),(∀i a,F.pin i a->pr i=true)->Rel K F σ ρ H'->InF K F σ ρ H' v r.frz->aH r k ρ->qY K F D k->H' a=none->Fld H' fn od v->(∀dx,od=some dx->¬hs F σ ρ dx)->tH od a D σ H') :
  TSok K pr (λD σ H=>ts σ H λvs H1=>spA K S (vs++[]) H1 (λv H'=>∀a od,H' a=none->Fld H' fn od v->(∀dx,od=some dx->H1 dx=none)->tH od a D σ H') E0) (vM (vw S as) aH):=by
 intro F σ ρ H D k hp r ha ko;refine ht F σ ρ H _ _ r ha λrs ρ1 vs H1 h1 r1 i1 k1=>?_;obtain⟨hd,hS⟩:=h1;have s:=i1.srcs;rw[yb];refine⟨rs.map (cN ρ1),(fe F σ ρ1 H1 (vs.map some) (rs.map (cN ρ1))).Z,_,r1.sub s hd,hS,λrr ss' v H' hq sb no out a od hn hf hdx=>?_⟩;have o:Out K F σ ρ1 H1 (back ρ1 rs ss') v H' rr:=by
  cases rr with
  | o i=>exact absurd rfl (no i)
  | d d =>
   obtain⟨a,b⟩:=out;obtain⟨x,y,z⟩:=r1.back s hd a sb;exact⟨x,y,RepD.same b z⟩
  | x sv =>
   obtain⟨a,b,c⟩:=out;obtain⟨x,y,z⟩:=r1.back s hd a sb;exact⟨x,y,b,c.keep z λl o ho=>by rw[b]at ho;cases ho⟩
  | t n =>
   obtain⟨a,b⟩:=out;obtain⟨x,y,z⟩:=r1.back s hd a sb;exact⟨x,y,b⟩
  | n sv =>
   obtain⟨Hb,l,o,a,b,c,e1,e2,e3⟩:=out;obtain⟨x,y,z⟩:=r1.back s hd a sb;exact⟨Hb,l,o,x,y,b,c.keep z λ_ _ _ _ e=>e,e1,e2,e3⟩
 obtain⟨r',k',i'⟩:=o.inF;refine hh F σ _ H1 H' D k rr v a od hp r' i' hq ko hn hf λdx e z=>?_;rcases z with z | z
 ·exact(r1.zl dx z).1 (hdx dx e)
 ·exact de r1 (k'.so z) (hdx dx e)
theorem jV {C:Addr}{fn:Option Str}{i:Nat}(hi:pr i=false)(hh:TSok K pr th ah) :
  ∀(F:Fr) (σ:St) (ρ:En) (H1 H':Hp) (D:Ends) (k:AEnds) (r:R) (v:V) (a:Addr) (od:Option Addr),(∀i a,F.pin i a->pr i=true)->Rel K F σ ρ H'->InF K F σ ρ H' v r.frz->rN C fn i ah r k ρ->qY K F D k->H' a=none->Fld H' fn od v->(∀dx,od=some dx->¬hs F σ ρ dx)->rh C i od th a D σ H':=by
 intro F σ ρ H1 H' D k r v a od hp r' i' z ko hn hf hd;have np:=ph hp hi;unfold rN at z;split at z;next fs ef =>
  have hx:exD K (hid (upd H' a (.ext (exP a C od))) (hs F σ ρ)) fs od:=by
   cases fn with
   | none=>cases ef;obtain⟨rfl,_⟩:=hf;trivial
   | some f =>
    obtain⟨dx,rfl,hdx⟩:=hf;obtain⟨d,er,ef⟩:=qM ef
    ·subst ef;rw[er]at i';have na:dx≠a:=bg hdx hn;refine⟨[(f,v)],dh (hd dx rfl) (by rw[aI na];exact hdx),rfl,?_⟩;show RepDs K _ [v] [d];unfold RepDs RepDs;refine⟨RepD.same (show RepD K (hid H' (hs F σ ρ)) v d from i') (bB λb o e n=>⟨by rw[aI (bg e hn)];exact e,n⟩),trivial⟩
  have rf:=(r'.fresh (o:=.ext (exP a C od)) hn).setS (i:=i) (v:=.ref a) (s:=.ex C fs) rfl ⟨a,od,rfl,dh (fP r' hn) aX,hx⟩ np;exact hh F _ _ _ (goE i D) (goA i k) hp rf z ⟨λσ2 ρ2 H2 q r2=>ko.nx _ _ _ q (r2.gone np),λσ2 ρ2 H2 q r2=>ko.bk _ _ _ q (r2.gone np),λσ2 ρ2 H2 q r2=>ko.ct _ _ _ q (r2.gone np),ko.rt⟩
 ·exact z.elim
theorem kJ {fs:Option (List (Str×D))}{od:Option Addr}{S:Addr->Prop}(h:exD K (hid H S) fs od):∀dx,od=some dx->H dx≠none:=by
 rintro dx rfl;cases fs with
 | none=>exact h.elim
 | some fs =>
  obtain⟨ks,h1,_⟩:=h;rw[(bX.mp h1).2];exact λz=>nomatch z
def aIsX (K:ac)(i:Nat)(u:bi):AE:=λρ q=>match gt ρ i with
 | .ex C _=>∃b,ExIs K C/\sK K (.ref C) u=some b/\q (.d (.bl b)) ρ
 | _=>False
theorem jt {i:Nat}{c:V}{u:bi}:TEok K (tCB (rIsX K c u) (j_ (tVar i) (j_ (tC c) tNil))) (aIsX K i u):=by
 intro F σ ρ H q Q a h b;have s:=a.sl i;unfold aIsX at h;split at h
 ·rename_i C fs hg;rw[hg]at s;obtain⟨e,od,e1,e2,e3⟩:=s;obtain⟨b',h1,h2,h3⟩:=h;exact⟨.ref e,e1,e,C,od,b',rfl,(bX.mp e2).2,kJ e3,h1,h2,b.bl a h3⟩
 ·exact h.elim
def vp (K:ac)(i:Nat)(us:List bi):AE:=λρ q=>match gt ρ i with
 | .ex C _=>∃b,ExIs K C/\xP K (.ref C) us=some b/\q (.d (.bl b)) ρ
 | _=>False
def rY:List Addr->TA
 | []=>tNil
 | d::ds=>j_ (tC (.ref d)) (rY ds)
theorem me {σ:St}{H:Hp}:∀ {ds:List Addr} {Q:List V->Hp->Prop},Q (ds.map V.ref) H->rY ds σ H Q
 | [],_,h=>h
 | d::ds,Q,h=>me (ds:=ds) (Q:=λvs H'=>Q (.ref d::vs) H') h
theorem qp {i:Nat}{ds:List Addr}(hz:ds.length<=v5):TEok K (tCB (uv K ds) (j_ (tVar i) (j_ (tTup (rY ds)) tNil))) (vp K i (ds.map Value.ref)):=by
 intro F σ ρ H q Q a h b;have s:=a.sl i;unfold vp at h;split at h
 ·rename_i C fs hg;rw[hg]at s;obtain⟨e,od,e1,e2,e3⟩:=s;obtain⟨b',h1,h2,h3⟩:=h;refine⟨.ref e,e1,me ⟨by rw[db];exact hz,λp hp=>⟨e,p,C,od,b',rfl,?_,λdx ed=>?_,aX,h1,h2,?_⟩⟩⟩
  ·have:=(bX.mp e2).2;rw[aI λz=>?_]
   ·exact this
   ·rw[z,hp]at this;cases this
  ·by_cases z:dx=p
   ·rw[z,aX];exact λw=>nomatch w
   ·rw[aI z];exact kJ e3 dx ed
  ·exact(b.after (.fresh hp)).bl (a.fresh hp) h3
 ·exact h.elim
end
end L2
namespace L2
open PySem PySem.Spec PyProof.Rows Builtin
theorem iO:fillsNumberSlot (.type "tuple") "mul" = pure false :=
 PySem.fillsNumberSlot_seq (id := "tuple.__mul__") (r:=some (.builtin "tuple.__rmul__")) Br.lookup (by decide +kernel) Dq.lookup (by decide +kernel)
theorem nh:seqRepeat? (.type "tuple")=pure (some (.builtin "tuple.__mul__")):=by
 unfold seqRepeat?;rw[CL (T := "tuple") (name := "__mul__") (id := "tuple.__mul__") Br.lookup (by decide +kernel),CL (T := "tuple") (name := "__rmul__") (id := "tuple.__rmul__") Dq.lookup (by decide +kernel)];rfl
theorem qt (a:Int)(t:Tok)(l:Addr)(items:Array bi)(n:Nat)(d:Option Addr)(sl:Array (Option bi)) :
  Meets (Builtin.«int.__rmul__» ⟨[.int a t,.ref l],[]⟩) (λ_ R s=>s.heap.get? l=some {cls:=.type "tuple",dict:=d,data:=.seq items n,slots:=sl}/\R (.ok (.ret Value.notImplemented)) s) :=
 .of_wp λprog w A R s h=>by obtain⟨hp,g,d,tk,os⟩:=s;obtain⟨hl,h⟩:=h;wp_walk;exact⟨_,rfl,h⟩
theorem sU (l:Addr)(items:Array bi)(n:Nat)(d:Option Addr)(sl:Array (Option bi))(x:Int)(u:Tok)(h1:1<x)(h2:x<=1000)(h3:0<items.size)(h4:items.size<=1000) :
  Meets (Builtin.«tuple.__mul__» ⟨[.ref l,.int x u],[]⟩) (λ_ R s=>s.heap.get? l=some {cls:=.type "tuple",dict:=d,data:=.seq items n,slots:=sl}/\R (.ok (.ret (Value.ref s.heap.objs.size))) {s with heap:=s.heap.push {cls:=Value.type "tuple",data:=Data.seq (Bt (λx1 x2=>x1++x2) #[] (im x.toNat items))}}) :=
 .of_wp λprog w A R s h=>by
  obtain⟨hp,g,d,tk,os⟩:=s;obtain⟨hl,h⟩:=h;have c1:¬(decide (x < -2^63)||decide (x>=2^63))=true:=by simp;omega
  have c2:¬(items.isEmpty||x==1)=true:=by
   simp;refine⟨λz=>?_,by omega⟩;rw[z]at h3;simp at h3
  have c3:¬(decide (x<=0)||items.isEmpty)=true:=by
   simp;refine⟨by omega,λz=>?_⟩;rw[z]at h3;simp at h3
  have h5:(items.size:Int)*x<=1000000:=by
   have:=Int.mul_le_mul (show(items.size:Int)<=1000 by omega) h2 (by omega) (by omega);omega
  have c4:¬(items.size:Int)*x > (2^63 - 1) / 8:=by omega
  have c5:¬Tuple.tupleTooMany ((items.size:Int)*x)=true:=by
   unfold Tuple.tupleTooMany v5;simp only[decide_eq_true_eq];omega
  have c6:¬(Bt (λx1 x2=>x1++x2) #[] (im x.toNat items)).size > v5:=by
   have e:=jQ items.toList x.toNat #[];rw[Array.toArray_toList]at e;rw[e];have h6:=DA (show x.toNat<=1000 by omega) h4;have:(#[]++((im x.toNat items.toList).flatten).toArray).size=x.toNat*items.size:=by
    simp[Ci]
   rw[this];exact zC.mpr (small h6)
  wp_walk
  rw[if_neg c1]
  wp_walk
  rw[if_neg c4]
  wp_walk
  exact⟨_,rfl,h⟩
section
variable {X:Cx}(K:ac)
def ur (K:ac):R2:=λx y H Q=>∃a xs,∃n:Nat,x = .ref a/\y = .int (n:Nat)/\SqT K H a xs/\1<n/\n<=1000/\0<xs.length/\xs.length<=1000/\∀p,H p=none->Q (.ref p) (upd H p (.tup (im n xs).flatten))
theorem sM (hK:X.K=K:=by rfl):OpR X (y4 .Mult) (ur K):=by
 subst hK;intro pins s σ H x y v u Q I rx ry h;obtain⟨a,xs,n,rfl,rfl,ha,hn1,hn,hx0,hx,q⟩:=h;cases rx
 obtain⟨t,rfl⟩:=ry;obtain⟨its,r1,p1,_⟩:=I.tuple ha;obtain⟨⟨cls,dd,data,sl⟩,ho,hc,m,hd⟩:=id p1;simp only at hc hd;subst hc hd;have hl:its.length=xs.length:=r1.length.symm;have ho':s.TypeIs (.ref a) "tuple" := ⟨_,ho,rfl⟩
 refine wpAny_binaryOp_repeat_ref (T := "tuple") (U := "int") (by decide) ho' (λs'=>Dt s' n t) iO F.fills_int_mul DR nh F.slot_int_index.lookup ?_;refine A6 DR (Dt s n t) F.entry_int_rmul (F.args_int_rmul_2 _ _) (qt n t a its.toArray m dd sl) ⟨ho,rfl,ho',?_⟩;have hM:=sU a its.toArray m dd sl (n:Int) t (by omega) (by omega) (by rw[kt];omega) (by rw[kt];omega);refine A6 Br ho' F.entry_tuple_mul (F.args_tuple_mul_2 _ _) hM ⟨ho,?_⟩;have e:Bt (λx1 x2=>x1++x2) #[] (im (n:Int).toNat its.toArray)=((im n its).flatten).toArray:=by
  rw[xE,jQ];simp
 rw[e];refine⟨.ref s.heap.objs.size,_,I.laid (t':=s.toks) (o:=.tup (im n xs).flatten) (λb ob q=>bv _ q) (ms _) ?_,rfl,q _ (I.hok.fresh (ms _))⟩;refine⟨?_,(im n its).flatten,l7 r1 n,_,wa _ rfl,rfl,0,rfl⟩;refine small ?_;have:=DA hn hx;simp only[Ci,As,List.sum_replicate_nat];exact this
end
section
variable {K:ac}
def gRepT:R->R->AE:=λr1 r2 ρ q=>match view ρ r1,r2 with
 | some (.tup ds),.d (.int n)=>(1<n/\n<=1000/\0<ds.length/\ds.length<=1000)/\q (.d (.tup (im n.toNat ds).flatten)) ρ
 | _,_=>False
theorem qB:OpOk K (ur K) gRepT:=by
 intro F σ ρ H x y r1 r2 q Q a h1 h2 h b;unfold gRepT at h;split at h
 ·rename_i ds n e1;obtain⟨⟨c1,c2,c3,c4⟩,h⟩:=h;obtain⟨l,vs,rfl,sq,rd,sv⟩:=dG a h1 e1;obtain⟨m,rfl⟩:=yN (show 0<=n by omega);exact⟨l,vs,m,rfl,h2.int,sq,by omega,by omega,by rw[rd.length];exact c3,by rw[rd.length];exact c4,λp hp=>b.newT a h (rd.reps _) hp⟩
 ·exact h.elim
end
end L2
namespace L2
open PySem PySem.Spec PyProof.Rows
def Itw (K:ac)(l:Addr)(n:Nat):It :=
 ⟨λi H=>∃xs x,SqL K H l xs/\xs.length=n/\i<n/\xs[n - 1 - i]? = some x,λi H x H'=>H'=H/\∀xs,SqL K H l xs->xs[n - 1 - i]? = some x,λi H=>n<=i⟩
theorem qm {P:v3}{w:wz}{K:ac}{tg:Expr}(a it:Addr)(n:Nat):Turn P w K tg (Itw K a n) [it] it (λi h=>i<=n/\h.IsRevIter it a ((n:Int) - 1 - (i:Int))) where
 mem:=by simp
 obj:=λi h st b hb=>by
  have e:b=it:=by simpa using hb
  subst e;obtain⟨_,o,e,c,d⟩:=st;exact⟨o,e,λv z=>by rw[d]at z;cases z⟩
 keep:=λi h h' st k=>⟨st.1,st.2.at λo e=>k it (by simp) o e⟩
 item:=by
  intro X hP hw hK hc i pins s σ H E I hf st hg;subst hP hw hK;obtain⟨xs,x,hq,hn,hi,hx⟩:=hg;obtain⟨its,rv,p,hz⟩:=I.list hq;obtain⟨u,hu,ru⟩:=rv.get hx;obtain⟨f0,f1,f2,f3,f4,f5⟩:=hf it (by simp);have st2:=st.2;rw[show(n:Int) - 1 - (i:Int)=((n - 1 - i:Nat):Int)by omega]at st2;refine wpAny_pyNext_rev_item st2 p.isList (x:=u) (by simpa using hu) λh' st' sb=>?_;have I1:Inv X pins σ H {s with heap:=h'}:=I.turned (t':=s.toks) (λb o hb e=>(sb.2 b hb).trans e) f0 f1 f3 f4 f5;rw[show((n - 1 - i:Nat):Int) - 1=(n:Int) - 1 - ((i+1:Nat):Int)by omega]at st';obtain⟨o,e,c,d⟩:=id st';exact⟨u,rfl,pI (s:={s with heap:=h'}) e c d (by decide) ⟨x,H,I1,ru,⟨rfl,λys hy=>by rw[I.list_inj hy hq];exact hx⟩,⟨by omega,st'⟩,λb hb=>(hf b hb).1⟩⟩
 done:=by
  intro X hP hw hK hc i pins s σ H E I hf st hg;subst hP hw hK;obtain⟨f0,f1,f2,f3,f4,f5⟩:=hf it (by simp);have hg':n<=i:=hg;have st2:=st.2;have st1:=st.1;rw[show(n:Int) - 1 - (i:Int) = -1 by omega]at st2;exact wpAny_pyNext_rev_end (I.ok.hd hc) st2 λh' eb=>⟨rfl,I.turned (t':=s.toks) (λb o hb e=>eb b o hb e) f0 f1 f3 f4 f5⟩
 self:=λ_ _ _ _ _ st h=>C7 st.2 h
def iRev (K:ac)(t:TA):TI:=λσ H R=>t σ H λvs H1=>∃l xs,vs=[.ref l]/\SqL K H1 l xs/\R (Itw K l xs.length) H1
theorem oW (K:ac){X:Cx}{tg:Expr}{a:Expr}{ta:TA}{p pos:Pos}(hg:Gl X "reversed")(hm:X.mg "reversed" = none)(ha:PA X [a] ta)(hK:X.K=K:=by rfl)(hs:wq [a] X.env=[(false,eval a X.env)]:=by rfl) :
  PI X tg (.Call (.Name "reversed" p) [a] [] pos) (iRev K ta):=by
 subst hK;intro pins s σ H R I h;refine CB (eF I hg hm iG (wN (thn (ha pos pins s σ H _ I h) λus s1 ⟨vs,H1,I1,r1,q1⟩=>?_) hs rfl));obtain⟨l,xs,rfl,h1,q⟩:=q1;obtain⟨u,rfl,ru⟩:=k9 r1;cases ru
 obtain⟨its,rv,p1,_⟩:=I1.list h1;have hl:=rv.length;refine call_reversed_list p1.isList ?_;have it:Heap.IsRevIter (s1.heap.push (revObj l ((its.toArray.size:Int) - 1))) s1.heap.objs.size l ((xs.length:Int) - 1 - ((0:Nat):Int)):=⟨_,wa _ rfl,rfl,by rw[kt,<- hl];simp[revObj]⟩
 refine C7 it ?_;refine⟨s1.heap.objs.size,[s1.heap.objs.size],_,_,H1,rfl,I1.kept (t':=s1.toks) λb o e=>bv _ e,qm l _ xs.length,⟨wp _,it⟩,λb hb=>?_,q⟩;have e:b=s1.heap.objs.size:=by simpa using hb
 subst e;exact I1.fpOk (ms _) (I1.hok.fresh (ms _))
section
variable {K:ac}{ts:TA}{as:AA}
theorem tX {S:Addr->Prop}{H:Hp}{a:Addr}{vs:List V}{ds:List D}(h:SqL K H a vs)(rd:RepDs K (hid H S) vs ds):WkAt K S H (Itw K a vs.length) ds.reverse:=by
 have hl:=rd.length;intro k;constructor
 ·intro d e;have hk:k<ds.length:=by
   have:=(lm.mp e).1;rwa [xq]at this
  rw[yi hk]at e;obtain⟨v,e1,rv⟩:=rd.get e;rw[<- hl]at e1;refine⟨⟨vs,v,h,rfl,by omega,e1⟩,λx H' z=>⟨z.1▸Same.refl H,?_⟩⟩;have:=z.2 vs h;rw[e1]at this;cases this;rw[z.1];exact rv
 ·intro z;rw[xq]at z;show vs.length<=k;omega
theorem n3 {pin:Nat->Bool}{ρ:En}{r:R}{ds:List D}{c:En->Prop}(e:k8 pin ρ r=some (ds,c)):c ρ:=by
 cases r with
 | n s=>cases e
 | t n=>cases e
 | x n=>cases e
 | d d =>
  cases d with
  | lst es=>simp only[k8,xI,z9]at e;rw[<- e.2];trivial
  | _=>cases e
 | o i =>
  unfold k8 at e;cases hg:gt ρ i with
  | ow es =>
   simp only[hg]at e;split at e
   ·simp only[xI,z9]at e;rw[<- e.2];exact hg
   ·cases e
  | _=>simp[hg]at e
def aRvd (pin:Nat->Bool)(as:AA):AI:=λρ q=>as ρ λrs ρ1=>match rs with
 | [r1]=>(match k8 pin ρ1 r1 with
  | some (ds,c)=>q ds.reverse c ρ1
  | _=>False)
 | _=>False
theorem ju {pin:Nat->Bool}(h:TAok K ts as):TIok K pin (iRev K ts) (aRvd pin as):=by
 intro F σ ρ H q Rk r ha k;refine h F σ ρ H _ _ r ha λrs ρ1 vs H1 h1 r1 i1 k1=>?_;split at h1
 ·obtain⟨x,rfl,ix⟩:=i1.one;split at h1
  ·rename_i ds c e1;obtain⟨l1,us1,rfl,s1,w1⟩:=qk r1 ix e1;obtain⟨v0,z0,rd0⟩:=w1 σ ρ1 H1 (Same.refl _) r1.sl (λ_ _ _ e=>e) (n3 e1);refine⟨l1,v0,rfl,z0,k _ _ _ _ _ h1 r1 k1 λσ2 ρ2 H2 sm sv pn al hc=>?_⟩;obtain⟨v1,z1,rd1⟩:=w1 σ2 ρ2 H2 sm sv pn hc;have:=tX z1 rd1;rw[rd1.length,<- rd0.length]at this;exact this
  ·exact h1.elim
 ·exact h1.elim
end
theorem iw {prog:v3}{w:wz}{A:wy}(hh:A.handled=none)(it l:Addr)(hne:l≠it)(xs:Array bi) :
  DT prog w A it [it,l] xs.size (λi v=>xs[i]? = some v) (λi h=>h.IsTupleIter it l i/\h.IsTuple l xs) where
 live:=λ_ _ st=>let ⟨o,ho,_⟩:=st.1;⟨o,ho⟩
 frame:=λ_ _ _ st hk=>(jT (prog:=prog) (w:=w) hne).keep _ _ _ st λb o hb e=>hk b hb o e
 item:=λi s Q E hi st hQ=>(jT hne).item A i s xs[i] Q E st (by simp[hi]) λh' st' sb=>hQ _ h' s.toks (by simp[hi]) st' sb
 done:=λs Q E st hE=>(jT hne).fin A xs.size s Q E hh st (by simp) hE
open AutoSeq1 (wpAny_loadPart') in
theorem lP (l:Addr)(xs:Array bi) :
  Meets (Builtin.«enumerate.__new__» ⟨[.type "enumerate",.ref l],[]⟩) (λ_ R s=>s.heap.IsTuple l xs /\
   R (.ok (.ret (.ref (s.heap.push {cls:=.type "tuple_iterator",data:=.fields #[.ref l,.int 0 0]}).objs.size)))
    {s with heap:=(s.heap.push {cls:=.type "tuple_iterator",data:=.fields #[.ref l,.int 0 0]}).push {cls:=.type "enumerate",data:=.fields #[.none,.bool false,.ref s.heap.objs.size,wK 0,.none,.none]}}) :=
 .of_wp λprog w A R s h=>by
  obtain⟨hp,g,d,tk,os⟩:=s;obtain⟨hl,h⟩:=h;have hsub:=sub_enumerate;have hL:Heap.IsTuple (Shared.heap ⟨hp,g,d,tk,os⟩) l xs:=hl
  wp_walk
  refine wpAny_stack_any λst=>lw ?_;split
  ·rename_i c _ _ _ _ _;cases (c==Value.type "enumerate")
   ·wp_walk using zN hL
    exact⟨_,rfl,h⟩
   ·wp_walk using zN hL
    exact⟨_,rfl,h⟩
  ·wp_walk using zN hL
   exact⟨_,rfl,h⟩
theorem jh {prog:v3}{w:wz}{A:wy}{E:bi->bn->Prop}{s:bn}{l:Addr}{xs:Array bi}{Q:bi->bn->Prop}(hL:s.heap.IsTuple l xs)
  (h:∀h',B2 h' (s.heap.objs.size+1) s.heap.objs.size 0 .none->h'.IsTupleIter s.heap.objs.size l 0->h'.objs.size=s.heap.objs.size+2 ->
   (∀b o,s.heap.get? b=some o->h'.get? b=some o)->Q (.ref (s.heap.objs.size+1)) {s with heap:=h'}) :
  nw (pp prog w) A (call (.type "enumerate") [.ref l]) Q E s:=by
 refine callType_new F.called_enumerate (by decide) (F.typeCall_enumerate_1 _) (F.newCall_enumerate_1 _) (λobj=>F.args_object_init_2 obj _) F.entry_enumerate_new
  (lP l xs) ⟨hL,?_⟩
 have hz:(s.heap.push {cls:=.type "tuple_iterator",data:=.fields #[.ref l,.int 0 0]}).objs.size=s.heap.objs.size+1:=xL ..;show _/\_;rw[hz];have he:B2 ((s.heap.push {cls:=.type "tuple_iterator",data:=.fields #[.ref l,.int 0 0]}).push
   {cls:=.type "enumerate",data:=.fields #[.none,.bool false,.ref s.heap.objs.size,wK 0,.none,.none]}) (s.heap.objs.size+1) s.heap.objs.size 0 .none:=by
  have:=wa (s.heap.push {cls:=.type "tuple_iterator",data:=.fields #[.ref l,.int 0 0]})
   (o:={cls:=.type "enumerate",data:=.fields #[.none,.bool false,.ref s.heap.objs.size,wK 0,.none,.none]}) rfl
  rw[hz]at this;exact this
 refine⟨⟨_,he,rfl⟩,h _ he ⟨_,bv _ (wa _ rfl),rfl,rfl⟩ (by rw[xL,hz]) λb o x=>bv _ (bv _ x)⟩
def Itf (K:ac)(l:Addr)(n:Nat):It :=
 ⟨λi H=>∃xs x,SqT K H l xs/\xs.length=n/\xs[i]? = some x,λi H v H'=>∃p x,v = .ref p/\H p=none/\H'=upd H p (.tup [.int (i:Nat),x])/\∀xs,SqT K H l xs->xs[i]? = some x,
  λi H=>n<=i/\∃xs,SqT K H l xs/\xs.length=n⟩
theorem m3 {P:v3}{w:wz}{K:ac}{elts:List Expr}{x1}{tpos:Pos}{e it l:Addr}{n:Nat}(ne:e≠it)(nl:l≠it)(nel:e≠l) :
  Turn P w K (.Tuple elts x1 tpos) (Itf K l n) [e,it] e (λi h=>((∃old,B2 h e it (i:Nat) old)/\h.IsTupleIter it l i)/\i<=n) where
 mem:=by simp
 obj:=λi h st b hb=>by
  obtain⟨⟨⟨old,he⟩,⟨o1,e1,c1,d1⟩⟩,_⟩:=st;simp only[we,xJ,or_false]at hb;rcases hb with rfl | rfl
  ·exact⟨_,he,λv q=>by cases q⟩
  ·exact⟨o1,e1,λv q=>by rw[d1]at q;cases q⟩
 keep:=λi h h' st k=>by
  obtain⟨⟨⟨old,he⟩,h1⟩,hi⟩:=st;exact⟨⟨⟨old,k e (by simp) _ he⟩,h1.at λo q=>k it (by simp) o q⟩,hi⟩
 item:=by
  intro X hP hw hK hc i pins s σ H E I hf st hg;subst hP hw hK;obtain⟨xs,x,q1,hln,hx⟩:=hg;obtain⟨⟨⟨old,he⟩,h1⟩,hin⟩:=st;obtain⟨its,rv,p1,_⟩:=I.tuple q1;have hxi:=(lm.mp hx).1;obtain⟨u,hu,ru⟩:=rv.get hx;have hlt:i<its.toArray.size:=by rw[kt];exact(lm.mp hu).1
  refine Co (iw (show X.A.in1.handled=none from I.ok.hd hc) it l nl its.toArray) he ⟨h1,p1⟩ hlt ne (by simp[ne,nel]) λy h' tk hy a1 a2 a3 a4 hk=>?_;have ey:y=u:=by
   have hy':its[i]? = some y:=by simpa using hy
   rw[hu]at hy';cases hy';rfl
  subst ey;refine⟨_,rfl,wpAny_letOwnedTupleGo_enum (s:={s with heap:=h',toks:=tk+1}) a1 λh2' he' hs'=>?_⟩;have hs2:w_ e h' h2':=hs';have ls:∀ {b o},s.heap.get? b=some o->b≠s.heap.objs.size:=λe=>wm (lc e);have es:e≠s.heap.objs.size:=ls he;have up:∀b o,b∉[e,it]->s.heap.get? b=some o->h2'.get? b=some o:=λb o hb q=>by
   simp only[we,xJ,or_false,not_or]at hb;exact(hs2.2 b hb.1).trans (hk b o hb.1 hb.2 q)
  have I1:Inv X pins σ H {s with heap:=h2',toks:=tk+1}:=I.turns (t':=tk+1) up hf;have fp:FpOk X pins H s.heap.objs.size:=I.fpOk (ms _) (I.hok.fresh (ms _));have g:h2'.get? s.heap.objs.size=some {cls:=.type "tuple",data:=.seq #[.int i tk,y]}:=(hs2.2 _ (xc es)).trans a3;have I2:=I1.trackO (o:=.tup [.int (i:Nat),x]) fp ⟨by show 2<=v5;decide,[.int i tk,y],.cons ⟨_,rfl⟩ (.cons ru .nil),_,g,rfl,_,rfl⟩;refine⟨.ref s.heap.objs.size,upd H s.heap.objs.size (.tup [.int (i:Nat),x]),I2,rfl,⟨_,x,rfl,fp.1,rfl,λzs hz=>by rw[I.tuple_inj hz q1];exact hx⟩,?_,λb hb=>?_⟩
  ·refine⟨⟨⟨y,by simpa using he'⟩,?_⟩,by omega⟩;obtain⟨o,q,r⟩:=a2.1;exact⟨o,(hs2.2 it (xc ne)).trans q,r⟩
  ·have hb':=(hf b hb).1;have ne':b≠s.heap.objs.size:=by
    obtain⟨o1,e1,_⟩:=h1;simp only[we,xJ,or_false]at hb;rcases hb with rfl | rfl
    ·exact ls he
    ·exact ls e1
   rw[aI ne'];exact hb'
 done:=by
  intro X hP hw hK hc i pins s σ H E I hf st hg;subst hP hw hK;obtain⟨hni,xs,q1,hl⟩:=hg;obtain⟨⟨⟨old,he⟩,h1⟩,hin⟩:=st;obtain⟨its,rv,p1,_⟩:=I.tuple q1;have l1:=rv.length;have ei:i=its.toArray.size:=by rw[kt];omega
  subst ei;refine CD (iw (show X.A.in1.handled=none from I.ok.hd hc) it l nl its.toArray) he ⟨h1,p1⟩ λh' hk=>⟨rfl,I.turns (ch:=[e,it]) (t':=s.toks) (λb o hb q=>?_) hf⟩
  simp only[we,xJ,or_false,not_or]at hb;exact hk b o hb.2 q
 self:=λ_ _ _ _ _ st h=>by obtain⟨⟨⟨old,he⟩,_⟩,_⟩:=st;exact Bg he h
def rH (K:ac)(t:TA):TI:=λσ H R=>t σ H λvs H1=>∃l xs,vs=[.ref l]/\SqT K H1 l xs/\R (Itf K l xs.length) H1
theorem qz (K:ac){X:Cx}{elts:List Expr}{x1}{tpos:Pos}{a:Expr}{ta:TA}{p pos:Pos}(hg:Gl X "enumerate")(hm:X.mg "enumerate" = none)(ha:PA X [a] ta)(hK:X.K=K:=by rfl)(hs:wq [a] X.env=[(false,eval a X.env)]:=by rfl) :
  PI X (.Tuple elts x1 tpos) (.Call (.Name "enumerate" p) [a] [] pos) (rH K ta):=by
 subst hK;intro pins s σ H R I h;refine CB (eF I hg hm gE (wN (thn (ha pos pins s σ H _ I h) λus s1 ⟨vs,H1,I1,r1,q1⟩=>?_) hs rfl));obtain⟨l,xs,rfl,h1,q⟩:=q1;obtain⟨u,rfl,ru⟩:=k9 r1;cases ru
 obtain⟨its,_,p1,_⟩:=I1.tuple h1;have lt:l<s1.heap.objs.size:=by obtain⟨o,e,_⟩:=id p1;exact lc e
 refine jh p1 λh' he hi hsz hk=>?_;refine Bg he ?_;refine⟨_,_,_,_,H1,rfl,I1.kept (t':=s1.toks) hk,m3 (show s1.heap.objs.size+1≠s1.heap.objs.size by omega) (wm lt) (xc (wm (C4 lt))),⟨⟨⟨_,he⟩,hi⟩,wp _⟩,λb hb=>?_,q⟩;have le:s1.heap.objs.size<=b:=by
  simp only[we,xJ,or_false]at hb;rcases hb with rfl | rfl <;> omega
 exact I1.fpOk le (I1.hok.fresh le)
section
variable {K:ac}{ts:TA}{as:AA}
theorem qi {S:Addr->Prop}{H:Hp}{l:Addr}{vs:List V}{ds:List D}(al:∀a,S a->H a≠none)(h1:SqT K H l vs)(r1:RepDs K (hid H S) vs ds):WkAt K S H (Itf K l vs.length) (gK 0 ds):=by
 intro k;constructor
 ·intro d e;obtain⟨x,ex,rfl⟩:=dD e;rw[x5];obtain⟨v,e1,rv⟩:=r1.get ex;refine⟨⟨vs,v,h1,rfl,e1⟩,λz H' ⟨p,a,ez,hp,eH,ha⟩=>?_⟩;have a1:=ha vs h1;rw[e1]at a1;cases a1
  subst eH ez;have sm:Same H (upd H p (.tup [.int (k:Nat),v])):=(Same.refl H).new hp;have sm':Same (hid H S) (hid (upd H p (.tup [.int (k:Nat),v])) S):=bB λa o e n=>⟨sm a o e,n⟩
  refine⟨sm,?_⟩;unfold RepD;exact⟨p,[.int (k:Nat),v],rfl,(dh (λz=>al p z hp) aX),.cons (by unfold RepD;rfl) (.cons (rv.same sm') .nil)⟩
 ·intro z;rw[bG]at z;exact⟨by rw[r1.length];exact z,vs,h1,rfl⟩
def vq (as:AA):AI:=λρ q=>as ρ λrs ρ1=>match rs with
 | [.d (.tup ds)]=>q (gK 0 ds) (λ_=>True) ρ1
 | _=>False
theorem m7 {pin:Nat->Bool}(h:TAok K ts as):TIok K pin (rH K ts) (vq as):=by
 intro F σ ρ H q Rk r ha k;refine h F σ ρ H _ _ r ha λrs ρ1 vs H1 h1 r1 i1 k1=>?_;split at h1
 ·rename_i ds;obtain⟨x,rfl,ix⟩:=i1.one;have rd:RepD K _ x (.tup ds):=ix;unfold RepD at rd;obtain⟨a,vs,rfl,sq,rd⟩:=rd;refine⟨a,vs,rfl,bQ.seqT sq.sq,k _ _ _ _ _ h1 r1 k1 λσ2 ρ2 H2 sm sv pn al hc=>?_⟩;exact qi (λa z=>(al a z).1) (bQ.seqT (sm.seqT sq.sq)) (rd.same sm)
 ·exact h1.elim
end
end L2
namespace L2
open PySem PySem.Spec PyProof.Rows PySem.W
section
variable {prog:v3}{w:wz}{A:wy}{E:bi->bn->Prop}{h:Heap}{g:Array B3}{d:Drawn}{t:Nat}{os:OsState}
variable {nm q:Str}{C N:Addr}{bs bm bmB:List bi}{hdct:Bool}{sn:List Str}{sub:List bi}{ab:Bool}{col:Option Bool}{dd:Option Addr}{k0 k1 k2 k3 k5:Option bi}{B newId initId:String}
theorem iL (F:CW B newId initId bmB)(T:Ag h bmB bm){mN:Str->Option bi}{rest:List bi}{fI:Addr}{oI:Obj}{Q:Fin->bn->Prop}
  (hC:h.get? C=some (yh nm q C N bs bm hdct sn sub ab col dd k0 k1 k2 k3 k5 newId)) (hn:h.Ns N mN) (hi:mN "__init__" = some (.ref fI)) (hfI:h.get? fI=some oI) (hfc:oI.cls = .type "function")
  (hq:∀h' e,Bu h h' e (.ref C) rest->nw (pp prog w) A (call (.ref fI) (.ref e::rest)) (λr s'=>r = .none/\Q (.done (.ret (.ref e))) s') E ⟨h',g,d,t,os⟩) (hrest:rest.length<=v5) :
  nw (pp prog w) A (Builtin.«type.__call__» ⟨.ref C::rest,[]⟩) Q E ⟨h,g,d,t,os⟩:=by
 repeat (first | with_reducible refine xu hC ?_ | with_reducible refine wpAny_madeBy_exc hC ?_ | wp_step)
 refine codeAny_call_builtin_code (CA _ F.quiet) (wpAny_check_new_subT F T hC ?_);refine codeAny_exc_new_subT F T hC ?_ hrest;show nw _ _ _ _ _ _;have hC₁:=bv {cls:=.ref C,data:=.fields #[.ref h.objs.size,.none,.none,.none,.bool false,.none]}
  (bv {cls:=.type "tuple",data:=.seq rest.toArray} hC)
 have hfI₁:=bv {cls:=.ref C,data:=.fields #[.ref h.objs.size,.none,.none,.none,.bool false,.none]}
  (bv {cls:=.type "tuple",data:=.seq rest.toArray} hfI)
 have hn₁:((h.push {cls:=.type "tuple",data:=.seq rest.toArray}).push {cls:=.ref C,data:=.fields #[.ref h.objs.size,.none,.none,.none,.bool false,.none]}).Ns N mN :=
  let ⟨o,es,ep,e,r⟩:=hn;⟨o,es,ep,bv _ (bv _ e),r⟩
 have hget:((h.push {cls:=.type "tuple",data:=.seq rest.toArray}).push
   {cls:=.ref C,data:=.fields #[.ref h.objs.size,.none,.none,.none,.bool false,.none]}).get? (h.objs.size+1)=some
   {cls:=.ref C,data:=.fields #[.ref h.objs.size,.none,.none,.none,.bool false,.none]}:=by heap_get
 have hcC:(Value.ref C::bm).contains (.ref C)=true:=by simp
 have T₁:=T.keeps (h':=(h.push {cls:=.type "tuple",data:=.seq rest.toArray}).push {cls:=.ref C,data:=.fields #[.ref h.objs.size,.none,.none,.none,.bool false,.none]})
  λb o e=>bv _ (bv _ e)
 unfold BR;repeat (first | with_reducible refine xu hget ?_ | (with_reducible refine zE hC₁ ?_;rw[hcC]) | wp_step)
 show nw _ _ (A2 (.ref C) _) _ _ _;refine wpAny_typeLookup_tail hC₁ hn₁ T₁ F.mroIs F.init.lookup ?_;rw[hi];refine yp (bd ?_);unfold bindSpecial;refine bd (Aa (T := "function") ⟨_,hfI₁,hfc⟩ ?_);rw[if_pos (by decide)];refine lw (bd (wG (hq _ (h.objs.size+1) ⟨λb o hb=>bv _ (bv _ hb),yr (Ea _),h.objs.size,hget,yr (ms _),?_⟩) (λr s' hr=>?_) λ_ _ x=>x))
 ·exact bv _ (CU rfl rfl)
 ·obtain⟨rfl,hQ⟩:=hr
  wp_walk
  exact hQ
theorem pZ (F:CW B newId initId bmB)(T:Ag h bmB bm){mN:Str->Option bi}{rest:List bi}{fI:Addr}{oI:Obj}{Q:bi->bn->Prop}
  (hC:h.get? C=some (yh nm q C N bs bm hdct sn sub ab col dd k0 k1 k2 k3 k5 newId)) (hn:h.Ns N mN) (hi:mN "__init__" = some (.ref fI)) (hfI:h.get? fI=some oI) (hfc:oI.cls = .type "function")
  (hq:∀h' e,Bu h h' e (.ref C) rest->nw (pp prog w) (A.under (.builtin "type.__call__" ⟨.ref C::rest,[]⟩)) (call (.ref fI) (.ref e::rest)) (λr s'=>r = .none/\Q (.ref e) s') E ⟨h',g,d,t,os⟩) (hrest:rest.length<=v5) :
  nw (pp prog w) A (call (.ref C) rest) Q E ⟨h,g,d,t,os⟩:=by
 have f1:=tc_lookup;have f2:=tc_bind (.ref C);have hT:(⟨h,g,d,t,os⟩:bn).TypeIs (.ref C) "type" := ⟨_,hC,rfl⟩
 refine A0 (D5 ?_);show nw _ _ (callAny (.ref C) _) _ _ _;repeat (any_goals (first | assumption | with_reducible refine xu hC ?_ | wp_step))
 refine⟨rfl,?_⟩;refine codeAny_call_builtin_at (CA _ (by decide +kernel)) entry_typeCall (wpAny_check_type_call_sub hC (iL (hrest:=hrest) F T hC hn hi hfI hfc λh' e hm=>?_));exact hq h' e hm
end
section
variable {M:Bp}{A:wy}{E:bi->bn->Prop}{env:Env}
variable {nm q:Str}{C N:Addr}{bs bm:List bi}{hdct:Bool}{sn:List Str}{sub:List bi}{ab:Bool}{col:Option Bool}{dd:Option Addr}{k0 k1 k2 k3 k5:Option bi}{newId:String}
theorem iM {s:bn}{x:Sem bi}{Q:Flow->bn->Prop}(hbase:bm.contains (.type "BaseException")=true)(hh:A.handled=none)
  (h:nw M A x (λv s₁=>∃e t od,v = .ref e/\s₁.heap.get? C=some (yh nm q C N bs bm hdct sn sub ab col dd k0 k1 k2 k3 k5 newId) /\
   s₁.heap.get? e=some {cls:=.ref C,dict:=od,data:=.fields #[.ref t,.none,.none,.none,.bool false,.none]}/\E (.ref e) s₁) E s) :
  nw M A (raiseStmt env (some x) none) Q E s:=by
 have hcB:(Value.ref C::bm).contains (.type "BaseException")=true:=by rw[xU,hbase,AL]
 unfold raiseStmt;refine bd (wG h (λv s₁ h₁=>?_) λ_ _ x=>x);obtain⟨e,t,od,rfl,hC,he,hE⟩:=h₁;obtain⟨hp,g,d,tk,os⟩:=s₁;repeat (first | with_reducible refine xu he ?_ | with_reducible refine xu hC ?_ | (with_reducible refine zE hC ?_;rw[hcB]) | wp_step)
 exact wpAny_raiseNew_none hh hE
end
section
variable {prog:v3}{w:wz}{A:wy}{E:bi->bn->Prop}{s:bn}{env:Env}
variable {nm q:Str}{C N:Addr}{bs bm bmB:List bi}{hdct:Bool}{sn:List Str}{sub:List bi}{ab:Bool}{col:Option Bool}{dd:Option Addr}{k0 k1 k2 k3 k5:Option bi}{B newId initId:String}
theorem iJ (F:CW B newId initId bmB){mN:Str->Option bi}{x:Str}{np cpos pos:Pos}{args:List Expr}{Q:Flow->bn->Prop}{fI:Addr}{oI:Obj}
  (hbase:bm.contains (.type "BaseException")=true) (hh:A.handled=none) (hplain:(yt cpos (wq args env)).any (·.1)=false) (hi:mN "__init__" = some (.ref fI)) (hfc:oI.cls = .type "function")
  (h:nw (pp prog w) A (eval (.Name x np) env) (λf s₁=>f = .ref C/\nw (pp prog w) A (evalArgs (.ref C) true (yt cpos (wq args env)) [])
   (λa s₂=>a.kw=[]/\a.pos.length<=v5/\s₂.heap.get? C=some (yh nm q C N bs bm hdct sn sub ab col dd k0 k1 k2 k3 k5 newId)/\s₂.heap.Ns N mN/\Ag s₂.heap bmB bm/\s₂.heap.get? fI=some oI /\
    ∀h' e,Bu s₂.heap h' e (.ref C) a.pos->nw (pp prog w) (A.under (.builtin "type.__call__" ⟨.ref C::a.pos,[]⟩)) (call (.ref fI) (.ref e::a.pos))
     (λr s'=>r = .none/\s'.heap.get? C=some (yh nm q C N bs bm hdct sn sub ab col dd k0 k1 k2 k3 k5 newId)/\∃t od,s'.heap.get? e=some {cls:=.ref C,dict:=od,data:=.fields #[.ref t,.none,.none,.none,.bool false,.none]}/\E (.ref e) s') E {s₂ with heap:=h'}) E s₁) E s) :
  nw (pp prog w) A (exec (.Raise (some (.Call (.Name x np) args [] cpos)) none pos) env) Q E s:=by
 rw[arm_exec_Raise];refine bd (yO (iM (C:=C) (nm:=nm) (q:=q) (N:=N) (bs:=bs) (bm:=bm) (hdct:=hdct) (sn:=sn) (sub:=sub) (ab:=ab) (col:=col) (dd:=dd) (k0:=k0) (k1:=k1) (k2:=k2) (k3:=k3) (k5:=k5) (newId:=newId) hbase hh (bd (wG (wpAny_Call_ofName (wG h (λf s₁ h₁=>?_) λ_ _ x=>x)) (λv s₃ h₃=>bd (yO (lw h₃))) λ_ _ x=>x))));obtain⟨rfl,h₁⟩:=h₁;unfold callWith;refine bd (yp (wG h₁ (λa s₂ h₂=>bd (yO ?_)) λ_ _ x=>x));obtain⟨apos,akw⟩:=a;obtain⟨hkw,hlen,hC,hn,T,hfI,h₂⟩:=h₂;obtain rfl:akw=[]:=hkw;obtain⟨hp,g,d,tk,os⟩:=s₂;simp only[hplain];refine bd (wpAny_keeperOf_exc hC ?_);refine bd (pZ (hrest:=hlen) F T hC hn hi hfI hfc λh' e hm=>wG (h₂ h' e hm) (λr s' ⟨hr,hC',t,od,he,hE⟩=>⟨hr,?_⟩) λ_ _ x=>x);exact bd (yp (wpAny_point (lw ⟨e,t,od,rfl,hC',he,hE⟩)))
end
end L2
namespace L2
open PySem PySem.Spec PyProof.Rows PySem.W Builtin Builtin.ObjectAttr
theorem lx {h:Heap}{bmB l:List bi}(T:Ag h bmB l)(self:bi)(what:Str):refuseLoop self what l=refuseLoop self what bmB:=by
 induction T with
 | base=>rfl
 | own _ _ _ _ ih=>rw[refuseLoop_ref,ih]
section
variable {prog:v3}{w:wz}{A:wy}{E:bi->bn->Prop}{h:Heap}{g:Array B3}{d:Drawn}{t:Nat}{os:OsState}{K:ac}
variable {nm q:Str}{C N x:Addr}{bs bm:List bi}{sn:List Str}{sub:List bi}{ab:Bool}{col:Option Bool}{dd:Option Addr}{k0 k1 k2 k3 k5:Option bi}{newId:String}{hdct:Bool}{name:Str}{v:bi}{o:Obj}
theorem p7 (T:Ag h bmV bm){u:bi}{od:Option Addr}{t0:Addr}{Q:bi->bn->Prop}(hC:h.get? C=some (yh nm q C N bs bm hdct sn sub ab col dd k0 k1 k2 k3 k5 "ValueError.__new__"))
  (he:h.get? x=some {cls:=.ref C,dict:=od,data:=.fields #[.ref t0,.none,.none,.none,.bool false,.none]})
  (hq:∀h',(∀b ob,b≠x->h.get? b=some ob->h'.get? b=some ob)->(∃t1,h'.get? x=some {cls:=.ref C,dict:=od,data:=.fields #[.ref t1,.none,.none,.none,.bool false,.none]})->Q .none ⟨h',g,d,t,os⟩) :
  nw (pp prog w) A (call (.builtin "ValueError.__init__") [.ref x,u]) Q E ⟨h,g,d,t,os⟩:=by
 have F:=zj;refine A0 (zu F.init.plain F.initEntry (wpAny_check_init_subT F T hC he rfl ?_))
 wp_walk
 refine hq _ (λb ob ne hb=>?_) ⟨h.objs.size,?_⟩
 ·rw[vY _ _ (xc ne)];exact bv _ hb
 ·rw[ww _ (bv _ he) rfl];rfl
theorem pW {M:Bp}{nameV:bi}{Q:Unit->bn->Prop}(T:Ag h bmV bm)(hC:h.get? C=some (yh nm q C N bs bm hdct sn sub ab col dd k0 k1 k2 k3 k5 newId))(hx:h.get? x=some o)(hc:o.cls = .ref C)(hq:Q () ⟨h,g,d,t,os⟩) :
  nw M A (zg "object.__setattr__" ⟨[.ref x,nameV,v],[]⟩) Q E ⟨h,g,d,t,os⟩:=by
 have SF:=Bm;have hcB:(Value.ref C::bm).contains (.type "object")=true:=by rw[xU,T.hasType SF.hasOwner,AL]
 have ha:=SF.args (.ref x) nameV v;simp only[zg,SF.kind,SF.split];refine bd ?_
 ·unfold BR;repeat (first | (with_reducible refine xu hx ?_;rw[hc]) | (with_reducible refine zE hC ?_;rw[hcB]) | wp_step)
  exact hq
theorem si {Q:Unit->bn->Prop}(KX:K.In h)(T:Ag h bmV bm)(hC:h.get? C=some (yh nm q C N bs bm true sn sub ab col dd k0 k1 k2 k3 k5 newId))
  (hsa:wB K (.ref C) "__setattr__" = some (some (.builtin "object.__setattr__"))) (hna:wB K (.ref C) name=some none) (hx:h.get? x=some o) (hc:o.cls = .ref C) (hdn:o.dict=none) (hnc:∀c,o.data ≠ .cls c)
  (hq:∀h' dx tk',h.get? dx=none->dx≠x->h.objs.size<=dx->h'.get? x=some {o with dict:=some dx}->h'.Ns1 dx (λy=>if y=name then some v else none)->(∀b ob,b≠x->h.get? b=some ob->h'.get? b=some ob)->Q () ⟨h',g,d,tk',os⟩) :
  nw (pp prog w) A (setAttr (.ref x) name v) Q E ⟨h,g,d,t,os⟩:=by
 have SF:=Bm;have f3:=SF.slot.bind (.ref x);have L1:=zF (M:=pp prog w) KX hsa;have L2:=zF (M:=pp prog w) KX hna;have hpass:=SF.passes (.ref x);have hcB:(Value.ref C::bm).contains (.type "object")=true:=by rw[xU,T.hasType SF.hasOwner,AL]
 unfold setAttr callSpecial? specialOf;repeat (any_goals (first | assumption | (with_reducible refine xu hx ?_;rw[hc]) | with_reducible refine L1.at ?_ | wp_step))
 refine zu SF.slot.plain SF.entry ?_;have core:nw (pp prog w) A.in1 (Builtin.«object.__setattr__» ⟨[.ref x,.str name t,v],[]⟩) (λfin s'=>fin = .done (.ret .none)/\Q () s') (λ_ _=>False) ⟨h,g,d,t+1,os⟩:=by
  unfold Builtin.«object.__setattr__»;repeat (first | rw[refuse_eq] | (rw[refuseLoop_ref,lx T,hpass]) | (with_reducible refine xu hx ?_;rw[hc]) | with_reducible refine wpAny_mroOf_exc hC ?_ | with_reducible refine L2.at ?_ | wp_step)
  rw[hdn,if_neg (by simp[typeHasDict])];split
  ·rename_i hcd;cases hcd
  split
  ·rename_i c hcd;exact absurd hcd (hnc c)
  ·have hx₁:(h.push {cls:=.type "dict",data:=.dict #[]}).get? x=some o:=bv _ hx;have hxs:x≠h.objs.size:=wm (lc hx);refine bd (wpAny_alloc' ?_);refine bd (wpAny_update' hx₁ ?_);refine lw ?_;have hgd:((h.push {cls:=.type "dict",data:=.dict #[]}).update x λo=>{cls:=o.cls,dict:=some h.objs.size,data:=o.data,slots:=o.slots}).get? h.objs.size
     = some {cls:=.type "dict",data:=.dict #[]} :=
    (Cj _ _ _ _ hxs.symm).trans (CU rfl rfl)
   have hnd:((h.push {cls:=.type "dict",data:=.dict #[]}).update x λo=>{cls:=o.cls,dict:=some h.objs.size,data:=o.data,slots:=o.slots}).Ns h.objs.size (λ_=>none) :=
    ⟨_,#[],_,hgd,rfl,λe he=>absurd he (by simp),λ_=>rfl⟩
   show nw _ _ (storeInDict h.objs.size (.str name t) name v) _ _ _;unfold storeInDict newKeyGuard;refine bd (lw (bd (wpAny_nsSet1 (Heap.Ns1.of_empty hnd) λh' hn' hs=>?_)));obtain⟨oD,esD,epD,hoD,hdD,hcD⟩:=hn'.count (Within.cons name v Within.nil);refine bd (wpAny_lookBehind hoD (by rw[hdD];exact pastItsLine_dict (wo hcD (by rw[wn,za,xV];omega))) ?_)
   wp_walk
   refine⟨rfl,hq h' h.objs.size _ (yr (ms _)) hxs.symm (ms _) ?_ hn' λb ob hbx hb=>?_⟩
   ·refine(hs.2 x hxs).trans (ww _ hx₁ ?_);have hfr:=(Heap.get?_some_iff.mp hx).2;obtain⟨oc,od,odt,osl⟩:=o;cases odt <;> first | rfl | exact hfr
   ·exact(hs.2 b (wm (lc hb))).trans ((Cj _ _ _ _ hbx).trans (bv _ hb))
 refine pW T hC hx hc (wG core (λfin s' ⟨z1,z2⟩=>?_) λ_ _ z=>z.elim);subst z1;repeat (any_goals (first | assumption | wp_step))
end
end L2
namespace L2
open PySem PySem.Spec PyProof.Rows PySem.W
def exI (e C:Addr)(od:Option Addr):Heap->Prop:=λh=>∃t,h.get? e=some {cls:=.ref C,dict:=od,data:=.fields #[.ref t,.none,.none,.none,.bool false,.none]}
theorem exI.ok {P:v3}{w:wz}{H:Hp}{h:Heap}{e C:Addr}{od:Option Addr}(q:exI e C od h):cK P w H h e (.ext (exI e C od)) :=
 ⟨q,let ⟨t,g⟩:=q;⟨_,g⟩,λh1 h2 ⟨t,g⟩ k=>⟨t,k _ g⟩⟩
def fq (K:ac)(C fI:Addr):Bool:=match K.lookup C with
 | some ⟨.type "type",_,.cls cd,sl⟩=>(match cd.mro,sl.toList with
  | .ref C'::bm,[_,_,_,_,some (.builtin n),_]=>C'==C&&n == "ValueError.__new__" && !cd.hasDel&&CN K bmV bm&&PySem.W.nsOkIn K cd.ns&&wd K cd.ns "__init__" == some (some (.ref fI))&&cd.hasDict
  | _,_=>false)
 | _=>false
structure OwnI (C fI:Addr)(h:Heap):Prop where
 obj:∃bm N nm q bs sn sub ab col dd k0 k1 k2 k3 k5 mN,h.get? C=some (yh nm q C N bs bm true sn sub ab col dd k0 k1 k2 k3 k5 "ValueError.__new__")/\h.Ns N mN/\mN "__init__" = some (.ref fI)/\Ag h bmV bm
theorem nE {K:ac}{h:Heap}{N:Addr}{mg:Str->Option bi}{n:Str}{v:bi}(X:K.In h)(G:h.Ns N mg)(e:nsIn K N n=some (some v)):mg n=some v:=by
 obtain⟨o,es,ep,ho,hd,_,hf⟩:=G;unfold nsIn at e;split at e
 ·rename_i c d es' n' sl q;have:=X _ _ q;rw[ho]at this;cases this
  cases hd
  split at e
  ·rename_i en he;cases e
   rw[<- hf];unfold nsFind findBy;rw[<- Cm,he];rfl
  ·split at e <;> cases e
 ·cases e
theorem o6 {K:ac}{h:Heap}{C fI:Addr}(KX:K.In h)(q:fq K C fI=true):OwnI C fI h:=by
 unfold fq at q;split at q;next dd cd sl lk =>
  split at q;next C' bm k0 k1 k2 k3 n k5 em es =>
   simp only[wC,beq_iff_eq,yo]at q;obtain⟨⟨⟨⟨⟨⟨rfl,rfl⟩,nd⟩,tl⟩,nk⟩,ni⟩,hd⟩:=q;obtain⟨a1,a2,a3,a4,a5,a6,a7,a8,a9,a10,a11⟩:=cd;obtain⟨l⟩:=sl;dsimp only at em nd nk ni es hd;subst em nd es hd;exact⟨bm,a4,a1,a5,a2,a7,a8,a9,a10,dd,k0,k1,k2,k3,k5,_,KX _ _ lk,.of_isNs (Ae KX nk),nE KX (.of_isNs (Ae KX nk)) ni,Ad KX tl⟩
  ·cases q
 ·cases q
structure k7 (K:ac)(D:Addr):Prop where
 sp:ya K (.ref D) "__getattribute__" = some (some (.builtin "type.__getattribute__"))
 rd:readsIn K D (.type "type")=true
 fc:findCls K (.ref D) (.type "type") "__init__" = some (.val (.builtin "ValueError.__init__"))
structure ExcI (K:ac)(C fI:Addr)(f:Str):Prop where
 cl:fq K C fI=true
 fn:CM K (.ref fI)=some (.type "function")
 sa:wB K (.ref C) "__setattr__" = some (some (.builtin "object.__setattr__"))
 na:wB K (.ref C) f=some none
section
variable {X:Cx}{pins:List (Addr×Obj)}{σ σ1:St}{H H1:Hp}{s s1:bn}{h':Heap}{e C:Addr}
theorem Inv.track2 {o:HO}(I:Inv X pins σ H s)(ue:H e=none)(y0:X.s₀.heap.get? e=none)(nL:X.env.locals≠e)(nC:∀x c,X.env.cells.lookup x=some c->c≠e)(nP:∀p∈X.pn++pins,p.1≠e)(new:cK X.prog X.w (upd H e o) s.heap e o):Inv X pins σ (upd H e o) s:=by
 have ne:∀ {b:Addr} {o:HO},H b=some o->b≠e:=λz w=>by rw[w,ue]at z;cases z
 have n0:∀b o,X.s₀.heap.get? b=some o->b≠e:=λb o q z=>by rw[z,y0]at q;cases q
 refine⟨I.ok,I.os,I.bare,⟨I.base.keep,I.base.slot,λb o q n x=>?_,I.base.there,λb xs q=>?_,λb o u q=>?_,λb ps q=>?_⟩,I.loc,I.cell,?_,λx c q=>?_,λp hp'=>?_,λa o q=>?_,I.len⟩
 ·rw[aI (n0 b o q)];exact I.base.free b o q n x
 ·have:=I.base.tups b xs q;rw[aI (ne this)];exact this
 ·have:=I.base.frzs b o u q;rw[aI (ne this)];exact this
 ·obtain⟨more,this⟩:=I.base.tbls b ps q;exact⟨more,by rw[aI (ne this)];exact this⟩
 ·rw[aI nL];exact I.free
 ·rw[aI (nC x c q)];exact I.freeC x c q
 ·obtain⟨p1,p2,p3,p4,p5⟩:=I.pin p hp';exact⟨p1,by rw[aI (nP p hp')];exact p2,p3,p4,p5⟩
 ·by_cases z:a=e
  ·subst z;rw[aX]at q;cases q
   exact new
  ·rw[aI z]at q;exact(I.hok a o q).stay (λ_ _ _ w=>w) (λb w=>by rw[aI (ne w)];exact w) λb xs w=>by rw[aI (ne w)];exact w
def rm (H:Hp)(e:Addr):Hp:=λb=>if b=e then none else H b
theorem oJ:rm H e e=none:=by unfold rm;rw[if_pos rfl]
theorem lu {b:Addr}(h:b≠e):rm H e b=H b:=by unfold rm;rw[if_neg h]
theorem Inv.untrack {φ:Heap->Prop}(I:Inv X pins σ H s)(he:H e=some (.ext φ))(y0:X.s₀.heap.get? e=none):Inv X pins σ (rm H e) s:=by
 have ne:∀ {b:Addr} {o:HO},H b=some o->(∀ φ,o ≠ .ext φ)->b≠e:=λz n w=>by rw[w,he]at z;cases z;exact n _ rfl
 have nn:∀b,H b=none->rm H e b=none:=λb z=>by unfold rm;split <;> first | rfl | exact z
 refine⟨I.ok,I.os,I.bare,⟨I.base.keep,I.base.slot,λb o q n x=>nn b (I.base.free b o q n x),I.base.there,λb xs q=>?_,λb o u q=>?_,λb ps q=>?_⟩,I.loc,I.cell,nn _ I.free,λx c q=>nn _ (I.freeC x c q),λp hp'=>?_,λa o q=>?_,I.len⟩
 ·have:=I.base.tups b xs q;rw[lu (ne this λ_ z=>nomatch z)];exact this
 ·have:=I.base.frzs b o u q;rw[lu (ne this λ_ z=>nomatch z)];exact this
 ·obtain⟨more,this⟩:=I.base.tbls b ps q;exact⟨more,by rw[lu (ne this λ_ z=>nomatch z)];exact this⟩
 ·obtain⟨p1,p2,p3,p4,p5⟩:=I.pin p hp';exact⟨p1,nn _ p2,p3,p4,p5⟩
 ·by_cases z:a=e
  ·subst z;rw[oJ]at q;cases q
  ·rw[lu z]at q;exact(I.hok a o q).stay (λ_ _ _ w=>w) (λb w=>by rw[lu (ne w λ_ z=>nomatch z)];exact w) λb xs w=>by rw[lu (ne w λ_ z=>nomatch z)];exact w
theorem tZ {o:HO}(h:H e=some o):upd H e o=H:=by
 funext b;unfold upd;split
 ·rename_i z;rw[z,h]
 ·rfl
end
section
variable {X:Cx}{C D:Addr}{y f:Str}{np apos cpos pos pos' sp:Pos}{e text value:Expr}{es:List Expr}{t:TA}{tv:TE}
def rBI (C:Addr):List V->Hp->VK->Prop:=λvs H Q=>∃e od x,vs=[.ref e,x]/\H e=some (.ext (exI e C od))/\Q .non H
theorem mz {pl:Sem Bool}(B:k7 X.K D)(hc:di X.K C=true)(hm:X.mg y=some (.ref D))(ha:PA X (e::es) t)(hg:Gl X y:=by rfl)(hdb:(y==("__debug__" : Str))=false:=by decide)
  (hst:wq (e::es) X.env=(false,eval e X.env)::wq es X.env:=by rfl) (hpl:(yt cpos (wq es X.env)).any (·.1)=false:=by rfl)
  (ht:eval (.Call (.Attribute (.Name y np) "__init__" apos) (e::es) [] cpos) X.env=(do
   let ov <- eval (.Name y np) X.env
   standAt apos.atName
   let (f,first) <- holding [ov] (getMethod ov "__init__" pl)
   callWith cpos f first (yt cpos (wq (e::es) X.env)) (backToKw cpos (C8 [] X.env))):=by rfl) :
  PE X (.Call (.Attribute (.Name y np) "__init__" apos) (e::es) [] cpos) (λσ H Q=>t σ H λvs H1=>rBI C vs H1 Q):=by
 intro pins s σ H Q I h;refine PySem.W.methodCall_KW (pl:=pl) (eE I hg hm ?_ hdb) ht;refine method_cls I.kIn B.sp (cls_value I.kIn B.rd B.fc rfl ?_);have hA:=ha cpos pins _ σ H _ (I.tok (s.toks+1)) h;rw[hst]at hA ⊢;refine BJ (by show(false||(yt cpos (wq es X.env)).any (·.1))=false;rw[hpl] <;> rfl) (y7 ?_);refine thn hA λus s2 ⟨vs,H2,I2,r,q⟩=>?_;obtain⟨e',od,x,rfl,he,hq⟩:=q;obtain⟨t0,ge⟩:=(I2.hok e' _ he).1;obtain⟨bm,N,nm,q,bs,hdct,sn,sub,ab,col,dd,k0,k1,k2,k3,k5,hC,T⟩:=(ecls I2.kIn hc).obj;cases r with
 | cons r1 rr =>
  cases rr with
  | cons r2 rr =>
   cases rr
   cases (show _=Value.ref e' from r1)
   obtain⟨hh,g,d,tk,os⟩:=s2;refine p7 T hC ge λh' k hx=>⟨.non,H2,?_,rfl,hq⟩
   have:=I2.write (x:=e') (e:=e') (o:=.ext (exI e' C od)) (t':=tk) (h':=h') (by rw[he];exact True.intro) (.inl rfl) (λb u ne z=>k b u ne z) (let ⟨t1,g1⟩:=hx;⟨_,g1⟩) (exI.ok hx);rw[tZ he]at this;exact this
def sXF (C:Addr)(tv:TE)(i:Nat)(f:Str):TS:=λD σ H=>tv σ H λy H1=>∃e,σ[i]? = some (some (.ref e))/\H1 e=some (.ext (exI e C none)) /\
 ∀dx,H1 dx=none->dx≠e->D.nx σ (upd (upd H1 e (.ext (exI e C (some dx)))) dx (.xd [(f,y)]))
theorem oU {i:Nat}{sn:Str}{fI:Addr}(c:ExcI X.K C fI f)(hv:PE X value tv)(hi:PE X (.Name sn sp) (tVar i))(hs:zd value (some (.Attribute (.Name sn sp) f pos')) pos.line X.env=pure false:=by rfl) :
  PS X (.Assign [.Attribute (.Name sn sp) f pos'] value pos) (sXF C tv i f):=by
 intro pins s σ H D I h;refine plainObj_wpAny_Assign_Attribute (thn (hv pins s σ H _ I h) λu s1 ⟨yv,H1,I1,ry,e,e1,e2,q⟩=>thn (hi pins s1 σ H1 (λx H2=>x = .ref e/\H2=H1) I1 ⟨.ref e,e1,rfl,rfl⟩) λov s2 ⟨x,H2,I2,rx,ex,eH⟩=>?_) hs;subst ex eH;obtain rfl:ov=Value.ref e:=rx;obtain⟨t0,ge⟩:=(I2.hok e _ e2).1;obtain⟨bm,N,nm,q',bs,sn',sub,ab,col,dd,k0,k1,k2,k3,k5,mN,hC,hN,_,T⟩:=(o6 I2.kIn c.cl).obj;obtain⟨hh,g,d,tk,os⟩:=s2;refine si I2.kIn T hC c.sa c.na ge rfl rfl (λ_ z=>nomatch z) λh' dx tk' hn ne hz gx nx k=>?_;have ud:H2 dx=none:=I2.hok.fresh hz;have I3:=I2.write (x:=e) (e:=e) (o:=.ext (exI e C (some dx))) (t':=tk') (h':=h') (by rw[e2];exact True.intro) (.inl rfl) (λb u ne z=>k b u ne z) ⟨_,gx⟩ (exI.ok ⟨t0,gx⟩);have sz0:X.s₀.heap.objs.size<=dx:=wo I2.sz hz;have ge':∀b o,hh.get? b=some o->b≠dx:=λb o z w=>by rw[w,hn]at z;cases z
 have I4:=I3.track2 (e:=dx) (o:=.xd [(f,yv)]) (by rw[aI ne];exact ud) (yr sz0)
  (λz=>by obtain⟨m1,⟨o1,_,_,ho1,_⟩,_⟩:=id I2.loc;exact ge' _ _ ho1 z)
  (λx c q z=>by obtain⟨v,o1,ho1,_⟩:=I2.cell x c q;exact ge' _ _ ho1 z)
  (λp hp z=>ge' _ _ (I2.pin p hp).1 z) ⟨_,nx,λg=>?_⟩
 ·exact⟨σ,_,I4,q dx ud ne⟩
 ·show RelO (A8 g [(f,yv)]) (if g=f then some u else none);by_cases z:g=f
  ·rw[if_pos z];have hb:(g==f)=true:=beq_iff_eq.mpr z;simp only[A8,hb];exact ry
  ·rw[if_neg z];have hb:(g==f)=false:=beq_eq_false_iff_ne.mpr z;simp only[A8,hb];trivial
end
section
variable {X:Cx}{R:VK}{C fI:Addr}{f x:Str}
def tRsI (C:Addr)(f:Str)(sp:Sp)(t0:TE):TS:=λD σ H=>t0 σ H λv H1=>∀e,H1 e=none->sp [.ref e,v] (upd H1 e (.ext (exI e C none)))
 (λr H2=>r = .non/\∃dx y,H2 e=some (.ext (exI e C (some dx)))/\H2 dx=some (.xd [(f,y)])/\dx≠e/\H1 dx=none/\D.rt y (rm H2 e)) E0
theorem i0 {k:Nat}{fd:yP}{ps:List Str}{sp:Sp}(T:Tie X C (some f) R)(hc:X.calm=true)(hm:X.mg x=some (.ref C))(c:ExcI X.K C fI f)(F:FnOk X.prog X.w X.K X.mg X.base CX0 k fI fd ps sp)(hr:Room (k+1) X.A)(hb:j4 X.K fd ps [])
  {e0:Expr} {t0:TE} {np cpos pos:Pos} (ha:PE X.nox e0 t0) (hg:Gl X x:=by rfl) (he:wq [e0] X.env=[(false,eval e0 X.env)]:=by rfl) (hdb:(x==("__debug__" : Str))=false:=by decide) :
  PSr X R (.Raise (some (.Call (.Name x np) [e0] [] cpos)) none pos) (tRsI C f sp t0):=by
 intro pins s σ H D e I h;obtain⟨tl,N,nm,q,bs,sn,sub,ab,col,dd,k0,k1,k2,k3,k5,mN,hC,hN,hi,tw⟩:=(o6 I.mod.kin c.cl).obj;obtain⟨oI,lkI,hfc⟩:=wt.mp (show(X.K.lookup fI).map (·.cls)=some (.type "function")from c.fn);refine iJ (k5:=k5) (k3:=k3) (k2:=k2) (k1:=k1) (k0:=k0) (dd:=dd) (col:=col) (ab:=ab) (sub:=sub) (sn:=sn) (hdct:=true) (bs:=bs) (N:=N) (q:=q) (nm:=nm) (C:=C) (bm:=tl) (mN:=mN) (fI:=fI) (oI:=oI) zj (tw.hasType (by decide +kernel)) (I.ok.hd hc) (by rw[he];rfl) hi hfc (eE I hg hm ⟨rfl,?_⟩ hdb);rw[he];refine y7 (yJ ?_);refine thn (ha.nox pins s σ H _ I h) λu s1 ⟨v,H1,I1,r1,q1⟩=>yR ?_;refine⟨rfl,by show(1:Nat)<=_;decide,I1.bk _ _ hC,hN.keeps I1.bk,tw.keeps I1.bk,I1.kIn _ _ lkI,λh' a mk=>?_⟩;obtain⟨tt,g1,g2,g3⟩:=mk.there;have ua:H1 a=none:=by
  cases z:H1 a with
  | none=>rfl
  | some o =>
   obtain⟨u,z'⟩:=I1.hok.get z;rw[mk.new]at z';cases z'
 have y0:=I1.back0 T.ex mk.new;have ga:∀b o,s1.heap.get? b=some o->b≠a:=λb o z w=>by rw[w,mk.new]at z;cases z
 have It:=(I1.kept (t':=s1.toks) mk.keeps).track2 (e:=a) (o:=.ext (exI a C none)) ua y0
  (λz=>by obtain⟨m1,⟨o1,_,_,ho1,_⟩,_⟩:=id I1.loc;exact ga _ _ ho1 z)
  (λx c q z=>by obtain⟨v,o1,ho1,_⟩:=I1.cell x c q;exact ga _ _ ho1 z)
  (λp hp z=>ga _ _ (I1.pin p hp).1 z) (exI.ok ⟨tt,g1⟩)
 have hl:([Value.ref a,u]:List bi).length=ps.length:=F.len _ _ _ _ (q1 a ua);refine A0 (Ac (F.run _ X.stack _ _ ⟨[Value.ref a,u],[]⟩ [Value.ref a,u] [.ref a,v] _ E0 (hr.make C [u] []) (It.env0.make C [u] []) (by have:=hb _ [Value.ref a,u] It.kIn (by simpa using hl);simpa using this) (.cons rfl (.cons r1 .nil)) (q1 a ua)) λrr s' hq=>?_);cases rr with
 | error ev=>exact wD hq
 | ok fl =>
  cases fl with
  | next=>exact wD hq
  | brk=>exact wD hq
  | cont=>exact wD hq
  | ret w' =>
   obtain⟨v',H2,os,bare,un,hok,rv,ev,dx,y,e2,e3,ne,ud,qq⟩:=hq;subst ev;have I2:Inv X pins σ H2 s':=It.call' os un hok bare λb z=>nomatch z;have yd:X.s₀.heap.get? dx=none:=by
    refine I1.back0 T.ex ?_;cases z:s1.heap.get? dx with
    | none=>rfl
    | some o =>
     have:=un.free dx o (mk.keeps _ _ z) (by rw[aI ne];exact ud) (λz=>nomatch z);rw[e3]at this;cases this
   have I3:=I2.untrack e2 y0;obtain⟨t1,g4⟩:=(I2.hok a _ e2).1;refine⟨rv,I2.bk _ _ hC,t1,some dx,g4,?_⟩;exact T.run I3 ⟨_,_,.none,g4,rfl,rfl,rfl,rfl,y0,oJ,.inl rfl⟩ (λz w=>by cases w;exact yd) ⟨dx,rfl,by rw[lu ne];exact e3⟩ (e▸qq)
end
def spIP (C:Addr)(f:Str):Sp:=λvs H Q _=>∃e,∃n:Nat,vs=[.ref e,.int n]/\n<10000000000000000000000000000000000000000000000000000000000000000000000/\H e=some (.ext (exI e C none))/\∀dx,H dx=none->dx≠e->Q .non (upd (upd H e (.ext (exI e C (some dx)))) dx (.xd [(f,.int n)]))
theorem tn3:∀k:Nat,k<10000000000000000000000000000000000000000000000000000000000000000000000->(toString (k:Int):Str).length<=70:=λk h=>toString_length_le (v:=(k:Int)) (k:=70) (by omega) (by decide) (by omega)
theorem uM {k:Nat}(h:k<10000000000000000000000000000000000000000000000000000000000000000000000):(k:Int).natAbs.log2<1920:=by
 rw[Int.natAbs_natCast];by_cases h0:k=0
 ·subst h0;decide
 ·have:=(D_ h0).mpr (show k<2^233 by omega);omega
section
variable {K:ac}{C:Addr}{f:Str}{pr:Nat->Bool}{t0:TE}{a0:AE}
theorem su {H:Hp}{e dx:Addr}{o o1 o2:HO}(he:H e=none)(ne:dx≠e):rm (upd (upd (upd H e o) e o1) dx o2) e=upd H dx o2:=by
 funext b;unfold rm upd;by_cases z:b=e
 ·subst z;rw[if_pos rfl,if_neg (xc ne),he]
 ·rw[if_neg z];by_cases w:b=dx
  ·rw[if_pos w,if_pos w]
  ·rw[if_neg w,if_neg w,if_neg z,if_neg z]
def aRsP (a:AE):AS:=λk ρ=>a ρ λr ρ1=>match r with
 | .d (.int i)=>(0<=i/\i<10000000000000000000000000000000000000000000000000000000000000000000000)/\k.rt (.d (.int i)) ρ1
 | _=>False
theorem iX (ha:TEok K t0 a0):TSok K pr (tRsI C f (spIP C f) t0) (aRsP a0):=by
 intro F σ ρ H D k hp r h ko;refine ha F σ ρ H _ _ r h λr1 ρ1 v H1 h1 o=>?_;obtain⟨r',k1,i1⟩:=o.inF;split at h1
 ·rename_i i;obtain⟨⟨l0,l2⟩,h1⟩:=h1;have ev:v = .int i:=i1.int;subst ev;intro e ue;refine⟨e,i.toNat,by rw[Cz l0],by omega,aX,λdx hd ne=>⟨rfl,dx,.int i,?_,?_,ne,?_,?_⟩⟩
  ·rw[aI (xc ne),aX]
  ·rw[aX,Cz l0]
  ·rw[aI ne]at hd;exact hd
  ·rw[aI ne]at hd;rw[su ue ne];refine ko.rt σ ρ1 (.d (.int i)) _ _ h1 ⟨r'.fresh hd,?_⟩;unfold RepD;rfl
 ·exact h1.elim
end
section
variable {prog:v3}{w:wz}{A:wy}{E:bi->bn->Prop}{s:bn}{K:ac}{x D:Addr}{ox:Obj}{odo:Option Obj}
theorem tD {name:Str}{v:bi}{Q:bi->bn->Prop}(KX:K.In s.heap)(I:zi s.heap x ox D odo)(hga:wB K (.ref D) "__getattribute__" = some (some (.builtin "BaseException.__getattribute__")))(hgn:wB K (.ref D) "__getattr__" = some none)
  (hf:CH K D odo name=some (.value v)) (hb:wA K (.ref D) (.type "BaseException")=some true) (hh:handedIn v=true)
  (h:Q v {s with toks:=s.toks+1}):nw (pp prog w) A (getAttr (.ref x) name true) Q E s:=by
 obtain⟨hp,g,d,t,os⟩:=s;have L0:=I.type (M:=pp prog w);have L1:=zF (M:=pp prog w) KX hga;have L2:=zF (M:=pp prog w) KX hgn;have L3:=looks_find (M:=pp prog w) KX I hf;have L4:=BL (M:=pp prog w) KX hb;have f3:=yk.ga.bind (.ref x);have hk:builtinKind "BaseException.__getattribute__" = some .slot:=by decide +kernel
 have hsp:splitId "BaseException.__getattribute__" = some ("BaseException", "__getattribute__"):=by decide +kernel
 have ha:=BG (.ref x) (.str name t);unfold getAttr getAttrBy;refine bd (wpAny_mkText (yp (bd (L0.at (bd (L1.at ?_))))));show nw _ _ (Al _ _ _ _ _ _) _ _ _;unfold Al;repeat (any_goals (first | assumption | with_reducible refine L0.at ?_ | with_reducible refine L1.at ?_ | with_reducible refine L2.at ?_ | wp_step))
 refine zu yk.ga.plain BB ?_;simp only[zg,hk,hsp];refine bd ?_;unfold BR;repeat (any_goals (first | assumption | with_reducible refine L0.at ?_ | with_reducible refine L4.at ?_ | with_reducible refine L3.at ?_ | wp_step))
 show nw _ _ (handedOut v) _ _ _;exact handed_on hh h
end
structure ExG (K:ac)(C:Addr)(f:Str):Prop extends ExIs K C where
 na:wB K (.ref C) f=some none
 hd:xW K C=true
def t9 (K:ac)(ta:TE)(f:Str):TE:=λσ H Q=>ta σ H λx H1=>∃e C dx fs v,x = .ref e/\H1 e=some (.ext (exP e C (some dx)))/\H1 dx=some (.xd fs)/\fs.lookup f=some v/\ExG K C f/\Q v H1
section
variable {X:Cx}{e:Expr}{ta:TE}{f:Str}{pos:Pos}{K:ac}
theorem sV {h:Heap}{dx:Addr}{o:Obj}{mA:Str->Option bi}{n:Str}{u:bi}(hN:h.Ns1 dx mA)(ho:h.get? dx=some o)(hu:mA n=some u):lookIn n o=some (some u):=by
 obtain⟨o',es,ep,ho',hd,_,_,hf⟩:=hN;rw[ho]at ho';cases ho'
 unfold lookIn;rw[hd];dsimp only;have q:=hf n;rw[hu]at q;unfold nsFind findBy at q;rw[<- Cm]at q;obtain⟨en,q1,q2⟩:=wt.mp q;rw[q1];dsimp only;rw[q2]
theorem oX (he:PE X e ta)(hb:AU e f X.env (eval e X.env)=eval e X.env:=by rfl):PE X (.Attribute e f pos) (t9 X.K ta f):=by
 intro pins s σ H Q I h;refine tN hb (thn (he pins s σ H _ I h) λu s1 ⟨x,H1,I1,rx,a,C,dx,fs,v,ex,ea,ed,l,g,q⟩=>?_);subst ex;obtain rfl:u=Value.ref a:=rx;obtain⟨⟨oe,vs,ge,gc,gd,gf⟩,_,_⟩:=I1.hok a _ ea;obtain⟨mA,hN,r⟩:=I1.hok dx _ ed;obtain⟨od,_,_,ho,_⟩:=id hN;obtain⟨u,hu,ru⟩:=RelO.some_of (v:=v) (o:=mA f) (by rw[<- l];exact r f);have it:zi s1.heap a oe C (some od):=⟨ge,gc,by unfold notCls;rw[gf],by rw[gd];exact ho⟩
 obtain⟨cd,hcd,hcd2⟩:=any_some g.hd;refine tD I1.kIn it g.ga g.gn (v:=u) ?_ g.be (pH ru) ⟨v,H1,I1.tok _,ru,q⟩;unfold CH PySem.W.ownOf;rw[hcd,yq,g.na,yq];simp only[yq,hcd2,if_pos];rw[sV hN ho hu];rfl
def vi (K:ac)(i:Nat)(f:Str):AE:=λρ q=>match gt ρ i with
 | .ex C (some fs)=>∃d,fs.lookup f=some d/\ExG K C f/\q (.d d) ρ
 | _=>False
theorem mF {Hh:Hp}{f:Str}{d:D}:∀ {ks:List (Str×V)} {fs:List (Str×D)},ks.map wP=fs.map wP->RepDs K Hh (ks.map wZ) (fs.map wZ)->fs.lookup f=some d->∃v,ks.lookup f=some v/\RepD K Hh v d
 | [],[],_,_,h=>by cases h
 | (k,v)::ks,(g,d')::fs,e,r,h=>by
  simp only[wv,AB]at e;obtain⟨e1,e2⟩:=e;simp only[wv]at r;unfold RepDs at r;subst e1;simp only[A8]at h ⊢;split at h
  ·rename_i q;cases h;exact⟨v,rfl,r.1⟩
  ·rename_i q;exact mF e2 r.2 h
 | [],_::_,e,_,_=>by cases e
 | _::_,[],e,_,_=>by cases e
theorem l9 {i:Nat}:TEok K (t9 K (tVar i) f) (vi K i f):=by
 intro F σ ρ H q Q a h b;have s:=a.sl i;unfold vi at h;split at h
 ·rename_i C fs hg;rw[hg]at s;obtain⟨e,od,e1,e2,e3⟩:=s;obtain⟨d,h1,h2,h3⟩:=h;cases od with
  | none=>exact e3.elim
  | some dx =>
   obtain⟨ks,k1,k2,k3⟩:=e3;obtain⟨v,l,rv⟩:=mF k2 k3 h1;exact⟨.ref e,e1,e,C,dx,ks,v,rfl,(bX.mp e2).2,(bX.mp k1).2,l,h2,b (.d d) ρ v H h3 ⟨a,.refl,rv⟩⟩
 ·exact h.elim
end
def vf:Stmt->Stmt
 | .ClassDef _ _ _ (st::_) _ _ _ _ _ _ _=>st
 | _=>.Pass ⟨0,0,0,0⟩
structure j0 (K:ac)(C fI:Addr)(f qual:Str)(st:Stmt)(ps:List Str):Prop where
 xi:ExcI K C fI f
 fn:∃fd,Fun K "__init__" qual st fI fd/\∀us:List bi,us.length=ps.length->BU fd ⟨us,[]⟩=pure (ps.zip us)
theorem mJ {K:ac}{C fI:Addr}{f qual:Str}{st:Stmt}{ps:List Str}{oc:bi}{od an:Option Addr}{osl:Array (Option bi)}{kV doc pm cdv ct:bi}(i:wB K (.ref C) "__init__" = some (some (.ref fI)))
  (l:K.lookup fI=some ⟨oc,od,.func (xN "__init__" qual (dN st) (cf st) (aK st) .none kV doc pm an cdv ct),osl⟩) (c:yj K cdv qual=true) (k:xQ K (.ref fI)=true)
  (cl:fq K C fI=true) (fn:CM K (.ref fI)=some (.type "function")) (sa:wB K (.ref C) "__setattr__" = some (some (.builtin "object.__setattr__"))) (na:wB K (.ref C) f=some none)
  (hb:∀(kV doc pm:bi) (an:Option Addr) (cdv ct:bi) (us:List bi),us.length=ps.length->BU (xN "__init__" qual (dN st) (cf st) (aK st) .none kV doc pm an cdv ct) ⟨us,[]⟩=pure (ps.zip us)):j0 K C fI f qual st ps :=
 ⟨⟨cl,fn,sa,na⟩,_,rJ l c k,λus hl=>hb kV doc pm an cdv ct us hl⟩
theorem pQ {K:ac}{C:Addr}(q:yz K C bmV "ValueError.__new__" = true):di K C=true:=by
 unfold yz at q;unfold di;split at q;next dd cd sl lk =>
  try rw[lk]
  split at q;next C' bm k0 k1 k2 k3 n k5 em es =>
   simp only[wC,beq_iff_eq,yo]at q;obtain⟨⟨⟨⟨⟨rfl,rfl⟩,nd⟩,tl⟩,nk⟩,ni⟩:=q;first | (simp[em,es,nd,tl];done) | simp_all
  ·cases q
 ·cases q
theorem e8 {K:ac}{C fI:Addr}(q:fq K C fI=true):di K C=true:=by
 unfold fq at q;unfold di;split at q;next dd cd sl lk =>
  try rw[lk]
  split at q;next C' bm k0 k1 k2 k3 n k5 em es =>
   simp only[wC,beq_iff_eq,yo]at q;obtain⟨⟨⟨⟨⟨⟨rfl,rfl⟩,nd⟩,tl⟩,nk⟩,ni⟩,hd⟩:=q;first | (simp[em,es,nd,tl];done) | simp_all
  ·cases q
 ·cases q
theorem j3 {σ:St}{H:Hp}{Q:VK}{a c:Str}{n i:Nat}(ha:a.length<=1000)(hc:c.length<=1000)(hn:n<10000000000000000000000000000000000000000000000000000000000000000000000)(hv:σ[i]? = some (some (.int n)))(h:∀t,Q (.str t) H):nK (tC (.str a)) (nK (tFmt (tVar i)) (nK (tC (.str c)) jNil)) yy σ H Q:=by
 have t3:=tn3 n hn;have l0:yy.length=0:=rfl;have e1:(yy++a).length<=1000:=by rw[yW,l0];omega
 have e2:(yy++a++(toString (n:Int):Str)).length<=1070:=by rw[yW];omega
 have e3:(yy++a++(toString (n:Int):Str)++c).length<=2070:=by rw[yW];omega
 refine⟨_,rfl,by rw[xV];omega,.int n,hv,n,rfl,uM hn,_,rfl,by rw[xV];omega,_,rfl,by rw[xV];omega,by rw[xV];omega,h _⟩
theorem j2 {σ:St}{H:Hp}{Q:VK}{a:Str}{n i:Nat}(ha:a.length<=1000)(hn:n<10000000000000000000000000000000000000000000000000000000000000000000000)(hv:σ[i]? = some (some (.int n)))(h:∀t,Q (.str t) H):nK (tC (.str a)) (nK (tFmt (tVar i)) jNil) yy σ H Q:=by
 have t3:=tn3 n hn;have l0:yy.length=0:=rfl;have e1:(yy++a).length<=1000:=by rw[yW,l0];omega
 have e2:(yy++a++(toString (n:Int):Str)).length<=1070:=by rw[yW];omega
 refine⟨_,rfl,by rw[xV];omega,.int n,hv,n,rfl,uM hn,_,rfl,by rw[xV];omega,by rw[xV];omega,h _⟩
end L2
namespace L2
open PySem PySem.Spec PyProof.Rows
section
variable {M:Bp}{A:wy}{E:bi->bi->bn->Prop}{s:bn}{base:Heap}{env:Env}{outer:List Env}{L e C:Addr}{oe:Obj}{vs:Array bi}{od:Option Addr}
theorem kA {E0:bi->bn->Prop}{hd:bi}{had:Bool}{Q:bi->Unit->bn->Prop}(fr:A.frames=some (env::outer))(ff:s.heap.FunFrames base (env::outer))(lf:env.frame=some L)
  (ge:s.heap.get? e=some oe) (gc:oe.cls = .ref C) (gd:oe.dict=od) (gf:oe.data = .fields vs) (gz:1<vs.size)
  (fin:∀h' T,s.heap.objs.size<=T->Fly od h' e C T->(∀b o,s.heap.get? b=some o->b≠e->b∉frs (env::outer)->h'.get? b=some o)->(∀b o,s.heap.get? b=some o->b≠e->∃sl,h'.get? b=some {o with slots:=sl})->Q (.ref e) () {s with heap:=h'}) :
  nw M A (do let a <- frameOf env;let pl <- CI L had;let b <- xZ hd a .none (wK L) .none pl;BQ (.ref e) 1 b) (λ_ s'=>A5 M A env (λx s2=>nw M A (zS env x) (Q x) (E x) s2) (.ref e) s') E0 s:=by
 have off:e∉frs (env::outer):=λq=>by
  obtain⟨_,o,go,no⟩:=ff.mem q;cases ge.symm.trans go
  exact no vs gf
 refine bd (Bh fr ff lf λha sa=>bd (AZ λpl ip=>?_));unfold xZ Cq;refine bd (w6 ?_ (ip.sizeOk5 _ _ _ _ _));have ge1:ha.get? e=some oe:=(sa.2.1 e off).trans ge;have sz:ha.objs.size=s.heap.objs.size:=sa.1;generalize hT:([hd,Value.ref L,.none,wK L,.none]++(if pl.isEmpty then im 6 Value.none else pl)).toArray=tv;have tz:3<tv.size:=by rw[<- hT,kt,wb];simp only[wn,za];omega
 have neT:e≠ha.objs.size:=wm (lc ge1);refine xo (bv _ ge1) gf gz ?_;generalize hp:ha.push {cls:=.type "traceback",dict:=none,data:=.fields tv}=hb;have gT:hb.get? ha.objs.size=some {cls:=.type "traceback",dict:=none,data:=.fields tv}:=by rw[<- hp];exact wa _ rfl
 have kb:∀b o,ha.get? b=some o->hb.get? b=some o:=λb o q=>by rw[<- hp];exact bv _ q
 have w1:=wW gf λa=>a.setIfInBounds 1 (.ref ha.objs.size);have g3:=ww (wL λa=>a.setIfInBounds 1 (.ref ha.objs.size)) (kb e oe ge1) (wX w1);have gT3:=(vY hb (wL λa=>a.setIfInBounds 1 (.ref ha.objs.size)) neT).trans gT;unfold A5;refine bd (wx g3 w1 (x:=.ref ha.objs.size) (by simp[gz]) ?_);rw[if_neg (by simp:¬(Value.ref ha.objs.size==Value.none)=true)];rw[lf];unfold yX;refine bd (wx g3 w1 (x:=.ref ha.objs.size) (by simp[gz]) ?_);rw[if_pos (by simp:(Value.ref ha.objs.size != Value.none)=true)];refine xo gT3 rfl tz ?_;generalize hh2:hb.update e (wL λa=>a.setIfInBounds 1 (.ref ha.objs.size))=hc at g3 gT3 ⊢;have g4:=(vY hc (wL λa=>a.setIfInBounds 3 ((some L:Option Addr).elim Value.none λf=>wK f)) neT.symm).trans g3;have w4:=wW (o:={cls:=.type "traceback",dict:=none,data:=.fields tv}) rfl λa=>a.setIfInBounds 3 ((some L:Option Addr).elim Value.none λf=>wK f);have gT4:=ww (wL λa=>a.setIfInBounds 3 ((some L:Option Addr).elim Value.none λf=>wK f)) gT3 (wX w4);unfold zS x6;simp only[lf];refine bd (bd (wx g4 w1 (x:=.ref ha.objs.size) (by simp[gz]) ?_));rw[if_pos (by simp:(Value.ref ha.objs.size != Value.none)=true)];refine bd (wx gT4 w4 (x:=wK L) (by simp[tz]) ?_);rw[if_pos (by simp:(wK L==wK L)=true)];refine lw ?_;unfold yX;refine bd (wx g4 w1 (x:=.ref ha.objs.size) (by simp[gz]) ?_);rw[if_pos (by simp:(Value.ref ha.objs.size != Value.none)=true)];refine xo gT4 w4 (by simp[tz]) ?_;have w5:=wW w4 λa=>a.setIfInBounds 3 ((none:Option Addr).elim Value.none λf=>wK f);have on:∀b o,b≠e->ha.get? b=some o->((hc.update ha.objs.size (wL λa=>a.setIfInBounds 3 ((some L:Option Addr).elim Value.none λf=>wK f))).update ha.objs.size (wL λa=>a.setIfInBounds 3 ((none:Option Addr).elim Value.none λf=>wK f))).get? b=some o:=λb o ne q=>by
  rw[vY _ _ (wM (lc q)),vY _ _ (wM (lc q)),<- hh2,vY _ _ (xc ne)];exact kb b o q
 refine fin _ ha.objs.size (by rw[sz];exact ms _) ⟨_,_,_,_,(vY _ _ neT.symm).trans g4,(zK _ _).trans gc,?_,w1,by simp[gz],neT.symm,ww _ gT4 (wX w5),w5,by simp[tz]⟩ (λb o q ne nf=>on b o ne ((sa.2.1 b nf).trans q)) λb o q ne=>?_
 ·obtain⟨oc,od,oda,osl⟩:=oe;cases gf
  exact gd
 ·obtain⟨sl,q'⟩:=sa.2.2 b o q;exact⟨sl,on b _ ne q'⟩
theorem lv2 {E0:bi->bn->Prop}{hv:bi}{Q:bi->Unit->bn->Prop}(fr:A.frames=some (env::outer))(ff:s.heap.FunFrames base (env::outer))(lf:env.frame=some L)
  (ge:s.heap.get? e=some oe) (gc:oe.cls = .ref C) (gd:oe.dict=od) (gf:oe.data = .fields vs) (g1:vs[1]? = some hv)
  (hh:hv = .none ∨ ∃T oT ts,hv = .ref T/\T≠e/\s.heap.get? T=some oT/\oT.data = .fields ts/\ts[3]? = some .none)
  (fin:∀h' T,s.heap.objs.size<=T->Fly od h' e C T->Gone (frs (env::outer)) s.heap h' e hv->Q (.ref e) () {s with heap:=h'}) :
  nw M A (x6 (.ref e) env) (λ_ s'=>A5 M A env (λx s2=>nw M A (zS env x) (Q x) (E x) s2) (.ref e) s') E0 s:=by
 have gz:=(wR.mp g1).1;unfold x6;simp only[lf];refine bd (wx ge gf g1 ?_);rcases hh with rfl | ⟨T,oT,ts,rfl,nT,gT,fT,t3⟩
 ·rw[if_neg (by decide)];exact kA fr ff lf ge gc gd gf gz λh' T' q1 q2 q3 q4=>fin h' T' q1 q2 ⟨λb o a1 a2 _ a4=>q3 b o a1 a2 a4,λb o a1 a2 _=>q4 b o a1 a2⟩
 ·rw[if_pos (by simp:(Value.ref T != Value.none)=true)];refine bd (wx gT fT t3 ?_);rw[if_neg (by simp[wK]:¬(Value.none==wK L)=true)];refine bd (xo gT fT (wR.mp t3).1 ?_);have ot:∀b,b≠T->(s.heap.update T (wL λa=>a.setIfInBounds 3 Value.none)).get? b=s.heap.get? b:=λb q=>vY _ _ (xc q);have gT':=ww (wL λa=>a.setIfInBounds 3 Value.none) gT (wX (wW fT _));have nr:∀b o,s.heap.get? b=some o->(∀us,o.data ≠ .fields us)->b≠T:=λb o q nf z=>by
   subst z;cases gT.symm.trans q
   exact nf ts fT
  refine kA fr (ff.of_keeps λb o q nf=>⟨o,(ot b (nr b o q nf)).trans q,rfl⟩) lf ((ot e nT.symm).trans ge) gc gd gf gz λh' T' q1 q2 q3 q4=>fin h' T' ?_ q2 ⟨λb o a1 a2 a3 a4=>q3 b o ((ot b λz=>a3 (by rw[z])).trans a1) a2 a4,λb o a1 a2 a3=>q4 b o ((ot b λz=>a3 (by rw[z])).trans a1) a2⟩;rwa [AW]at q1
end
def Cx.pz (X:Cx):bi->bn->Prop:=DI (pp X.prog X.w) X.A X.env (A5 (pp X.prog X.w) X.A X.env X.xe)
section
variable {X:Cx}{pins:List (Addr×Obj)}{σ:St}{H:Hp}{s:bn}{h0:Heap}{e C:Addr}{od:Option Addr}
theorem lvI2 {E0:bi->bn->Prop}{E:bi->bi->bn->Prop}{Q:bi->Unit->bn->Prop}(I:Inv X pins σ H s)(hs:X.stack=X.env::X.outer)(hf:X.env.frame=some X.env.locals)(hsub:∀b o,h0.get? b=some o->b<s.heap.objs.size)(hot:Hot od h0 s.heap H e C)
  (fin:∀h' ch,(∀b∈ch,h0.get? b=none/\H b=none)->e∈ch->Un (frs X.stack) ch H H s.heap h'->HOk X.prog X.w H h'->Hot od h0 h' H e C->Q (.ref e) () {s with heap:=h'}) :
  nw (pp X.prog X.w) X.A (x6 (.ref e) X.env) (λ_ s'=>A5 (pp X.prog X.w) X.A X.env (λx s2=>nw (pp X.prog X.w) X.A (zS X.env x) (Q x) (E x) s2) (.ref e) s') E0 s:=by
 obtain⟨oe,vs,hv,ge,gc,gd,gf,g1,ye,ue,hh⟩:=hot;have hh':hv = .none ∨ ∃T oT ts,hv = .ref T/\T≠e/\s.heap.get? T=some oT/\oT.data = .fields ts/\ts[3]? = some .none:=by
  rcases hh with q | ⟨T,oT,ts,q1,q2,q3,q4,q5,_⟩
  ·exact .inl q
  ·exact .inr ⟨T,oT,ts,q1,q2,q3,q4,q5⟩
 refine lv2 (hs▸I.ok.frames) (hs▸I.stack) hf ge gc gd gf g1 hh' λh' T q1 ⟨oe',vs',oT',ts',f1,f2,f3,f4,f5,f6,f7,f8,f9⟩ g=>?_;have hch:∀b∈e::(match hv with | .ref T=>[T] | _=>[]),h0.get? b=none/\H b=none:=λb hb=>by
  rcases we.mp hb with rfl | hb
  ·exact⟨ye,ue⟩
  ·rcases hh with rfl | ⟨T,oT,ts,rfl,_,_,_,_,y,u⟩
   ·cases hb
   ·rw[w9.mp hb];exact⟨y,u⟩
 have nch:∀b,b∉e::(match hv with | .ref T=>[T] | _=>[])->b≠e/\hv ≠ .ref b:=λb hb=>⟨λz=>hb (z ▸ .head _),λz=>hb (by subst z;exact .tail _ (.head _))⟩
 have there:∀b o,s.heap.get? b=some o->∃o',h'.get? b=some o'∨b=e∨hv = .ref b:=λb o q=>by
  by_cases z1:b=e
  ·exact⟨o,.inr (.inl z1)⟩
  ·by_cases z2:hv = .ref b
   ·exact⟨o,.inr (.inr z2)⟩
   ·obtain⟨sl,q'⟩:=g.slot b o q z1 z2;exact⟨_,.inl q'⟩
 refine fin h' _ hch (.head _) ⟨λb o q n nf nx=>g.keep b o q (nch b nx).1 (nch b nx).2 (by rw[<- hs];exact nf),λb o q n _ nx=>g.slot b o q (nch b nx).1 (nch b nx).2,λb o _ n _=>n,λb o q nx=>?_,λ_ _ q=>q,λ_ _ _ q=>q,λb ps q=>⟨#[],by rw[q];simp⟩⟩ (λa o q=>?_) ⟨oe',vs',_,f1,f2,f3,f4,f5,ye,ue,.inr ⟨T,oT',ts',rfl,f6,f7,f8,f9,?_,I.hok.fresh q1⟩⟩
 ·obtain⟨sl,q'⟩:=g.slot b o q (nch b nx).1 (nch b nx).2;exact⟨_,q'⟩
 ·have tr:∀b o',H b=some o'->b≠e/\hv ≠ .ref b/\b∉frs (X.env::X.outer):=λb o' z=>by
   refine⟨λw=>?_,λw=>?_,λw=>?_⟩
   ·rw[w,ue]at z;cases z
   ·rcases hh with y | ⟨T,oT,ts,y,_,_,_,_,_,u⟩
    ·rw[y]at w;cases w
    ·rw[y]at w;cases w;rw[u]at z;cases z
   ·rw[<- hs]at w;rw[I.stkFree b w]at z;cases z
  refine(I.hok a o q).stay (λb u hb z=>?_) (λ_ z=>z) λ_ _ z=>z;have:∃o',H b=some o':=by
   rcases hb with rfl | hb
   ·exact⟨_,q⟩
   ·exact⟨_,hb⟩
  obtain⟨o',ho'⟩:=this;obtain⟨a1,a2,a3⟩:=tr b o' ho';exact g.keep b u z a1 a2 a3
 ·cases z:h0.get? T with
  | none=>rfl
  | some o=>exact absurd (hsub T o z) (zC.mpr q1)
end
section
variable {P:v3}{w:wz}{K:ac}{mg:Str->Option bi}{base:Heap}{N:List Str}{qual:Str}{scope:xx}{f:Addr}{cd:bi}{A:wy}{outer:List Env}{s0:bn}{H0:Hp}{E:XK}
theorem rF {pins:List (Addr×Obj)}{σ:St}{H:Hp}{s:bn}{e C:Addr}{od:Option Addr}(I:Inv (cxOf (CX1 P w) P w K mg base N qual scope f cd A outer s0 H0 E) pins σ H s)(hot:Hot od s0.heap s.heap H e C)(hyg:Yg s0.heap od)(he:E (odV od) (some C) H) :
  (cxOf (CX1 P w) P w K mg base N qual scope f cd A outer s0 H0 E).pz (.ref e) s:=by
 refine lvI2 I rfl rfl (λb o q=>?_) hot λh' ch hch hin un hok hot'=>?_
 ·exact o0 (lc q) I.sz
 ·have lo:∀b o,s0.heap.get? b=some o->b∉ch:=λb o q z=>by rw[(hch b z).1]at q;cases q
  have nL:∀b o,s0.heap.get? b=some o->b≠s0.heap.objs.size:=λb o q=>wm (lc q);refine⟨e,C,od,H,rfl,I.os,I.bare,⟨λb o q n nf _=>?_,λb o q n hb _=>?_,λb o q n _=>I.base.free b o q n (λz=>nomatch z),λb o q _=>?_,I.base.tups,I.base.frzs,I.base.tbls⟩,hok,hot',hyg,he⟩
  ·refine un.keep b o (I.base.keep b o q n nf λz=>nomatch z) (I.base.free b o q n λz=>nomatch z) (λz=>?_) (lo b o q);rcases we.mp z with z | z
   ·exact nL b o q z
   ·exact nf z
  ·obtain⟨sl,q'⟩:=I.base.slot b o q n hb λz=>nomatch z
   obtain⟨sl',q''⟩:=un.slot b _ q' (I.base.free b o q n λz=>nomatch z) (.tail _ hb) (lo b o q);exact⟨sl',q''⟩
  ·obtain⟨o',q'⟩:=I.base.there b o q λz=>nomatch z
   exact un.there b o' q' (lo b o q)
end
abbrev Cx.inFor (X:Cx):Cx:={X with xe:=X.pz}
section
variable {X:Cx}{R:VK}{tg:Expr}
theorem jE {iter:Expr}{body:List Stmt}{wi:TI}{g:TG}{tb:TS}{pos:Pos}(hc:X.calm=true)(hi:PI X.nox tg iter wi)(hg:PG X.nox tg g)(hb:PSsr X.inFor R body tb)
  (hs:∀x,x8 iter X.env x=pure x:=by intro _;rfl):PSr X R (.For tg iter body [] pos) (tFor wi g tb):=by
 intro pins s σ H D e I h;refine wpAny_For (wG (hi pins s σ H _ (I.wish _) h) (λv s1 h1=>wG h1 (λitv s2 h2=>?_) λ_ _ z=>wD z) λ_ _ z=>wD z) hs;obtain⟨it,fp,tn,J,H2,e2,I2w,T,st2,f2,W,⟨m0,w0⟩,turn⟩:=h2;subst e2;have I2:=I2w.unwish;have stat:∀ {H':Hp},(∀b∈fp,H' b=none)->∀b∈fp,FpOk X pins H' b:=λhn b hb=>⟨hn b hb,(f2 b hb).2⟩
 refine Di (λn s'=>∃i σ' H',Inv X pins σ' H' s'/\tn i s'.heap/\(∀b∈fp,H' b=none)/\W i n σ' H') ?_ m0 ⟨0,σ,H2,I2,st2,λb hb=>(f2 b hb).1,w0⟩;rintro n s3 ⟨i,σ3,H3,I3,st3,fr3,w3⟩;rcases turn i n σ3 H3 w3 with⟨stop,qn⟩ | ⟨go,N,hN,step⟩
 ·refine thn (T.done X rfl rfl rfl hc i pins s3 σ3 H3 X.pz I3 (stat fr3) st3 stop) λr s4 ⟨hr,I4⟩=>?_;subst hr;exact yS ⟨σ3,H3,I4,qn⟩
 ·refine thn (T.item X rfl rfl rfl hc i pins s3 σ3 H3 X.pz I3 (stat fr3) st3 go) λr s4 ⟨u,hr,h4⟩=>?_;subst hr;refine thn h4 λ_ s5 ⟨x,H5,I5,r5,y5,st5,fr5⟩=>?_;have I5':=I5.pinned (stat fr5) (T.obj _ _ st5);refine wG (hg _ s5 σ3 H5 x u _ (I5'.wish _) r5 (step x H5 y5)) (λ_ s6 ⟨σ6,H6,I6,q6⟩=>?_) λ_ _ z=>wD z;refine thn (hb _ s6 σ6 H6 {D with nx:=N,ct:=N,bk:=D.nx} e (I6.unwish.wish _) q6) λf s7 q7=>?_;have Db:∀ {σ7:St} {H7:Hp},Inv X (pins++hV fp s5.heap) σ7 H7 s7->N σ7 H7->∃m,m<n/\∃i σ' H',Inv X pins σ' H' s7/\tn i s7.heap/\(∀b∈fp,H' b=none)/\W i m σ' H':=λ{σ7 H7} I7 n7=>by
   obtain⟨m',hm,w7⟩:=hN σ7 H7 n7;refine⟨m',hm,i+1,σ7,H7,I7.unpinned,T.keep _ _ _ st5 λb hb o e=>(I7.pin (b,o) (wg _ (wg _ (cy hb e)))).1,λb hb=>?_,w7⟩;obtain⟨o,e,d⟩:=T.obj _ _ st5 b hb;exact(I7.pin (b,o) (wg _ (wg _ (cy hb e)))).2.1
  cases f with
  | next=>obtain⟨σ7,H7,I7,n7⟩:=q7;exact Db I7.unwish n7
  | cont=>exact q7.elim
  | brk=>exact q7.elim
  | ret v=>exact q7.elim
end
section
variable {P:v3}{w:wz}{K:ac}{mg:Str->Option bi}{base:Heap}{N:List Str}{qual:Str}{scope:xx}{f:Addr}{cd:bi}{A:wy}{outer:List Env}{s0:bn}{H0:Hp}{E:XK}{C:Addr}{fn:Option Str}
theorem tie2:Tie (cxOf (CX1 P w) P w K mg base N qual scope f cd A outer s0 H0 E).inFor C fn (XW E C fn):=⟨rfl,λI hot hy hf hr=>rF I.unwish hot hy (hr _ hf)⟩
end
end L2
namespace L2
theorem pJ {i j:Nat}{d:D}{ρ:En}{k:En->Prop}(h:nR 2 (fO (fo i) (fO (fo j) gaNil)) d ρ k):∃ ρ',k ρ':=by
 cases d with
 | tup ds =>
  cases ds with
  | nil=>exact h.elim
  | cons d1 ds =>
   cases ds with
   | nil=>exact h.elim
   | cons d2 ds =>
    cases ds with
    | nil=>exact⟨_,h⟩
    | cons _ _=>exact h.elim
 | _=>exact h.elim
theorem lg {i j m:Nat}{d1 d2 d3:D}{ρ:En}{k:En->Prop}(h:k (pt (pt (pt ρ i (.vl d1)) j (.vl d2)) m (.vl d3))):nR 2 (fO (fo i) (fO (nR 2 (fO (fo j) (fO (fo m) gaNil))) gaNil)) (.tup [d1,.tup [d2,d3]]) ρ k:=h
end L2
namespace L2
open PySem PySem.Spec PyProof.Rows
abbrev EnO (h:Heap)(e it:Addr)(i:Int)(old:bi)(a:Addr)(f:Bool):Prop :=
 h.get? e=some {cls:=.type "enumerate",dict:=none,data:=.fields #[wK a,.bool f,.ref it,wK i,.none,old],slots:=#[]}
section
variable {prog:v3}{w:wz}{A:wy}{E:bi->bn->Prop}{s:bn}
theorem qC {a:Addr}{o:Obj}{Q:Option Obj->bn->Prop}(ho:s.heap.get? a=some o)(h:Q (some o) s):nw (pp prog w) A (loadIfAlive a) Q E s:=by
 have h':Q (s.heap.get? a) s:=by rw[ho];exact h
 exact λ_ _ _=>h'
theorem qO {e it a:Addr}{f:Bool}{oa:Obj}{fp:List Addr}{n i:Nat}{P:Nat->bi->Prop}{St:Nat->Heap->Prop}{old:bi}{Q:bi->bn->Prop}
  (D:DT prog w A it fp n P St) (he:EnO s.heap e it i old a f) (ha:s.heap.get? a=some oa) (hae:a≠e) (hai:a≠it) (hst:St i s.heap) (hlt:i<n) (hne:e≠it) (hef:e∉fp)
  (hQ:∀x h' tk,P i x->EnO h' e it ((i:Int)+1) old a true->St (i+1) h' ->
   h'.get? s.heap.objs.size=some {cls:=.type "tuple",data:=.seq #[.int i tk,x]}->h'.objs.size=s.heap.objs.size+1 ->
   (∀b o,b≠e->b≠it->s.heap.get? b=some o->h'.get? b=some o)->Q (.ref s.heap.objs.size) {s with heap:=h',toks:=tk+1}) :
  nw (pp prog w) A (Builtin.«enumerate.__next__» ⟨[.ref e],[]⟩) (λfin s'=>∃v,fin = .done (.ret v)/\Q v s') E s:=by
 obtain⟨hp,g,d,tk₀,os⟩:=s;show nw _ _ (Cr (.ref e) 2>>=_) _ _ _;refine bd (wx he rfl (x:=.ref it) rfl ?_);refine bd (D.item i _ _ _ hlt hst λx h₁ tk hPx hit₁ hs₁=>?_);replace hs₁:w_ it hp h₁:=hs₁;have he₁:EnO h₁ e it i old a f:=(hs₁.2 e hne).trans he;show nw _ _ (Cr (.ref e) 3>>=_) _ _ ⟨h₁,g,d,tk,os⟩;refine bd (wx he₁ rfl (x:=wK i) rfl ?_);show nw _ _ (Cr (.ref e) 4>>=_) _ _ ⟨h₁,g,d,tk,os⟩;refine bd (wx he₁ rfl (x:=.none) rfl ?_);show nw _ _ (mkInt i>>=_) _ _ ⟨h₁,g,d,tk,os⟩;refine bd (wpAny_mkInt ?_);show nw _ _ (BQ (.ref e) 3 (wK ((i:Int)+1))>>=_) _ _ ⟨h₁,g,d,tk+1,os⟩;refine bd (AY he₁ (by simp) λh₂ he₂ hs₂=>?_);replace hs₂:w_ e h₁ h₂:=hs₂;replace he₂:EnO h₂ e it ((i:Int)+1) old a f:=he₂;show nw _ _ (BQ (.ref e) 4 .none>>=_) _ _ ⟨h₂,g,d,tk+1,os⟩;refine bd (AY he₂ (by simp) λh₃ he₃ hs₃=>?_);replace hs₃:w_ e h₂ h₃:=hs₃;replace he₃:EnO h₃ e it ((i:Int)+1) old a f:=he₃;show nw _ _ (newTuple [.int i tk,x]>>=_) _ _ ⟨h₃,g,d,tk+1,os⟩;refine bd (wpAny_newTuple ?_);have he₄:EnO (h₃.push {cls:=.type "tuple",data:=.seq #[.int i tk,x]}) e it ((i:Int)+1) old a f:=bv _ he₃;generalize hh₄:h₃.push {cls:=.type "tuple",data:=.seq #[.int i tk,x]}=h₄ at he₄;have hsz:h₃.objs.size=hp.objs.size:=by rw[hs₃.1,hs₂.1,hs₁.1]
 have hel:e<hp.objs.size:=lc he;have ht₄:h₄.get? hp.objs.size=some {cls:=.type "tuple",data:=.seq #[.int i tk,x]}:=by rw[<- hh₄,<- hsz];exact wa _ rfl
 have hz₄:h₄.objs.size=hp.objs.size+1:=by rw[<- hh₄,xL,hsz]
 have hk₄:∀b o,b≠e->b≠it->hp.get? b=some o->h₄.get? b=some o:=λb o hbe hbi hb=>by
  rw[<- hh₄];exact bv _ (hs₃.extBut b o hbe (hs₂.extBut b o hbe (hs₁.extBut b o hbi hb)))
 have hit₄:St (i+1) h₄:=D.frame _ _ _ hit₁ λb hb o y=>by
  have hbe:b≠e:=λq=>hef (q▸hb);rw[<- hh₄];exact bv _ (hs₃.extBut b o hbe (hs₂.extBut b o hbe y))
 show nw _ _ (zD (.ref e)>>=_) _ _ ⟨h₄,g,d,tk+1,os⟩;rw[hsz];clear hh₄ he₃ hs₃ he₂ hs₂ he₁ hs₁ hit₁ hsz h₃ h₂ h₁;have ha₄:h₄.get? a=some oa:=hk₄ a oa hae hai ha;refine bd ?_;unfold zD;refine bd (wx he₄ rfl (x:=wK a) rfl ?_);show nw _ _ (loadIfAlive ((a:Int).toNat)>>=_) _ _ _;rw[xE];refine bd (qC ha₄ ?_);simp only[Option.isNone_some,yK,if_false];refine bd (wx he₄ rfl (x:=.bool f) rfl ?_);have fin:∀h₅:Heap,EnO h₅ e it ((i:Int)+1) old a true->w_ e h₄ h₅->Q (.ref hp.objs.size) ⟨h₅,g,d,tk+1,os⟩:=λh₅ he₅ hs₅ =>
  hQ x h₅ tk hPx he₅ (D.frame _ _ _ hit₄ λb hb o y=>hs₅.extBut b o (λq=>hef (q▸hb)) y) (hs₅.extBut _ _ (wM hel) ht₄) (by show h₅.objs.size=hp.objs.size+1;rw[hs₅.1,hz₄]) λb o hbe hbi hb=>hs₅.extBut b o hbe (hk₄ b o hbe hbi hb)
 cases f with
 | true =>
  rw[if_neg (show ¬((Value.bool true != Value.bool true)=true)from wS)];refine lw ?_;simp only[yK,if_false];exact lw ⟨_,rfl,fin h₄ he₄ (Ec _ _)⟩
 | false =>
  rw[if_pos (show(Value.bool false != Value.bool true)=true from rfl)];refine bd (AY he₄ (by simp) λh₅ he₅ hs₅=>?_);replace hs₅:w_ e h₄ h₅:=hs₅;replace he₅:EnO h₅ e it ((i:Int)+1) old a true:=he₅;refine lw ?_;simp only[yK,if_false];exact lw ⟨_,rfl,fin h₅ he₅ hs₅⟩
def EnS (h:Heap)(e it:Addr)(i:Nat)(S:Addr):Prop:=(∃old,B2 h e it i old) ∨ ∃old a f oa,EnO h e it i old a f/\h.get? a=some oa/\a≠e/\a≠it/\a≠S
theorem EnS.keep {h h':Heap}{e it S:Addr}{i:Nat}(x:EnS h e it i S)(hk:∀b o,b≠S->h.get? b=some o->h'.get? b=some o)(hS:e≠S):EnS h' e it i S:=by
 rcases x with⟨old,he⟩ | ⟨old,a,f,oa,he,ha,h1,h2,h3⟩
 ·exact .inl ⟨old,hk _ _ hS he⟩
 ·exact .inr ⟨old,a,f,oa,hk _ _ hS he,hk _ _ h3 ha,h1,h2,h3⟩
theorem EnS.typeIs {e it S:Addr}{i:Nat}(x:EnS s.heap e it i S):s.TypeIs (.ref e) "enumerate" := by
 rcases x with⟨old,he⟩ | ⟨old,a,f,oa,he,_⟩
 ·exact⟨_,he,rfl⟩
 ·exact⟨_,he,rfl⟩
theorem qN {e it S:Addr}{fp:List Addr}{n i:Nat}{P:Nat->bi->Prop}{St:Nat->Heap->Prop}{Q:Option bi->bn->Prop}
  (D:DT prog w A.in1 it fp n P St) (he:EnS s.heap e it i S) (hit:it<s.heap.objs.size) (hS:S<s.heap.objs.size) (hst:St i s.heap) (hlt:i<n) (hne:e≠it) (hef:e∉fp)
  (hQ:∀x h' tk,P i x->EnS h' e it (i+1) S->St (i+1) h' ->
   h'.get? s.heap.objs.size=some {cls:=.type "tuple",data:=.seq #[.int i tk,x]}->h'.objs.size=s.heap.objs.size+1 ->
   (∀b o,b≠e->b≠it->s.heap.get? b=some o->h'.get? b=some o)->Q (some (.ref s.heap.objs.size)) {s with heap:=h',toks:=tk+1}) :
  nw (pp prog w) A (Ax (.ref e)) Q E s:=by
 have hT:s.TypeIs (.ref e) "enumerate" := he.typeIs;rcases he with⟨old,he⟩ | ⟨old,a,f,oa,he,ha,h1,h2,h3⟩
 ·refine Co D he hst hlt hne hef λx h' tk hP ho hs ht hz hk=>hQ x h' tk hP (.inr ⟨x,_,false,_,?_,ht,wM (lc he),wM hit,wM hS⟩) hs ht hz hk;have ec:((i+1:Nat):Int)=(i:Int)+1:=by omega
  rw[ec];exact ho
 ·unfold Ax;refine bd (Ca (xO (name:=yV "__next__") hT y9
   (x_ y9 hT Ck
    (qO D he ha h1 h2 hst hlt hne hef λx h' tk hP ho hs ht hz hk=>lw (hQ x h' tk hP (.inr ⟨old,a,true,oa,?_,hk a oa h1 h2 ha,h1,h2,h3⟩) hs ht hz hk)) (B9 _))))
  have ec:((i+1:Nat):Int)=(i:Int)+1:=by omega
  rw[ec];exact ho
theorem tF {e it S:Addr}{fp:List Addr}{n i:Nat}{P:Nat->bi->Prop}{St:Nat->Heap->Prop}{Q:Option bi->bn->Prop}
  (D:DT prog w A.in1 it fp n P St) (he:EnS s.heap e it i S) (hst:St n s.heap)
  (hQ:∀h',DX it s.heap h'->Q none {s with heap:=h'}):nw (pp prog w) A (Ax (.ref e)) Q E s:=by
 have hT:s.TypeIs (.ref e) "enumerate" := he.typeIs;rcases he with⟨old,he⟩ | ⟨old,a,f,oa,he,ha,h1,h2,h3⟩
 ·exact CD D he hst hQ
 ·unfold Ax;refine bd (Ca (xO (name:=yV "__next__") hT y9
   (x_ y9 hT Ck ?_ (B9 _))))
  show nw _ _ (Cr (.ref e) 2>>=_) _ _ _;refine bd (wx he rfl (x:=.ref it) rfl ?_);refine bd (D.done _ _ _ hst λh' x he' hx'=>?_);obtain⟨o,ho,hc⟩:=hx';refine bd (wpAny_isInstance (T := "StopIteration") (b:=true) ⟨o,ho,hc⟩ isSubtype_stop ?_);exact lw (hQ _ he')
end
structure LeG (P:Nat->bi->Prop)(lo:Addr)(h:Heap)(as:List Addr):Prop where
 rise:as.Pairwise (· < ·)
 above:∀a∈as,lo<a
 pairs:∀(j:Nat) (a:Addr),as[j]? = some a->∃tk x,P j x/\h.get? a=some {cls:=.type "tuple",data:=.seq #[.int j tk,x]}
theorem LeG.there {P:Nat->bi->Prop}{lo:Addr}{h:Heap}{as:List Addr}(g:LeG P lo h as){a:Addr}(ha:a∈as):a<h.objs.size:=by
 obtain⟨j,hj⟩:=List.mem_iff_getElem?.mp ha;obtain⟨_,_,_,e⟩:=g.pairs j a hj;exact lc e
section
variable {prog:v3}{w:wz}{A:wy}{s:bn}{R:CK->bn->Prop}
theorem sW {S e it:Addr}{fp:List Addr}{n:Nat}{P:Nat->bi->Prop}{St:Nat->Heap->Prop}(D:DT prog w A.in1.in1 it fp n P St)(heS:e<S)(hiS:it<S)(hne:e≠it)(hef:e∉fp)(hSf:S∉fp)(hn:n<=v5)(res:bi){h₁:Heap}
  (hR:∀h' tk acc c as,(∀b o,b≠S->b≠e->b≠it->h₁.get? b=some o->h'.get? b=some o)->h'.get? S=some {cls:=.type "list",dict:=none,data:=.seq acc c,slots:=#[]}->as.length=n->LeG P S h' as ->
   acc.toList=as.map Value.ref->R (.ok (.ret res)) {s with heap:=h',toks:=tk}) :
  ∀(k i:Nat) (h:Heap) (tk c:Nat) (acc:Array bi) (as:List Addr),n - i=k->i<=n->EnS h e it i S->St i h->(∀b o,b≠S->b≠e->b≠it->h₁.get? b=some o->h.get? b=some o) ->
   h.get? S=some {cls:=.type "list",dict:=none,data:=.seq acc c,slots:=#[]}->acc.toList=as.map Value.ref->as.length=i->LeG P S h as ->
   zp (pp prog w) A (.builtin "list.extend.loop" ⟨[.ref S,.ref e,res],[]⟩) R {s with heap:=h,toks:=tk}:=by
 intro k;induction k with
 | zero =>
  intro i h tk c acc as hk hi hst hD hkeep hS hacc hal hG;have hin:i=n:=by omega
  subst hin;refine BF A_ ?_;rw[z7 zx _];show nw _ A.in1 (Ax (.ref e)>>=_) _ _ _;refine bd (tF (s:={s with heap:=h,toks:=tk}) (A:=A.in1) D hst hD λh' he=>?_);refine lw (hR h' tk acc c as (λb o h1 h2 h3 e=>he b o h3 (hkeep b o h1 h2 h3 e)) (he S _ (wM hiS) hS) hal ⟨hG.rise,hG.above,λj a hj=>?_⟩ hacc);obtain⟨t,x,e1,e3⟩:=hG.pairs j a hj;exact⟨t,x,e1,he a _ (wM (yD hiS (hG.above a (wr hj)))) e3⟩
 | succ k ih =>
  intro i h tk c acc as hk hi hst hD hkeep hS hacc hal hG;have hlt:i<n:=by omega
  have hsz:acc.size=i:=by rw[<- zc,hacc,db,hal]
  have hSl:S<h.objs.size:=lc hS;refine BF A_ ?_;rw[z7 zx _];show nw _ A.in1 (Ax (.ref e)>>=_) _ _ _;refine bd (qN (s:={s with heap:=h,toks:=tk}) (A:=A.in1) (S:=S) D hst (yD hiS hSl) hSl hD hlt hne hef λx h' tk' hP hst' hD' ht hz hkp=>?_);dsimp only at ht hz hkp ⊢;have hS':=hkp S _ (wM heS) (wM hiS) hS;have up:∀b o,b≠S->h'.get? b=some o->(h'.update S (xC (·.push (Value.ref h.objs.size)))).get? b=some o:=λb o hb e=>(vY _ _ (xc hb)).trans e;show nw _ A.in1 (Cp S (·.push (Value.ref h.objs.size))>>=_) _ _ _;refine bd ?_;refine Ai hS' rfl (lw ⟨Cb zx _,ih (i+1) _ (tk'+1) _ (acc.push (Value.ref h.objs.size)) (as++[h.objs.size]) (by omega) hlt (hst'.keep up (wm heS)) (D.frame _ _ _ hD' λb hb o e=>up b o (λq=>hSf (q▸hb)) e)
   (λb o h1 h2 h3 e=>up b o h1 (hkp b o h2 h3 (hkeep b o h1 h2 h3 e))) (ww _ hS' rfl) (by rw[Array.toList_push,hacc,wJ];rfl) (by rw[wb,hal];rfl) ⟨?_,?_,?_⟩⟩) (by rw[hsz];omega) (by show(acc.push (Value.ref h.objs.size)).size<=v5+1;rw[Array.size_push,hsz];omega)
  ·refine List.pairwise_append.mpr ⟨hG.rise,List.pairwise_singleton _ _,λa ha b hb=>?_⟩;rw[w9.mp hb];exact hG.there ha
  ·intro a ha;rcases xM.mp ha with ha | ha
   ·exact hG.above a ha
   ·rw[w9.mp ha];exact hSl
  ·intro j b hj;rcases C3 j as.length with h1 | h1 | h1
   ·rw[wU h1]at hj;obtain⟨t,x',e1,e3⟩:=hG.pairs j b hj;have hb:=hG.above b (wr hj);exact⟨t,x',e1,up b _ (wM hb) (hkp b _ (wM (yD heS hb)) (wM (yD hiS hb)) e3)⟩
   ·subst h1;have hb:h.objs.size=b:=by simpa using hj
    subst hb;exact⟨tk',x,by rw[hal];exact hP,by rw[hal];exact up _ _ (wM hSl) ht⟩
   ·have hnone:(as++[h.objs.size])[j]? = none:=xh (by rw[wb,wH];omega);rw[hnone]at hj;cases hj
end
theorem lU:A2 (.type "enumerate") "__len__" = pure none:=by rw[D3,C1];kernel_rfl
theorem kL:A2 (.type "enumerate") "__length_hint__" = pure none:=by rw[D3,C1];kernel_rfl
section
variable {prog:v3}{w:wz}{A:wy}{E:bi->bn->Prop}{s:bn}
theorem sX {e it:Addr}{fp:List Addr}{n:Nat}{P:Nat->bi->Prop}{St:Nat->Heap->Prop}{old:bi}{Q:bi->bn->Prop}(D:DT prog w A.in1.in1.in1 it fp n P St)(he:B2 s.heap e it 0 old)(hit:it<s.heap.objs.size)(hst:St 0 s.heap)(hne:e≠it)(hef:e∉fp)(hfp:∀b∈fp,b<s.heap.objs.size)(hn:n<=v5)
  (hQ:∀h' tk acc c as,(∀b o,b≠e->b≠it->s.heap.get? b=some o->h'.get? b=some o)->h'.get? s.heap.objs.size=some {cls:=.type "list",dict:=none,data:=.seq acc c,slots:=#[]}->as.length=n->LeG P s.heap.objs.size h' as ->
   acc.toList=as.map Value.ref->Q (.ref s.heap.objs.size) {s with heap:=h',toks:=tk}) :
  nw (pp prog w) A (call (.type "list") [.ref e]) Q E s:=by
 refine callType_codes (Q₁:=λobj s₁=>obj = .ref s.heap.objs.size/\s₁={s with heap:=s.heap.push {cls:=.type "list",data:=.seq #[]}}) PySem.F.called_list (PySem.F.typeCall_list_1 _) PySem.F.entry_list_init
  (code_list_new _ ⟨rfl,rfl⟩) λobj s₁ h₁=>?_
 obtain⟨rfl,rfl⟩:=h₁;have hel:e<s.heap.objs.size:=lc he;have hS:(s.heap.push {cls:=.type "list",data:=.seq #[]}).get? s.heap.objs.size=some {cls:=.type "list",data:=.seq #[]}:=wa _ rfl;have old1:∀b o,s.heap.get? b=some o->(s.heap.push {cls:=.type "list",data:=.seq #[]}).get? b=some o:=λb o e=>bv _ e;have lts:∀b o,s.heap.get? b=some o->b≠s.heap.objs.size:=λb o e=>wm (lc e);refine⟨⟨_,hS,rfl⟩,PySem.F.args_list_init_2 _ _,?_⟩;generalize hS0:s.heap.objs.size=S at hS hit hfp hQ hel lts ⊢;generalize hh1:s.heap.push {cls:=.type "list",data:=.seq #[]}=hp1 at hS old1 ⊢;show nw _ _ (do let old <- AX (.ref S);Ed (.ref S) (λ_=>#[]);letGo old.toList.reverse;yY (.ref S) (.ref e) .none) _ _ _;refine bd ?_;unfold AX;refine bd (BP hS rfl (lw ?_));show nw _ _ (Cp S (λ_=>#[])>>=λ_=>letGo (#[]:Array bi).toList.reverse>>=λ_=>yY (.ref S) (.ref e) .none) _ _ _;refine bd (Ai hS rfl ?_);have hS₂:=ww (xC (λ_=>(#[]:Array bi))) hS rfl;have oth:∀b o,b≠S->hp1.get? b=some o->(hp1.update S (xC (λ_=>(#[]:Array bi)))).get? b=some o :=
  λb o hb e=>(vY _ _ (xc hb)).trans e
 refine bd (wpAny_letGo ?_);generalize hp1.update S (xC (λ_=>(#[]:Array bi)))=hp2 at hS₂ oth ⊢;have old2:∀b o,s.heap.get? b=some o->hp2.get? b=some o:=λb o e=>oth b o (lts b o e) (old1 b o e);have he2:B2 hp2 e it 0 old:=old2 _ _ he;have hT2:Shared.TypeIs {s with heap:=hp2} (.ref e) "enumerate" := ⟨_,he2,rfl⟩
 unfold yY;refine bd (Aa hT2 ?_);have h1:AK (.ref S) (.ref e)=false:=by simp[AK,wM hel]
 have h2:(Value.type "enumerate" == Value.type "list")=false:=by decide
 have h3:(Value.type "enumerate" == Value.type "tuple")=false:=by decide
 simp only[h1,h2,h3,BE,yK,if_false];refine bd (Bg he2 ?_);refine bd (yp ?_);unfold Ef;refine bd (Aj hT2 lU ?_);show nw _ _ (specialOf (Value.ref e) (yV "__length_hint__")>>=_) _ _ _;refine bd (Aj hT2 kL ?_);refine lw ?_;show nw _ _ (rule "list.extend.makes-room" >>= λ_=>Ee (.ref S)>>=λ_ =>
  Db (.builtin "list.extend.loop" ⟨[.ref S,.ref e,.none],[]⟩)) _ _ _
 refine bd (zM ?_);refine bd ?_;show nw _ _ (Cp S (·.push .none)>>=λ_=>Cp S (·.pop)) _ _ _;refine bd (Ai hS₂ rfl ?_);have hS₃:=ww (xC (·.push Value.none)) hS₂ rfl;refine Ai (hz:=by seq_fits) hS₃ rfl ?_;have hS₄:=ww (xC (·.pop)) hS₃ rfl;have oth4:∀b o,b≠S->hp2.get? b=some o->((hp2.update S (xC (·.push Value.none))).update S (xC (·.pop))).get? b=some o :=
  λb o hb e=>(vY _ _ (xc hb)).trans ((vY _ _ (xc hb)).trans e)
 generalize (hp2.update S (xC (·.push Value.none))).update S (xC (·.pop))=hp4 at hS₄ oth4 ⊢;have old4:∀b o,s.heap.get? b=some o->hp4.get? b=some o:=λb o e=>oth4 b o (lts b o e) (old2 b o e);refine lw ⟨Cb zx _,?_⟩;refine sW (s:=s) (h₁:=s.heap) D hel hit hne hef (λq=>xS _ (hfp _ q)) hn .none (λh' tk acc c as hk hS' hl hG hacc=>?_) n 0 hp4 s.toks _ #[] [] (BZ _) (wp _) (.inl ⟨old,old4 _ _ he⟩) (D.frame _ _ _ hst λb hb o e=>old4 b o e) (λb o _ _ _ e=>old4 b o e) hS₄ rfl rfl
  ⟨List.Pairwise.nil,(λ_ ha=>nomatch ha),(λj a hj=>by simp at hj)⟩
 exact⟨rfl,hQ h' tk acc c as (λb o h1 h2 e=>hk b o (lts b o e) h1 h2 e) hS' hl hG hacc⟩
end
theorem iT {X:Cx}{pins:List (Addr×Obj)}{σ:St}{s:bn}{H1:Hp}{lo:Addr}(fp:∀b,lo<=b->FpOk X pins H1 b):∀(as:List Addr) (xs:List V) (k:Nat) (H:Hp),Inv X pins σ H s->as.Pairwise (· < ·)->(∀a∈as,lo<=a)->(∀a∈as,H a=none) ->
  (∀j a,as[j]? = some a->∃tk x u,xs[j]? = some x/\RelV x u/\s.heap.get? a=some {cls:=.type "tuple",data:=.seq #[.int ((k+j:Nat):Int) tk,u]}) ->
  ∃H',Inv X pins σ H' s/\Same H H'/\(∀j a,as[j]? = some a->∃x,xs[j]? = some x/\H' a=some (.tup [.int ((k+j:Nat):Int),x]))/\∀b,b∉as->H' b=H b
 | [],xs,k,H,I,_,_,_,_=>⟨H,I,.refl _,(λj a h=>by simp at h),λ_ _=>rfl⟩
 | a::as,xs,k,H,I,hp,hl,hn,ht=>by
  obtain⟨tk,x,u,ex,ru,eu⟩:=ht 0 a rfl;have ea:=hn a wV;have hp':=List.pairwise_cons.mp hp;have ne:∀b∈as,b≠a:=λb hb=>wM (hp'.1 b hb);have I2:=I.trackO (p:=a) (o:=.tup [.int ((k:Nat):Int),x]) ⟨ea,(fp a (hl a wV)).2⟩ ⟨by show 2<=v5;decide,[.int ((k:Nat):Int) tk,u],.cons ⟨_,rfl⟩ (.cons ru .nil),_,eu,rfl,_,rfl⟩;cases xs with
  | nil=>simp at ex
  | cons x0 xs =>
   simp only[yM,xI]at ex;subst ex;obtain⟨H',J1,J2,J3,J4⟩:=iT fp as xs (k+1) _ I2 hp'.2 (λb hb=>hl b (wQ _ hb)) (λb hb=>by rw[aI (ne b hb)];exact hn b (wQ _ hb)) (λj b hj=>by
    obtain⟨tk,x,u,e1,e2,e3⟩:=ht (j+1) b (by simpa using hj);exact⟨tk,x,u,by simpa using e1,e2,by rw[show k+1+j=k+(j+1)by omega];exact e3⟩)
   refine⟨H',J1,λb o e=>J2 b o (by rw[aI (bg e ea)];exact e),λj b hj=>?_,λb hb=>?_⟩
   ·cases j with
    | zero =>
     simp only[yM,xI]at hj;subst hj;exact⟨x0,rfl,J2 a _ aX⟩
    | succ j =>
     obtain⟨x,e1,e2⟩:=J3 j b (by simpa using hj);exact⟨x,by simpa using e1,by rw[show k+(j+1)=k+1+j by omega];exact e2⟩
   ·have nb:b≠a:=λz=>hb (z▸wV);rw[J4 b (λz=>hb (wQ _ z)),aI nb]
def tLsE (K:ac)(t:TA):TE:=λσ H Q=>t σ H λvs H1=>∃l xs,vs=[.ref l]/\SqT K H1 l xs/\∀ys H0 p,Same H1 H0->ys.length=xs.length ->
 (∀j x,xs[j]? = some x->∃q,ys[j]? = some (.ref q)/\H1 q=none/\H0 q=some (.tup [.int (j:Nat),x]))->H0 p=none->Q (.ref p) (upd H0 p (.lst ys))
theorem oZ (K:ac){X:Cx}{a:Expr}{ta:TA}{p1 p2 pos1 pos2:Pos}(hc:X.calm=true)(hg1:Gl X "list")(hm1:X.mg "list" = none)(hg2:Gl X "enumerate")(hm2:X.mg "enumerate" = none)(ha:PA X [a] ta)(hK:X.K=K:=by rfl)
  (hs1:wq [.Call (.Name "enumerate" p2) [a] [] pos2] X.env=[(false,eval (.Call (.Name "enumerate" p2) [a] [] pos2) X.env)]:=by rfl) (hs2:wq [a] X.env=[(false,eval a X.env)]:=by rfl) :
  PE X (.Call (.Name "list" p1) [.Call (.Name "enumerate" p2) [a] [] pos2] [] pos1) (tLsE K ta):=by
 subst hK;intro pins s σ H Q I h;refine CB (eF I hg1 hm1 p6 (wN ?_ hs1 rfl));rw[hs1];show nw _ _ (DG [(false,eval (.Call (.Name "enumerate" p2) [a] [] pos2) X.env)]) _ _ s;refine yJ ?_;refine CB (eF I hg2 hm2 gE (wN (thn (ha pos2 pins s σ H _ I h) λus s1 ⟨vs,H1,I1,r1,q1⟩=>?_) hs2 rfl));obtain⟨l,xs,rfl,h1,q⟩:=q1;obtain⟨u,rfl,ru⟩:=k9 r1;cases ru
 obtain⟨its,rv,p1,hz⟩:=I1.tuple h1;have lt:l<s1.heap.objs.size:=by obtain⟨o,e,_⟩:=id p1;exact lc e
 refine jh p1 λh' he hi hsz hk=>yR ?_;have pt1:h'.IsTuple l its.toArray:=by obtain⟨o,e,r⟩:=p1;exact⟨o,hk _ _ e,r⟩
 have nl:l≠s1.heap.objs.size:=wm lt;have nel:s1.heap.objs.size+1≠l:=xc (wm (C4 lt));have ltI:s1.heap.objs.size<h'.objs.size:=by rw[hsz];exact Nat.lt_add_of_pos_right (by decide)
 have e0:B2 h' (s1.heap.objs.size+1) s1.heap.objs.size ((0:Nat):Int) .none:=he;refine sX (s:={s1 with heap:=h'}) (iw (show X.A.in1.in1.in1.handled=none from I1.ok.hd hc) s1.heap.objs.size l nl its.toArray) he ltI ⟨hi,pt1⟩ (Dd _) (λz=>by
  simp only[we,xJ,or_false]at z;rcases z with z | z
  ·exact Dd _ z
  ·exact nel z) (λb hb=>?_) (by rw[kt,<- rv.length];exact hz) λh2 tk acc c as hk2 hS hl hG hacc=>?_
 ·show b<h'.objs.size;simp only[we,xJ,or_false]at hb;rcases hb with rfl | rfl
  ·exact ltI
  ·exact yD lt ltI
 ·have hle:s1.heap.objs.size<=h'.objs.size:=by omega
  have hS':h2.get? h'.objs.size=some {cls:=.type "list",dict:=none,data:=.seq acc c,slots:=#[]}:=hS;have le0:∀b,s1.heap.objs.size<=b->FpOk X pins H1 b:=λb hb=>I1.fpOk hb (I1.hok.fresh hb);have I2:Inv X pins σ H1 {s1 with heap:=h'}:=I1.kept (t':=s1.toks) hk;have I3:Inv X pins σ H1 {s1 with heap:=h2,toks:=tk}:=Inv.turns (s:={s1 with heap:=h'}) (ch:=[s1.heap.objs.size+1,s1.heap.objs.size]) (t':=tk) I2 (λb o hb e=>by
   simp only[we,xJ,or_false,not_or]at hb;exact hk2 b o hb.1 hb.2 e) (λb hb=>le0 b (by
    simp only[we,xJ,or_false]at hb;rcases hb with rfl | rfl
    ·exact Ea _
    ·exact ms _))
  have abv:∀b∈as,h'.objs.size<b:=hG.above;obtain⟨H0,J1,J2,J3,J4⟩:=iT (lo:=s1.heap.objs.size) le0 as xs 0 H1 I3 hG.rise (λb hb=>wo hle (wT (abv b hb))) (λb hb=>I1.hok.fresh (wo hle (wT (abv b hb)))) (λj b hj=>by
   obtain⟨t,x,e1,e2⟩:=hG.pairs j b hj;have e1':its[j]? = some x:=by simpa using e1
   have hjl:j<xs.length:=by rw[rv.length];exact(lm.mp e1').1
   obtain⟨u,hu,ru⟩:=rv.get (dL hjl);rw[e1']at hu;cases hu
   exact⟨t,xs[j],x,dL hjl,ru,by rw[x5];exact e2⟩)
  have nS:h'.objs.size∉as:=λz=>xS _ (abv _ z);have f0:=le0 h'.objs.size (by omega);have n0:H0 h'.objs.size=none:=by rw[J4 _ nS];exact f0.1
  have hal:as.length=xs.length:=by rw[hl,kt,<- rv.length]
  have vr:∀l:List Addr,Vals (l.map V.ref) (l.map Value.ref):=λl=>by
   induction l with
   | nil=>exact .nil
   | cons a l ih=>exact .cons rfl ih
  have I4:=J1.track (D:=h'.objs.size) (ys:=as.map V.ref) (its:=acc.toList) (n:=c) n0 (wo I1.sz (by omega)) f0.2.1 f0.2.2.2.2.1 f0.2.2.2.2.2 (by rw[db,hal];exact hz) (by rw[hacc];exact vr as) (by simpa using hS');refine⟨.ref h'.objs.size,_,I4,rfl,q _ H0 _ J2 (by rw[db,hal]) (λj x hx=>?_) n0⟩;have hj:j<as.length:=by rw[hal];exact(lm.mp hx).1
  obtain⟨x',e1,e2⟩:=J3 j as[j] (dL hj);rw[hx]at e1;cases e1
  rw[x5]at e2;refine⟨as[j],by rw[sB,dL hj];rfl,I1.hok.fresh (wo hle (wT (abv as[j] (yx hj)))),e2⟩
section
variable {K:ac}{ts:TA}{as:AA}
def aLsE (as:AA):AE:=λρ q=>as ρ λrs ρ1=>match rs with
 | [.d (.tup ds)]=>q (.n (.ow (gK 0 ds))) ρ1
 | _=>False
theorem mr {H1 H0:Hp}:∀ {vs:List V} {ds:List D} {ys:List V} {b:Nat},RepDs K H1 vs ds->ys.length=vs.length->(∀j x,vs[j]? = some x->∃q,ys[j]? = some (.ref q)/\H0 q=some (.tup [.int ((b+j:Nat):Int),x]))->(∀a o,H1 a=some o->H0 a=some o)->RepDs K H0 ys (gK b ds)
 | [],[],ys,b,_,hl,_,_=>by
  cases ys with
  | nil=>exact .nil
  | cons _ _=>simp at hl
 | v::vs,d::ds,ys,b,r,hl,hy,sm=>by
  cases ys with
  | nil=>simp at hl
  | cons y ys =>
   unfold RepDs at r;obtain⟨q,e1,e2⟩:=hy 0 v rfl;simp only[yM,xI]at e1;subst e1;refine .cons ?_ (mr (b:=b+1) r.2 (by simpa using hl) (λj x hx=>?_) sm)
   ·unfold RepD;exact⟨q,[.int (b:Nat),v],rfl,e2,.cons (by unfold RepD;rfl) (.cons (r.1.same sm) .nil)⟩
   ·obtain⟨q',e3,e4⟩:=hy (j+1) x (by simpa using hx);exact⟨q',by simpa using e3,by rw[show b+1+j=b+(j+1)by omega];exact e4⟩
 | [],_::_,_,_,r,_,_,_=>by unfold RepDs at r;exact r.elim
 | _::_,[],_,_,r,_,_,_=>by unfold RepDs at r;exact r.elim
theorem la (h:TAok K ts as):TEok K (tLsE K ts) (aLsE as):=by
 intro F σ ρ H q Q r ha k;refine h F σ ρ H _ _ r ha λrs ρ1 vs H1 h1 r1 i1 k1=>?_;split at h1
 ·rename_i ds;obtain⟨x,rfl,ix⟩:=i1.one;have rd:RepD K _ x (.tup ds):=ix;unfold RepD at rd;obtain⟨a,vs,rfl,sq,rd⟩:=rd;refine⟨a,vs,rfl,bQ.seqT sq.sq,λys H0 p sm hl hy hp=>?_⟩;have k0:Kp σ ρ1 ρ1 H1 H0:=⟨λa o e _=>sm a o e,λ_ h=>h⟩
  have hv:∀ {b},H1 b=none->¬hs F σ ρ1 b:=λ{b} e z=>mK r1 z e;refine k (.n (.ow (gK 0 ds))) ρ1 _ _ h1 ⟨H0,p,_,r1.grow sm,k1.trans k0,rfl,⟨p,ys,rfl,aX,?_⟩,hp,rfl,rfl⟩;refine mr rd hl (λj x hx=>?_) k0.vis;obtain⟨q',e1,e2,e3⟩:=hy j x hx;exact⟨q',e1,dh (hv e2) (by rw[x5];exact e3)⟩
 ·exact h1.elim
end
theorem mv {κ:Type} [DecidableEq κ](kvs:List (κ×D))(k:κ)(d:D):(putD kvs k d).length<=kvs.length+1:=by
 unfold putD;split
 ·simp
 ·simp
theorem g0:isSubtype (.type "range_iterator") (.type "reversed")=pure false:=by rw[isSubtype_type];kernel_rfl
section
variable {prog:v3}{w:wz}{A:wy}{E:bi->bn->Prop}{s:bn}
theorem ng {r:Addr}{a b c:Int}{t u v:Tok}{Q:Int×Int×Int->bn->Prop}(hr:DQ s.heap r a b c t u v)(h:Q (a,b,c) s):nw (pp prog w) A (Au (.ref r)) Q E s:=by
 unfold Au;refine bd (wx hr rfl (x:=.int a t) rfl ?_);refine bd (yg (a:=some a) rfl ?_);refine bd (wx hr rfl (x:=.int b u) rfl ?_);refine bd (yg (a:=some b) rfl ?_);refine bd (wx hr rfl (x:=.int c v) rfl ?_);refine bd (yg (a:=some c) rfl ?_);exact lw h
theorem kQ {r:Addr}{n:Nat}{t u v:Tok}{Q:bi->bn->Prop}(hr:DQ s.heap r 0 n 1 t u v)(hn:n<=1000000)
  (h:Q (.ref s.heap.objs.size) {s with heap:=s.heap.push {cls:=.type "range_iterator",data:=.fields #[wK ((n:Int) - 1),wK n,wK (-1)]}}) :
  nw (pp prog w) A (call (.builtin "range.__reversed__") [.ref r]) Q E s:=by
 have hT:s.TypeIs (.ref r) "range" := ⟨_,hr,rfl⟩
 refine x_ Ah hT F.entry_range_reversed ?_ (F.args_range_reversed_1 _);have e0:xt 0 n 1=n:=by unfold xt;simp;omega
 have es:(wl 0&&wl n&&wl 1&&wl (-1)&&wl (0 - 1)&&wl n)=true:=by
  simp only[wl,wC,decide_eq_true_eq];omega
 unfold Builtin.«range.__reversed__»;refine bd (yg (a:=Value.ref r) (by first | rfl | kernel_rfl) ?_);refine bd (ng hr ?_);show nw _ _ (if(!(wl 0&&wl n&&wl 1&&wl (-1)&&wl (0 - 1)&&wl (xt 0 n 1)))=true then _ else _) _ _ _;rw[e0,es];simp only[Bool.not_true,yK,if_false,if_true];refine bd ?_;unfold Cq;refine w6 (lw ⟨_,rfl,?_⟩);have e1:(0:Int)+((n:Int) - 1)*1=(n:Int) - 1:=by omega
 rw[e1];exact h
theorem kP {r:Addr}{n:Nat}{t u v:Tok}{Q₁:bi->bn->Prop}(hr:DQ s.heap r 0 n 1 t u v)(hn:n<=1000000)
  (h:Q₁ (.ref s.heap.objs.size) {s with heap:=s.heap.push {cls:=.type "range_iterator",data:=.fields #[wK ((n:Int) - 1),wK n,wK (-1)]}}) :
  zp (pp prog w) A (.call (.builtin "reversed.__new__") ⟨[.type "reversed",.ref r],[]⟩) (wants Q₁ E) s:=by
 have hT:s.TypeIs (.ref r) "range" := ⟨_,hr,rfl⟩
 refine D5 ?_;show nw _ A.in1 (do zg "reversed.__new__" ⟨[.type "reversed",.ref r],[]⟩;Db (.builtin "reversed.__new__" ⟨[.type "reversed",.ref r],[]⟩)) _ _ s;refine bd (yg (F.newCall_reversed_1 _) (lw ⟨Cb CV _,BF F.entry_reversed_new ?_⟩));rw[z7 CV _];unfold Builtin.«reversed.__new__»;refine bd (yg (newClass_reversed _) ?_);try dsimp only
 refine bd (yg (a:=()) (by first | rfl | kernel_rfl) ?_);refine bd (yg (a:=()) (by first | rfl | kernel_rfl) ?_);try dsimp only
 refine bd (Aj hT Ah.lookup ?_);try dsimp only
 refine bd (yg (Ah.bind _) ?_);try dsimp only
 first
 | rw[if_neg (show ¬((Value.builtin "range.__reversed__" == Value.none)=true)from wS)]
 | (show nw _ _ (if(Value.builtin "range.__reversed__" == Value.none)=true then _ else _) _ _ _;rw[if_neg (show ¬((Value.builtin "range.__reversed__" == Value.none)=true)from wS)])
 refine bd (zM ?_);refine bd (m:=runValue (.call (.builtin "range.__reversed__") ⟨[.ref r],[]⟩)) (show nw _ _ (call (.builtin "range.__reversed__") [.ref r]) _ _ _ from kQ hr hn ?_);first
 | exact lw h
 | exact bd (lw (lw h))
theorem kR {r:Addr}{n:Nat}{t u v:Tok}{Q:bi->bn->Prop}(hr:DQ s.heap r 0 n 1 t u v)(hn:n<=1000000)
  (h:Q (.ref s.heap.objs.size) {s with heap:=s.heap.push {cls:=.type "range_iterator",data:=.fields #[wK ((n:Int) - 1),wK n,wK (-1)]}}):nw (pp prog w) A (call (.type "reversed") [.ref r]) Q E s:=by
 refine callType_other (U := "range_iterator") (Q₁:=λobj s₁=>obj = .ref s.heap.objs.size/\s₁={s with heap:=s.heap.push {cls:=.type "range_iterator",data:=.fields #[wK ((n:Int) - 1),wK n,wK (-1)]}}) (by decide +kernel) F.create_reversed ⟨_,_,F.mro_reversed⟩ F.made_reversed g0 (F.typeCall_reversed_1 _) (kP hr hn ⟨rfl,rfl⟩) ?_;rintro obj s₁ ⟨rfl,rfl⟩;exact⟨⟨_,wa _ rfl,rfl⟩,h⟩
end
def uZ (ta:TA):TI:=λσ H R=>ta σ H λvs H1=>∃n:Nat,vs=[.int n]/\n<=1000000/\R (Itd ((n:Int) - 1) n) H1
theorem lz {X:Cx}{tg:Expr}{a:Expr}{ta:TA}{p p2 pos pos2:Pos}(hg1:Gl X "reversed")(hm1:X.mg "reversed" = none)(hg:Gl X "range")(hm:X.mg "range" = none)(ha:PA X [a] ta)
  (ho:wq [.Call (.Name "range" p2) [a] [] pos2] X.env=[(false,eval (.Call (.Name "range" p2) [a] [] pos2) X.env)]:=by rfl) (hs:wq [a] X.env=[(false,eval a X.env)]:=by rfl) :
  PI X tg (.Call (.Name "reversed" p) [.Call (.Name "range" p2) [a] [] pos2] [] pos) (uZ ta):=by
 intro pins s σ H R I h;refine CB (eF I hg1 hm1 iG (wN ?_ ho rfl));rw[ho];show nw _ _ (DG [(false,eval (.Call (.Name "range" p2) [a] [] pos2) X.env)]) _ _ s;refine yJ ?_;refine CB (eF I hg hm Dx (wN (thn (ha pos2 pins s σ H _ I h) λus s1 ⟨vs,H1,I1,r1,q1⟩=>?_) hs rfl));obtain⟨n,rfl,hn,q⟩:=q1;obtain⟨u,rfl,ru⟩:=k9 r1;obtain⟨t,rfl⟩:=ru;refine call_range_1 (yR ?_);refine kR (BH ..) hn ?_;have it0:AC ((s1.heap.push {cls:=.type "range",data:=.fields #[.int 0 s1.toks,.int n t,.int 1 (s1.toks+1)]}).push {cls:=.type "range_iterator",data:=.fields #[wK ((n:Int) - 1),wK n,wK (-1)]}) (s1.heap.push {cls:=.type "range",data:=.fields #[.int 0 s1.toks,.int n t,.int 1 (s1.toks+1)]}).objs.size (((n:Int) - 1)+((0:Nat):Int)*(-1)) ((n:Int) - ((0:Nat):Int)) (-1):=by
  have e1:((n:Int) - 1)+((0:Nat):Int)*(-1)=(n:Int) - 1:=by simp
  have e2:((n:Int) - ((0:Nat):Int))=n:=by simp
  rw[e1,e2];exact wa _ rfl
 refine Ab it0 ?_;have I2:Inv X pins σ H1 {s1 with heap:=s1.heap.push {cls:=.type "range",data:=.fields #[.int 0 s1.toks,.int n t,.int 1 (s1.toks+1)]},toks:=s1.toks+1+1}:=I1.kept λb o e=>bv _ e;refine⟨_,[(s1.heap.push {cls:=.type "range",data:=.fields #[.int 0 s1.toks,.int n t,.int 1 (s1.toks+1)]}).objs.size],_,_,H1,rfl,I2.kept (t':=s1.toks+1+1) λb o e=>bv _ e,j8 _ ((n:Int) - 1) n,it0,λb hb=>?_,q⟩;have e:b=(s1.heap.push {cls:=.type "range",data:=.fields #[.int 0 s1.toks,.int n t,.int 1 (s1.toks+1)]}).objs.size:=by simpa using hb
 subst e;exact I2.fpOk (ms _) (I2.hok.fresh (ms _))
section
variable {K:ac}{ts:TA}{as:AA}
def vO (as:AA):AI:=λρ q=>as ρ λrs ρ1=>match rs with
 | [.d (.int j)]=>(0<=j/\j<=1000000)/\q (dwnD (j - 1) j.toNat) (λ_=>True) ρ1
 | _=>False
theorem gZ {pin:Nat->Bool}(h:TAok K ts as):TIok K pin (uZ ts) (vO as):=by
 intro F σ ρ H q Rk r ha k;refine h F σ ρ H _ _ r ha λrs ρ1 vs H1 h1 r1 i1 k1=>?_;split at h1
 ·rename_i j;obtain⟨x,rfl,ix⟩:=i1.one;obtain⟨⟨h0,hz⟩,h1⟩:=h1;obtain⟨n,rfl⟩:=yN h0;rw[xE]at h1;exact⟨n,by rw[ix.int],by omega,k _ _ _ _ _ h1 r1 k1 λ_ _ _ _ _ _ _ _=>q0⟩
 ·exact h1.elim
end
end L2
namespace L2
end L2
namespace L2
open PySem PySem.Spec PyProof.Rows
section
variable {X:Cx}{R:VK}{E:XK}{C:Addr}{fn:Option Str}{K:ac}{S:ASp}
theorem oR {k:Nat}{x y:Str}{ps:List Str}{p np cpos pos:Pos}{e:Expr}{es:List Expr}{t:TA}(F:OkX X.prog X.w X.K X.mg X.base k x ps C fn (spA K S))(hr:Room k X.A)(hx:iK (CX1 X.prog X.w) X E)(ha:PA X.nox (e::es) t)(hg:Gl X x:=by rfl)
  (hdb:(x==("__debug__" : Str))=false:=by decide) (he:wq (e::es) X.env=(false,eval e X.env)::wq es X.env:=by rfl) (hpl:(yt cpos (wq es X.env)).any (·.1)=false:=by rfl)
  (hs:zd (.Call (.Name x p) (e::es) [] cpos) (some (.Name y np)) pos.line X.env=pure false:=by rfl) :
  PSr X (XW E C fn) (.Assign [.Name y np] (.Call (.Name x p) (e::es) [] cpos) pos) (tRet (lh (spA K S) [] E0 t)):=by
 obtain⟨f,fd,hm,hk,hb,F⟩:=F.ex;intro pins s σ H D e1 I h;have pe:=lA (p:=p) (sp:=spX C fn (spA K S)) (E:=E) F hr hg hm hk hb .nil hx ha.nox hdb he hpl;have h':lh (spX C fn (spA K S)) [] E t σ H λ_ _=>False:=by
  have h2:t σ H λvs H1=>spA K S (vs++[]) H1 D.rt E0:=h;rw[e1]at h2;exact h2
 exact Bi (thn (pe pins s σ H _ I h') λv s1 ⟨_,_,_,_,q1⟩=>q1.elim) hs
end
end L2
set_option maxHeartbeats 2000000
namespace L2
open PySem PySem.Spec PyProof.Rows
end L2
namespace L2
open PySem
end L2
namespace L2
open PySem PySem.Spec PyProof.Rows
end L2
set_option maxHeartbeats 3200000
namespace L2
open PySem PySem.Spec PyProof.Rows
end L2
set_option maxHeartbeats 1000000
namespace L2
open PySem PySem.Spec PyProof.Rows
end L2
namespace L2
open PySem PySem.Spec PyProof.Rows PySem.W
end L2
namespace L2
open PySem PySem.Spec PyProof.Rows
mutual
def noL:D->Bool
 | .lst _=>false
 | .tup ds=>noLs ds
 | _=>true
def noLs:List D->Bool
 | []=>true
 | d::ds=>noL d&&noLs ds
end
section
variable {K:ac}{H H':Hp}
mutual
theorem RepD.tups (ht:∀a vs,StT H a vs->StT H' a vs):∀ {v:V} {d:D},noL d=true->RepD K H v d->RepD K H' v d
 | v,.non,_,h=>by unfold RepD at h ⊢;exact h
 | v,.bl b,_,h=>by unfold RepD at h ⊢;exact h
 | v,.int i,_,h=>by unfold RepD at h ⊢;exact h
 | v,.str x,_,h=>by unfold RepD at h ⊢;exact h
 | v,.tup ds,z,h=>by
  unfold RepD at h ⊢;obtain⟨a,vs,e,h1,h2⟩:=h;exact⟨a,vs,e,ht _ _ h1,RepDs.tups ht (by unfold noL at z;exact z) h2⟩
 | v,.lst ds,z,h=>by unfold noL at z;cases z
theorem RepDs.tups (ht:∀a vs,StT H a vs->StT H' a vs):∀ {vs:List V} {ds:List D},noLs ds=true->RepDs K H vs ds->RepDs K H' vs ds
 | [],[],_,_=>RepDs.nil
 | v::vs,d::ds,z,h=>by
  unfold RepDs at h ⊢;unfold noLs at z;rw[wC]at z;exact⟨RepD.tups ht z.1 h.1,RepDs.tups ht z.2 h.2⟩
 | [],d::ds,_,h=>by unfold RepDs at h;exact h.elim
 | v::vs,[],_,h=>by unfold RepDs at h;exact h.elim
end
end
def svN:Sv->Bool
 | .un=>true
 | .vl d=>noL d
 | .ow ds=>noLs ds
 | _=>false
def svNs:En->Bool
 | []=>true
 | s::ss=>svN s&&svNs ss
theorem br:∀ {ss:En} (i:Nat),svNs ss=true->svN (gt ss i)=true
 | [],i,_=>rfl
 | s::ss,0,h=>by unfold svNs at h;rw[wC]at h;exact h.1
 | s::ss,i+1,h=>by unfold svNs at h;rw[wC]at h;exact br i h.2
section
variable {K:ac}{F:Fr}{σ:St}{ρ ρ':En}{H H':Hp}{vs:List V}{ss ss':En}{Z Z':Addr->Prop}
theorem SvOk.tups {Hh Hh':Hp}{v:Option (Option V)}{s:Sv}(h:SvOk K Hh H v s)(z:svN s=true)(ht:∀a vs,StT Hh a vs->StT Hh' a vs)(k:∀l o,s.own=true->v=some (some (.ref l))->H l=some o->H' l=some o):SvOk K Hh' H' v s:=by
 cases s with
 | un=>trivial
 | vl d=>obtain⟨x,e,r⟩:=h;exact⟨x,e,r.tups ht z⟩
 | ow ds=>obtain⟨l,vs,e,a,r⟩:=h;exact⟨l,vs,e,k _ _ rfl e a,r.tups ht z⟩
 | tp n=>cases z
 | dk kvs=>cases z
 | dt kvs=>cases z
 | ex C fs=>cases z
 | sc ns=>cases z
 | px d C fs=>cases z
 | xl es=>cases z
 | ob _ _=>cases z
 | ll _=>cases z
 | ds _ _ _=>cases z
end
end L2
namespace L2
open PySem PySem.Spec PyProof.Rows PySem.W
end L2
namespace L2
open PySem PySem.Spec PyProof.Rows
end L2
set_option maxHeartbeats 3200000
namespace L2
open PySem PySem.Spec PyProof.Rows
structure Re (H H2:Hp):Prop where
 no:∀a,H a=none->H2 a=none
 tu:∀b xs,H b=some (.tup xs)->H2 b=some (.tup xs)
 fz:∀b o u,H b=some (.frz o u)->H2 b=some (.frz o u)
 tb:∀b ps,H b=some (.tbl ps)->H2 b=some (.tbl ps)
 ok:∀P w h,HOk P w H h->HOk P w H2 h
theorem Re.refl (H:Hp):Re H H:=⟨λ_ h=>h,λ_ _ h=>h,λ_ _ _ h=>h,λ_ _ h=>h,λ_ _ _ h=>h⟩
def Des (H:Hp):Prop:=∃P w h,HOk P w H h
section
variable {X:Cx}{pins:List (Addr×Obj)}{σ:St}{H H2:Hp}{s:bn}{st:Stmt}{t:TS}
theorem Inv.re (I:Inv X pins σ H s)(r:Re H H2):Inv X pins σ H2 s :=
 ⟨I.ok,I.os,I.bare,⟨I.base.keep,I.base.slot,λb o e n x=>r.no b (I.base.free b o e n x),I.base.there,λb xs e=>r.tu b xs (I.base.tups b xs e),λb o u e=>r.fz b o u (I.base.frzs b o u e),λb ps e=>by
  obtain⟨m,e'⟩:=I.base.tbls b ps e;exact⟨m,r.tb b _ e'⟩⟩,I.loc,I.cell,r.no _ I.free,λx c e=>r.no _ (I.freeC x c e),λp hp=>by
  obtain⟨a,b,c⟩:=I.pin p hp;exact⟨a,r.no _ b,c⟩,r.ok _ _ _ I.hok,I.len⟩
def tRe (t:TS):TS:=λD σ H=>Des H->∃H0,Re H H0/\t {D with nx:=λσ' H'=>Des H'->∃H2,Re H' H2/\D.nx σ' H2} σ H0
theorem gH (h:PS X st t):PS X st (tRe t):=by
 intro pins s σ H D I ht;obtain⟨H0,r,ht⟩:=ht ⟨_,_,_,I.hok⟩;refine wG (h pins s σ H0 _ (I.re r) ht) (λf s' q=>?_) λ_ _ z=>z;cases f with
 | next =>
  obtain⟨σ',H',I',q⟩:=q;obtain⟨H2,r2,q⟩:=q ⟨_,_,_,I'.hok⟩;exact⟨σ',H2,I'.re r2,q⟩
 | brk=>exact q
 | cont=>exact q
 | ret u=>exact q
end
theorem iR:∀bs:List Addr,Vals (bs.map V.ref) (bs.map Value.ref)
 | []=>.nil
 | b::bs=>.cons rfl (iR bs)
theorem fi:∀ {bs:List Addr} {its:List bi},Vals (bs.map V.ref) its->its=bs.map Value.ref
 | [],_,.nil=>rfl
 | b::bs,_,.cons r t=>by rw[fi t];cases r;rfl
def opn (H:Hp)(l:Addr)(bs:List Addr)(vss:List (List V)):Hp:=λa=>if a=l then some (.lst (bs.map V.ref))else if a∈bs then some (.lst (vss.getD (bs.idxOf a) []))else H a
def cls (H:Hp)(l:Addr)(bs:List Addr)(vss:List (List V)):Hp:=λa=>if a=l then some (.big bs (LlP l bs vss))else if a∈bs then some (.own l)else H a
structure LlAt (H:Hp)(l:Addr)(bs:List Addr)(vss:List (List V)):Prop where
 nd:bs.Nodup
 ln:vss.length=bs.length
 ow:∀b∈bs,b≠l/\H b=some (.own l)
section
variable {H H':Hp}{l:Addr}{bs:List Addr}{vss:List (List V)}
theorem jI:opn H l bs vss l=some (.lst (bs.map V.ref)):=by unfold opn;rw[if_pos rfl]
theorem jJ {b:Addr}(ne:b≠l)(hb:b∈bs):opn H l bs vss b=some (.lst (vss.getD (bs.idxOf b) [])):=by unfold opn;rw[if_neg ne,if_pos hb]
theorem dw {a:Addr}(ne:a≠l)(hb:a∉bs):opn H l bs vss a=H a:=by unfold opn;rw[if_neg ne,if_neg hb]
theorem pU:cls H l bs vss l=some (.big bs (LlP l bs vss)):=by unfold cls;rw[if_pos rfl]
theorem lZ {b:Addr}(ne:b≠l)(hb:b∈bs):cls H l bs vss b=some (.own l):=by unfold cls;rw[if_neg ne,if_pos hb]
theorem dY {a:Addr}(ne:a≠l)(hb:a∉bs):cls H l bs vss a=H a:=by unfold cls;rw[if_neg ne,if_neg hb]
theorem LlAt.of (d:Des H)(hl:H l=some (.big bs (LlP l bs vss))):LlAt H l bs vss:=by
 obtain⟨P,w,h,x⟩:=d;obtain⟨ow,p,_⟩:=x l _ hl;exact⟨p.2.1,p.2.2.2.1,ow⟩
theorem rG {b:Addr}(hb:b∈bs):bs[bs.idxOf b]? = some b:=by
 have h:=zr hb;rw[dL h,List.getElem_idxOf h]
theorem oK (hl:H l=some (.big bs (LlP l bs vss)))(A:LlAt H l bs vss):Re H (opn H l bs vss):=by
 have el:∀a o,H a=some o->(∀ps φ,o ≠ .big ps φ)->(∀x,o ≠ .own x)->opn H l bs vss a=some o:=λa o e n1 n2=>by
  have h1:a≠l:=λq=>by subst q;rw[hl]at e;injection e with e;exact n1 _ _ e.symm
  have h2:a∉bs:=λq=>by have:=(A.ow a q).2;rw[e]at this;injection this with this;exact n2 _ this
  rw[dw h1 h2];exact e
 refine⟨λa e=>?_,λb xs e=>el b _ e (λ_ _ z=>(nomatch z)) (λ_ z=>nomatch z),λb o u e=>el b _ e (λ_ _ z=>(nomatch z)) (λ_ z=>nomatch z),λb ps e=>el b _ e (λ_ _ z=>(nomatch z)) (λ_ z=>nomatch z),λP w h x a o e=>?_⟩
 ·have h1:a≠l:=λq=>by subst q;rw[hl]at e;cases e
  have h2:a∉bs:=λq=>by have:=(A.ow a q).2;rw[e]at this;cases this
  rw[dw h1 h2];exact e
 ·obtain⟨ow,p,_⟩:=x l _ hl;obtain⟨z,nd,⟨n,g⟩,ln,items⟩:=p;by_cases h1:a=l
  ·subst h1;rw[jI]at e;injection e with e;subst e;exact⟨by rw[db];exact z,bs.map Value.ref,n,iR bs,g⟩
  by_cases h2:a∈bs
  ·rw[jJ h1 h2]at e;injection e with e;subst e;have hk:=rG h2;have lt:bs.idxOf a<vss.length:=by rw[ln];exact zr h2
   obtain⟨z2,its,n2,r,g2⟩:=items _ a (vss.getD (bs.idxOf a) []) hk (by rw[li,dL lt];rfl);exact⟨z2,its,n2,r,g2⟩
  ·rw[dw h1 h2]at e;refine(x a o e).stay (λ_ _ _ q=>q) (λb q=>?_) λb xs q=>el b _ q (λ_ _ z=>(nomatch z)) λ_ z=>nomatch z;have h3:b≠l:=λz=>by subst z;rw[hl]at q;cases q
   have h4:b∉bs:=λz=>by
    have:=(A.ow b z).2;rw[q]at this;injection this with this;injection this with this;exact h1 this
   rw[dw h3 h4];exact q
theorem oM (hl:H l=some (.lst (bs.map V.ref)))(hb:∀(k:Nat) (b:Addr) (vs:List V),bs[k]? = some b->vss[k]? = some vs->H b=some (.lst vs))(nd:bs.Nodup)(ln:vss.length=bs.length)(nl:l∉bs):Re H (cls H l bs vss):=by
 have lb:∀b∈bs,∃vs,H b=some (.lst vs):=λb h=>by
  have lt:bs.idxOf b<vss.length:=by rw[ln];exact zr h
  exact⟨_,hb _ b _ (rG h) (dL lt)⟩
 have el:∀a o,H a=some o->(∀xs,o ≠ .lst xs)->cls H l bs vss a=some o:=λa o e n1=>by
  have h1:a≠l:=λq=>by subst q;rw[hl]at e;injection e with e;exact n1 _ e.symm
  have h2:a∉bs:=λq=>by
   obtain⟨vs,q⟩:=lb a q;rw[e]at q;injection q with q;exact n1 _ q
  rw[dY h1 h2];exact e
 refine⟨λa e=>?_,λb xs e=>el b _ e (λ_ z=>nomatch z),λb o u e=>el b _ e (λ_ z=>nomatch z),λb ps e=>el b _ e (λ_ z=>nomatch z),λP w h x a o e=>?_⟩
 ·have h1:a≠l:=λq=>by subst q;rw[hl]at e;cases e
  have h2:a∉bs:=λq=>by obtain⟨vs,q⟩:=lb a q;rw[e]at q;cases q
  rw[dY h1 h2];exact e
 ·by_cases h1:a=l
  ·subst h1;rw[pU]at e;injection e with e;subst e;obtain⟨z,its,n,r,g⟩:=x a _ hl;rw[fi r]at g;refine⟨λp hp=>⟨λq=>nl (q▸hp),lZ (λq=>nl (q▸hp)) hp⟩,⟨by rw[db]at z;exact z,nd,⟨n,g⟩,ln,λk b vs q1 q2=>?_⟩,⟨_,g⟩,λh1 h2 p st=>?_⟩
   ·obtain⟨z2,its2,n2,r2,g2⟩:=x b _ (hb k b vs q1 q2);exact⟨z2,its2,n2,r2,g2⟩
   ·obtain⟨p1,p2,⟨n,p3⟩,p4,p5⟩:=p;exact⟨p1,p2,⟨n,st _ _ (.inl rfl) p3⟩,p4,λk b vs q1 q2=>by
     obtain⟨y1,its,n,y2,y3⟩:=p5 k b vs q1 q2;exact⟨y1,its,n,y2,st _ _ (.inr (wr q1)) y3⟩⟩
  by_cases h2:a∈bs
  ·rw[lZ h1 h2]at e;injection e with e;subst e;obtain⟨vs,q⟩:=lb a h2;obtain⟨_,its,n,_,g⟩:=x a _ q;exact⟨_,g⟩
  ·rw[dY h1 h2]at e;exact(x a o e).stay (λ_ _ _ q=>q) (λb q=>el b _ q (λ_ z=>nomatch z)) λb xs q=>el b _ q (λ_ z=>nomatch z)
end
def Fop (F:Fr)(i:Nat)(l:Addr)(bs:List Addr)(vss:List (List V)):Fr :=
 ⟨opn F.H0 l bs vss,λa=>F.Z a/\a≠l/\a∉bs,λa=>F.M a/\a≠l/\a∉bs,F.I,λj a=>F.P j a∨(j=i/\a=l)⟩
def llD (xss:List (List D)):D:=.lst (xss.map D.lst)
def noLL (xss:List (List D)):Bool:=xss.all noLs
def svX (i:Nat)(ρ:En):Bool:=svNs (pt ρ i .un)
section
variable {K:ac}{F:Fr}{σ σ':St}{ρ ρ':En}{H H':Hp}{i:Nat}{l:Addr}{bs:List Addr}{vss:List (List V)}{xss:List (List D)}
theorem oq (h:svX i ρ=true){j:Nat}(ne:i≠j):svN (gt ρ j)=true:=by
 have:=br j h;rwa [bC ρ i j _ ne]at this
theorem r6 (r:Rel K F σ ρ H){j:Nat}{a:Addr}(hn:svN (gt ρ j)=true)(ho:(gt ρ j).own=true)(e:σ[j]? = some (some (.ref a))):∃vs,H a=some (.lst vs):=by
 have s:=r.sl j;cases g:gt ρ j with
 | ow ds =>
  rw[g,e]at s;obtain⟨l,vs,e2,h,_⟩:=s;injection e2 with e2;injection e2 with e2;injection e2 with e2;exact⟨vs,e2▸h⟩
 | _=>rw[g]at hn ho;simp[svN,Sv.own]at hn ho
theorem iZ {Hh:Hp}:∀ {bs:List Addr} {vss:List (List V)} {xss:List (List D)},bs.length=xss.length->(∀(k:Nat) (b:Addr) (ds:List D),bs[k]? = some b->xss[k]? = some ds->∃vs,Hh b=some (.lst vs)/\RepDs K Hh vs ds)->RepDs K Hh (bs.map V.ref) (xss.map D.lst)
 | [],_,[],_,_=>RepDs.nil
 | b::bs,_,ds::xss,h,f=>by
  refine RepDs.cons ?_ (iZ (vss:=[]) (by simpa using h) λk b' ds' h1 h2=>f (k+1) b' ds' (by simpa using h1) (by simpa using h2));obtain⟨vs,h1,h2⟩:=f 0 b ds rfl rfl;unfold RepD;exact⟨b,vs,rfl,h1,h2⟩
 | [],_,_::_,h,_=>by simp at h
 | _::_,_,[],h,_=>by simp at h
theorem Rel.opn (r:Rel K F σ ρ H)(hi:gt ρ i = .ll xss)(ei:σ[i]? = some (some (.ref l)))(hl:H l=some (.big bs (LlP l bs vss)))(A:LlAt H l bs vss)(rep:qf K (hid H (hs F σ ρ)) vss xss)(hn:svX i ρ=true)(hx:noLL xss=true) :
  Rel K (Fop F i l bs vss) σ (pt ρ i (.vl (llD xss))) (L2.opn H l bs vss):=by
 have oi:(gt ρ i).own=true:=by rw[hi];rfl
 have lt:=h8 oi;have own':∀j,(gt (pt ρ i (.vl (llD xss))) j).own=true->i≠j/\(gt ρ j).own=true:=λj h=>cU rfl h;have far:∀j a,(gt (pt ρ i (.vl (llD xss))) j).own=true->σ[j]? = some (some (.ref a))->a≠l/\a∉bs:=λj a h e=>by
  obtain⟨ij,hj⟩:=own' j h;refine⟨λq=>ij (r.nd i j l oi hj ei (q▸e)),λq=>?_⟩;obtain⟨vs,h1⟩:=r6 r (oq hn ij) hj e;rw[(A.ow a q).2]at h1;cases h1
 have vis:∀a o,hid H (hs F σ ρ) a=some o->a≠l->a∉bs->hid (L2.opn H l bs vss) (hs (Fop F i l bs vss) σ (pt ρ i (.vl (llD xss)))) a=some o:=λa o e h1 h2=>by
  obtain⟨n,e⟩:=bX.mp e;refine dh (λz=>n ?_) (by rw[dw h1 h2];exact e);rcases z with z | ⟨j,hj,ej⟩
  ·exact .inl z.1
  ·exact .inr ⟨j,(own' j hj).2,ej⟩
 have vt:∀a vs,StT (hid H (hs F σ ρ)) a vs->StT (hid (L2.opn H l bs vss) (hs (Fop F i l bs vss) σ (pt ρ i (.vl (llD xss))))) a vs:=λa vs e=>by
  have e2:=(bX.mp e).2;exact vis a _ e (λq=>by rw[q,hl]at e2;cases e2) λq=>by rw[(A.ow a q).2]at e2;cases e2
 have nl:∀a,a=l∨a∈bs->¬hs (Fop F i l bs vss) σ (pt ρ i (.vl (llD xss))) a:=λa h z=>by
  rcases z with z | ⟨j,hj,ej⟩
  ·exact h.elim z.2.1 z.2.2
  ·have:=far j a hj ej;exact h.elim this.1 this.2
 refine⟨by rw[dW];exact r.len,λa o e n=>?_,λa z=>?_,λa ⟨j,hj,ej⟩ z=>?_,λj a hj e=>?_,λj a h=>?_,λa z=>?_,λa z=>?_,λj k a hj hk ej ek=>r.nd j k a (own' j hj).2 (own' k hk).2 ej ek,λj=>?_⟩
 ·by_cases h1:a=l
  ·subst h1;have e:L2.opn F.H0 a bs vss a=some o:=e;rw[jI]at e ⊢;exact e
  by_cases h2:a∈bs
  ·have e:L2.opn F.H0 l bs vss a=some o:=e;rw[jJ h1 h2]at e ⊢;exact e
  ·have e:L2.opn F.H0 l bs vss a=some o:=e;rw[dw h1 h2]at e ⊢;exact r.fr a o e λm=>n ⟨m,h1,h2⟩
 ·unfold Nt;rw[dw z.2.1 z.2.2];exact r.zl a z.1
 ·exact r.zo a ⟨j,(own' j hj).2,ej⟩ z.1
 ·have f:=far j a hj e;rcases r.ow j a (own' j hj).2 e with⟨h1,h2⟩ | h
  ·exact .inl ⟨h1,h2,f⟩
  ·exact .inr (by show L2.opn F.H0 l bs vss a=none;rw[dw f.1 f.2];exact h)
 ·rcases h with h | h | ⟨rfl,rfl⟩
  ·exact r.mi j a (.inl h)
  ·exact r.mi j a (.inr h)
  ·exact ei
 ·show L2.opn F.H0 l bs vss a≠none;rw[dw z.2.1 z.2.2];exact r.ml a z.1
 ·rw[dw z.2.1 z.2.2];exact r.ma a z.1
 ·by_cases ij:i=j
  ·subst ij;rw[ir ρ i _ lt,ei];refine⟨_,rfl,?_⟩;unfold llD RepD;refine⟨l,bs.map V.ref,rfl,dh (nl l (.inl rfl)) jI,iZ (vss:=vss) (by rw[<- A.ln,rep.1]) λk b ds h1 h2=>?_⟩;have hb:=wr h1;have lk:k<vss.length:=by rw[A.ln];exact(lm.mp h1).1
   have ek:bs.idxOf b=k:=by
    obtain⟨h,e⟩:=lm.mp h1;rw[<- e];exact xG A.nd k h
   refine⟨vss.getD k [],dh (nl b (.inr hb)) (by rw[jJ (A.ow b hb).1 hb,ek]),?_⟩;have hr:=rep.2 k (vss.getD k []) ds (by rw[li,dL lk];rfl) h2;exact hr.tups vt (zQ.mp hx ds (wr h2))
  ·rw[bC ρ i j _ ij];refine(r.sl j).tups (oq hn ij) vt λa o ho e h=>?_;have f:=far j a (by rw[bC ρ i j _ ij];exact ho) e;rw[dw f.1 f.2];exact h
theorem Rel.cls (r:Rel K F σ ρ H)(hi:gt ρ i = .ll xss)(ei:σ[i]? = some (some (.ref l)))(hl:H l=some (.big bs (LlP l bs vss)))(A:LlAt H l bs vss)(hx:noLL xss=true)
  (r1:Rel K (Fop F i l bs vss) σ' ρ' H') (hi':gt ρ' i = .vl (llD xss)) (hn:svX i ρ'=true) (hil:i<ρ'.length):Re H' (L2.cls H' l bs vss)/\Rel K F σ' (pt ρ' i (.ll xss)) (L2.cls H' l bs vss):=by
 have oi:(gt ρ i).own=true:=by rw[hi];rfl
 have ei':σ'[i]? = some (some (.ref l)):=r1.mi i l (.inr (.inr ⟨rfl,rfl⟩));have nlb:l∉bs:=λq=>(A.ow l q).1 rfl;have hl':H' l=some (.lst (bs.map V.ref)):=r1.fr l _ (by show L2.opn F.H0 l bs vss l=_;exact jI) λz=>z.2.1 rfl;have hb':∀b∈bs,H' b=some (.lst (vss.getD (bs.idxOf b) [])):=λb hb=>r1.fr b _ (by show L2.opn F.H0 l bs vss b=_;exact jJ (A.ow b hb).1 hb) λz=>z.2.2 hb;have ek:∀ {k:Nat} {b:Addr},bs[k]? = some b->bs.idxOf b=k:=λ{k b} h1=>by
  obtain⟨h,e⟩:=lm.mp h1;rw[<- e];exact xG A.nd k h
 have own':∀j,(gt (pt ρ' i (.ll xss)) j).own=true->i≠j->(gt ρ' j).own=true:=λj h ij=>by rwa [bC ρ' i j _ ij]at h
 have far:∀j a,(gt ρ' j).own=true->σ'[j]? = some (some (.ref a))->a≠l/\a∉bs:=λj a h e=>by
  rcases r1.ow j a h e with⟨_,h2⟩ | h
  ·exact h2.2
  ·have h:L2.opn F.H0 l bs vss a=none:=h;refine⟨λq=>?_,λq=>?_⟩
   ·rw[q,jI]at h;cases h
   ·rw[jJ (A.ow a q).1 q]at h;cases h
 have vt:∀a vs,StT (hid H' (hs (Fop F i l bs vss) σ' ρ')) a vs->StT (hid (L2.cls H' l bs vss) (hs F σ' (pt ρ' i (.ll xss)))) a vs:=λa vs e=>by
  obtain⟨n,e⟩:=bX.mp e;have h1:a≠l:=λq=>by rw[q,hl']at e;cases e
  have h2:a∉bs:=λq=>by rw[hb' a q]at e;cases e
  refine dh (λz=>n ?_) (by rw[dY h1 h2];exact e);rcases z with z | ⟨j,hj,ej⟩
  ·exact .inl ⟨z,h1,h2⟩
  ·by_cases ij:i=j
   ·subst ij;rw[ei']at ej;injection ej with ej;injection ej with ej;injection ej with ej;exact absurd ej.symm h1
   ·exact .inr ⟨j,own' j hj ij,ej⟩
 refine⟨oM hl' (λk b vs h1 h2=>?_) A.nd A.ln nlb,?_⟩
 ·rw[hb' b (wr h1),ek h1,li,h2];rfl
 refine⟨by rw[dW];exact r1.len,λa o e n=>?_,λa z=>?_,λa ⟨j,hj,ej⟩ z=>?_,λj a hj e=>?_,λj a h=>r1.mi j a (h.imp id .inl),r.ml,λa z=>?_,λj k a hj hk ej ek'=>?_,λj=>?_⟩
 ·by_cases h1:a=l
  ·subst h1;rcases r.ow i a oi ei with⟨_,h⟩ | h
   ·exact absurd h n
   ·rw[h]at e;cases e
  by_cases h2:a∈bs
  ·have:=r.fr a o e n;rw[(A.ow a h2).2]at this;rw[lZ h1 h2];exact this
  ·rw[dY h1 h2];exact r1.fr a o (by show L2.opn F.H0 l bs vss a=some o;rw[dw h1 h2];exact e) λz=>n z.1
 ·by_cases h1:a=l
  ·subst h1;exact absurd z (r.zo a ⟨i,oi,ei⟩)
  by_cases h2:a∈bs
  ·unfold Nt;rw[lZ h1 h2];exact⟨(λz=>nomatch z),λxs z=>nomatch z⟩
  ·unfold Nt;rw[dY h1 h2];exact r1.zl a ⟨z,h1,h2⟩
 ·by_cases ij:i=j
  ·subst ij;rw[ei']at ej;injection ej with ej;injection ej with ej;injection ej with ej;subst ej;exact r.zo l ⟨i,oi,ei⟩ z
  ·have f:=far j a (own' j hj ij) ej;exact r1.zo a ⟨j,own' j hj ij,ej⟩ ⟨z,f⟩
 ·by_cases ij:i=j
  ·subst ij;rw[ei']at e;injection e with e;injection e with e;injection e with e;subst e;exact r.ow i l oi ei
  ·have f:=far j a (own' j hj ij) e;rcases r1.ow j a (own' j hj ij) e with⟨h1,h2⟩ | h
   ·exact .inl ⟨h1,h2.1⟩
   ·have h:L2.opn F.H0 l bs vss a=none:=h;rw[dw f.1 f.2]at h;exact .inr h
 ·by_cases h1:a=l
  ·subst h1;rw[pU];exact λz=>nomatch z
  by_cases h2:a∈bs
  ·rw[lZ h1 h2];exact λz=>nomatch z
  ·rw[dY h1 h2];exact r1.ma a ⟨z,h1,h2⟩
 ·by_cases ij:i=j
  ·by_cases ik:i=k
   ·omega
   ·exfalso;subst ij;rw[ei']at ej;injection ej with ej;injection ej with ej;injection ej with ej;exact(far k a (own' k hk ik) ek').1 ej.symm
  ·by_cases ik:i=k
   ·exfalso;subst ik;rw[ei']at ek';injection ek' with ek';injection ek' with ek';injection ek' with ek';exact(far j a (own' j hj ij) ej).1 ek'.symm
   ·exact r1.nd j k a (own' j hj ij) (own' k hk ik) ej ek'
 ·by_cases ij:i=j
  ·subst ij;rw[ir ρ' i _ hil,ei'];have s:=r1.sl i;rw[hi',ei']at s;obtain⟨x,ex,rd⟩:=s;injection ex with ex;injection ex with ex;subst ex;unfold llD RepD at rd;obtain⟨a,vs,ea,hv,rds⟩:=rd;injection ea with ea;subst ea;have hv2:=(bX.mp hv).2;rw[hl']at hv2;injection hv2 with hv2;injection hv2 with hv2;subst hv2;have hlen:=rds.length;rw[db,db]at hlen;refine⟨l,bs,vss,rfl,pU,by rw[A.ln,hlen],λk vs ds h1 h2=>?_⟩;have lk:k<bs.length:=by rw[<- A.ln];exact(lm.mp h1).1
   obtain⟨v,hv3,rk⟩:=rds.get (i:=k) (d:=.lst ds) (by rw[sB,h2];rfl);rw[sB,dL lk]at hv3;injection hv3 with hv3;subst hv3;unfold RepD at rk;obtain⟨b,us,eb,hu,rk⟩:=rk;injection eb with eb;subst eb;have hu2:=(bX.mp hu).2;rw[hb' _ (yx lk),ek (dL lk),li,h1]at hu2;injection hu2 with hu2;injection hu2 with hu2;have hu3:vs=us:=hu2;subst hu3;exact rk.tups vt (zQ.mp hx ds (wr h2))
  ·rw[bC ρ' i j _ ij];refine(r1.sl j).tups (oq hn ij) vt λa o ho e h=>?_;have f:=far j a ho e;rw[dY f.1 f.2];exact h
end
def vR (i:Nat)(A:AS):AS:=λe ρ=>∃xss,gt ρ i = .ll xss/\svX i ρ=true/\noLL xss=true /\
 A {nx:=λρ'=>gt ρ' i = .vl (llD xss)/\svX i ρ'=true/\e.nx (pt ρ' i (.ll xss)),bk:=λ_=>False,ct:=λ_=>False,rt:=λ_ _=>False} (pt ρ i (.vl (llD xss)))
section
variable {K:ac}{pr:Nat->Bool}{t:TS}{A:AS}
theorem gP {i:Nat}(h:TSok K (λj=>pr j||j==i) t A):TSok K pr (tRe t) (vR i A):=by
 intro F σ ρ H D e hp r ⟨xss,hi,hn,hx,ha⟩ ok d;have s:=r.sl i;rw[hi]at s;obtain⟨l,bs,vss,ei,hl,rep⟩:=s;have A1:=LlAt.of d hl;refine⟨L2.opn H l bs vss,oK hl A1,?_⟩;refine h (Fop F i l bs vss) σ _ _ _ _ (λj a z=>?_) (r.opn hi ei hl A1 rep hn hx) ha ⟨λσ' ρ' H' ⟨h1,h2,h3⟩ r1 d'=>?_,λ_ _ _ z=>z.elim,λ_ _ _ z=>z.elim,λ_ _ _ _ _ z=>z.elim⟩
 ·rcases z with z | z | ⟨rfl,_⟩
  ·have:=hp j a (.inl z);simp[this]
  ·have:=hp j a (.inr z);simp[this]
  ·simp
 ·have lt:i<ρ'.length:=by
   rcases wu i ρ'.length with q | q
   ·exact q
   ·rw[gA ρ' i q]at h1;cases h1
  obtain⟨c1,c2⟩:=r.cls hi ei hl A1 hx r1 h1 h2 lt;exact⟨_,c1,ok.nx _ _ _ h3 c2⟩
end
def vS (i j k:Nat):AS:=λe ρ=>∃(xss:List (List D)) (n:Nat) (d:D),gt ρ i = .ll xss/\gt ρ j = .vl (.int (n:Nat))/\gt ρ k = .vl d/\n<xss.length/\(xss.getD n []).length<=1000000/\e.nx (pt ρ i (.ll (xss.set n (xss.getD n []++[d]))))
section
variable {K:ac}{pr:Nat->Bool}
theorem da {i j k:Nat}:TSok K pr (tRe (rZ (tBM K "list" rAppend (tOp (rIx K) (tVar i) (tVar j)) (j_ (tVar k) tNil)))) (vS i j k):=by
 intro F σ ρ H D e hp r ⟨xss,n,d,hi,hj,hk,hn,hle,hnx⟩ ok des;have s:=r.sl i;rw[hi]at s;obtain⟨l,bs,vss,ei,hl,rep⟩:=s;have A:=LlAt.of des hl;have sj:=r.sl j;rw[hj]at sj;obtain⟨xj,ej,rj⟩:=sj;unfold RepD at rj;subst rj;have sk:=r.sl k;rw[hk]at sk;obtain⟨v,ek,rk⟩:=sk;have hnb:n<bs.length:=by rw[<- A.ln,rep.1];exact hn
 have hnv:n<vss.length:=by rw[A.ln];exact hnb
 have hbm:bs[n]∈bs:=yx hnb;have hb0:opn H l bs vss bs[n]=some (.lst (vss.getD n [])):=by
  rw[jJ (A.ow _ hbm).1 hbm,xG A.nd n hnb]
 have ev:vss[n]? = some (vss.getD n []):=by rw[li,dL hnv];rfl
 have ex:xss[n]? = some (xss.getD n []):=by rw[li,dL hn];rfl
 have rn:=rep.2 n _ _ ev ex;refine⟨opn H l bs vss,oK hl A,?_⟩;refine⟨_,ei,_,ej,.inl ⟨l,bs.map V.ref,n,.ref bs[n],rfl,rfl,SqL.of jI,gq (by rw[sB,dL hnb];rfl),?_⟩⟩;refine⟨.inl ⟨rfl,_,SqL.of hb0⟩,v,ek,bs[n],vss.getD n [],v,rfl,rfl,hb0,g6 (by rw[rn.length];exact hle),λ_=>?_⟩;have nlb:l∉bs:=λq=>(A.ow l q).1 rfl;refine⟨cls (upd (opn H l bs vss) bs[n] (.lst (vss.getD n []++[v]))) l bs (vss.set n (vss.getD n []++[v])),oM ?_ (λm b us h1 h2=>?_) A.nd (by rw[xF];exact A.ln) nlb,?_⟩
 ·rw[aI (xc (A.ow _ hbm).1)];exact jI
 ·obtain⟨hm,rfl⟩:=lm.mp h1;have hmm:bs[m]∈bs:=yx hm;by_cases q:m=n
  ·subst q;rw[wO hnv]at h2;injection h2 with h2;rw[aX,h2]
  ·have ne:bs[m]≠bs[n]:=λz=>q (by
    have a:=xG A.nd m hm;have b:=xG A.nd n hnb;rw[z]at a;omega)
   rw[pc (xc q)]at h2;rw[aI ne,jJ (A.ow _ hmm).1 hmm,xG A.nd m hm,li,h2];rfl
 ·have eH:cls (upd (opn H l bs vss) bs[n] (.lst (vss.getD n []++[v]))) l bs (vss.set n (vss.getD n []++[v]))=upd H l (.big bs (LlP l bs (vss.set n (vss.getD n []++[v])))):=by
   funext a;by_cases h1:a=l
   ·subst h1;rw[pU,aX]
   rw[aI h1];by_cases h2:a∈bs
   ·rw[lZ h1 h2];exact(A.ow a h2).2.symm
   ·rw[dY h1 h2,aI (λq=>h2 (by rw[q];exact hbm)),dw h1 h2]
  rw[eH];refine ok.nx _ _ _ hnx (r.write (s:=.ll (xss.set n (xss.getD n []++[d]))) (by rw[hi];rfl) ei rfl ⟨l,bs,vss.set n (vss.getD n []++[v]),rfl,aX,by rw[xF,xF];exact rep.1,λm us ds h1 h2=>?_⟩).1;by_cases q:m=n
  ·subst q;rw[wO hnv]at h1;rw[wO hn]at h2;injection h1 with h1;injection h2 with h2;subst h1;subst h2;exact rn.append (RepDs.one rk)
  ·rw[pc (xc q)]at h1 h2;exact rep.2 m us ds h1 h2
end
def vj (i:Nat)(ai:AI):AS:=λe ρ=>ai ρ λds c ρ1=>ds.length<=1000000/\(∀ ρ,c ρ)/\e.nx (pt ρ1 i (.ll (ds.map λ_=>[])))
section
variable {K:ac}{pr:Nat->Bool}
theorem oC {i:Nat}{wi:TI}{ai:AI}(hi:TIok K (λ_=>true) wi ai)(hp:pr i=false):TSok K pr (tRe (λD σ H=>ka 1 [] wi (pK 0) tAll (tLst tNil) σ H λv H'=>D.nx (σ.set i (some v)) H')) (vj i ai):=by
 intro F σ ρ H D e hpin r ha ok des;refine⟨H,.refl H,?_⟩;refine hi F σ ρ H _ _ r ha λds c ρ1 J H1 ⟨hz,hc,hnx⟩ r1 k1 wk=>?_;refine⟨λk m ys H'=>∃bs:List Addr,ys=bs.map V.ref/\bs.Nodup/\bs.length=k/\k<=ds.length/\m=ds.length - k/\Same H1 H'/\∀b∈bs,H1 b=none/\H' b=some (.lst []),⟨ds.length,[],rfl,List.nodup_nil,rfl,wp _,rfl,Same.refl H1,λb h=>(by cases h)⟩,?_⟩;rintro k m ys H' ⟨bs,rfl,nd,hk,hkl,rfl,sm,hb⟩;have rg:=r1.grow sm;have w:=wk σ ρ1 H' (bB λa o e n=>⟨sm a o e,n⟩) rg.sl (λ_ _ _ e=>e) (λa z=>qI rg z) (hc ρ1);rcases wu k ds.length with lt | ge
 ·right;obtain⟨go,yld⟩:=(w k).1 ds[k] (dL lt);refine⟨go,g6 (by rw[db];omega),λzs H2=>∃bs:List Addr,zs=bs.map V.ref/\bs.Nodup/\bs.length=k+1/\Same H1 H2/\∀b∈bs,H1 b=none/\H2 b=some (.lst []),λzs H2 ⟨bs,a1,a2,a3,a4,a5⟩=>⟨ds.length - (k+1),by omega,bs,a1,a2,a3,lt,rfl,a4,a5⟩,λx H2 hy=>?_⟩;obtain⟨sm2,_⟩:=yld x H2 hy;refine⟨rfl,?_⟩;unfold tAll;dsimp only;rw[if_pos rfl];refine⟨wp _,λp hp=>?_⟩;have nb:p∉bs:=λq=>by
   have:=sm2 p _ (hb p q).2;rw[hp]at this;cases this
  have h1p:H1 p=none:=by
   cases q:H1 p with
   | none=>rfl
   | some o=>have:=sm2 p o (sm p o q);rw[hp]at this;cases this
  refine⟨bs++[p],by rw[wJ];rfl,?_,by rw[wb,wH,hk],λa o q=>?_,λb hb'=>?_⟩
  ·exact List.nodup_append.mpr ⟨nd,by simp,λa ha b hb e=>nb (by rw[w9.mp hb]at e;exact e▸ha)⟩
  ·rw[aI (bg q h1p)];exact sm2 a o (sm a o q)
  ·rcases xM.mp hb' with q | q
   ·have bp:b≠p:=λz=>nb (z▸q);rw[aI bp];exact⟨(hb b q).1,sm2 b _ (hb b q).2⟩
   ·rw[w9.mp q,aX];exact⟨h1p,rfl⟩
 ·left;obtain rfl:k=ds.length:=by omega
  refine⟨(w _).2 (ms _),wT (g6 (by show(bs.map V.ref).length<=1000000;rw[db];omega)),λl hl des'=>?_⟩;have lb:l∉bs:=λq=>by rw[(hb l q).2]at hl;cases hl
  have nbl:∀b∈bs,b≠l:=λb q z=>lb (z▸q);refine⟨cls (upd H' l (.lst (bs.map V.ref))) l bs (ds.map λ_=>[]),oM aX (λk b vs h1 h2=>?_) nd (by rw[db,hk]) lb,?_⟩
  ·have hm:=wr h1;rw[sB]at h2;obtain⟨_,_,rfl⟩:=wt.mp h2;rw[aI (nbl b hm)];exact(hb b hm).2
  ·have H1':Rel K F σ ρ1 (λa=>if a∈bs then some (.own l)else H' a):=r1.grow λa o q=>by
    have:a∉bs:=λz=>by rw[(hb a z).1]at q;cases q
    show(if a∈bs then _ else H' a)=_;rw[if_neg this];exact sm a o q
   have hln:(λa=>if a∈bs then some (HO.own l)else H' a) l=none:=by
    show(if l∈bs then _ else H' l)=none;rw[if_neg lb];exact hl
   have eH:cls (upd H' l (.lst (bs.map V.ref))) l bs (ds.map λ_=>[])=upd (λa=>if a∈bs then some (HO.own l)else H' a) l (.big bs (LlP l bs (ds.map λ_=>[]))):=by
    funext a;by_cases h1:a=l
    ·subst h1;rw[pU,aX]
    rw[aI h1];by_cases h2:a∈bs
    ·rw[lZ h1 h2,if_pos h2]
    ·rw[dY h1 h2,aI h1,if_neg h2]
   rw[eH];refine ok.nx _ _ _ hnx (H1'.setF (s:=.ll (ds.map λ_=>[])) rfl ⟨l,bs,ds.map λ_=>[],rfl,aX,by rw[db,db],λk vs es h1 h2=>?_⟩ hln (ph hpin hp));rw[sB]at h1 h2;obtain⟨_,_,rfl⟩:=wt.mp h1;obtain⟨_,_,rfl⟩:=wt.mp h2;exact RepDs.nil
end
def vn (i:Nat):AS:=λe ρ=>∃xss,gt ρ i = .ll xss/\e.rt (.n (.ll xss)) (pt ρ i .un)
theorem oE {K:ac}{pr:Nat->Bool}{i:Nat}(hp:pr i=false):TSok K pr (tRet (tVar i)) (vn i):=by
 intro F σ ρ H D e hpin r ⟨xss,hi,hr⟩ ok;obtain⟨l,o,hl,el,r',sv⟩:=r.take (i:=i) (by rw[hi];rfl) (ph hpin hp);refine⟨_,el,ok.rt _ _ _ _ _ hr ⟨del H l,l,o,r',rfl,?_,gV,(eP hl).symm,rfl⟩⟩;rw[eP hl,<- hi];exact sv
def EE (E:XK):XK:=λv c H'=>Des H'->∃H2,Re H' H2/\E v c H2
theorem Hot.re {od:Option Addr}{h0 h:Heap}{H H2:Hp}{e C:Addr}(q:Hot od h0 h H e C)(r:Re H H2):Hot od h0 h H2 e C:=by
 obtain⟨oe,vs,hv,a1,a2,a3,a4,a5,a6,a7,a8⟩:=q;refine⟨oe,vs,hv,a1,a2,a3,a4,a5,a6,r.no _ a7,?_⟩;rcases a8 with z | ⟨T,oT,ts,b1,b2,b3,b4,b5,b6,b7⟩
 ·exact .inl z
 ·exact .inr ⟨T,oT,ts,b1,b2,b3,b4,b5,b6,r.no _ b7⟩
section
variable {P:v3}{w:wz}{K:ac}{mg:Str->Option bi}{base:Heap}{N:List Str}{qual:Str}{scope:xx}{f:Addr}{cd:bi}{A:wy}{outer:List Env}{s0:bn}{H0:Hp}{E:XK}
theorem rD:iK (CX1 P w) (cxOf (CX1 P w) P w K mg base N qual scope f cd A outer s0 H0 E).inFor (EE E):=by
 rintro pins σ H s e s' I ⟨a,C,od,H',rfl,os,bare,un,hok,hot,hy,he⟩;have I':=I.unwish;obtain⟨H2,r,he⟩:=he ⟨_,_,_,hok⟩;exact rF ((I'.call' os un hok bare λb z=>nomatch z).re r) ((hot.older λb q=>I'.back0 rfl q).re r) (λdx q=>I'.back0 rfl (hy dx q)) he
end
def tReR (E:XK)(C:Addr)(fn:Option Str)(t:TS):TS:=λD σ H=>D.rt=XW E C fn->Des H->∃H0,Re H H0/\t {nx:=λ_ _=>False,rt:=XW (EE E) C fn,bk:=λ_ _=>False,ct:=λ_ _=>False} σ H0
theorem mx {X:Cx}{E:XK}{C:Addr}{fn:Option Str}{st:Stmt}{t:TS}(h:PSr X (XW (EE E) C fn) st t):PSr X (XW E C fn) st (tReR E C fn t):=by
 intro pins s σ H D e I ht;obtain⟨H0,r,ht⟩:=ht e ⟨_,_,_,I.hok⟩;refine wG (h pins s σ H0 _ rfl (I.re r) ht) (λf s' q=>?_) λ_ _ z=>z;cases f with
 | next=>obtain⟨_,_,_,q⟩:=q;exact q.elim
 | brk=>exact q
 | cont=>exact q
 | ret u=>exact q
def vo (i:Nat)(A:AS):AS:=λe ρ=>∃xss,gt ρ i = .ll xss/\svX i ρ=true/\noLL xss=true /\
 A {nx:=λ_=>False,bk:=λ_=>False,ct:=λ_=>False,rt:=λr ρ'=>gt ρ' i = .vl (llD xss)/\svX i ρ'=true/\(∃d,r = .d d/\noL d=true)/\e.rt r (pt ρ' i (.ll xss))} (pt ρ i (.vl (llD xss)))
section
variable {K:ac}{F:Fr}{σ σ':St}{ρ ρ':En}{H H':Hp}{i:Nat}{l:Addr}{bs:List Addr}{vss:List (List V)}{xss:List (List D)}
theorem Rel.clsD (r:Rel K F σ ρ H)(hi:gt ρ i = .ll xss)(ei:σ[i]? = some (some (.ref l)))(A:LlAt H l bs vss)
  (r1:Rel K (Fop F i l bs vss) σ' ρ' H') (hi':gt ρ' i = .vl (llD xss)) {v:V} {d:D} (hd:noL d=true) (rd:RepD K (hid H' (hs (Fop F i l bs vss) σ' ρ')) v d):RepD K (hid (L2.cls H' l bs vss) (hs F σ' (pt ρ' i (.ll xss)))) v d:=by
 have ei':σ'[i]? = some (some (.ref l)):=r1.mi i l (.inr (.inr ⟨rfl,rfl⟩));have hl':H' l=some (.lst (bs.map V.ref)):=r1.fr l _ (by show L2.opn F.H0 l bs vss l=_;exact jI) λz=>z.2.1 rfl;have hb':∀b∈bs,H' b=some (.lst (vss.getD (bs.idxOf b) [])):=λb hb=>r1.fr b _ (by show L2.opn F.H0 l bs vss b=_;exact jJ (A.ow b hb).1 hb) λz=>z.2.2 hb;refine rd.tups (λa vs e=>?_) hd;obtain⟨n,e⟩:=bX.mp e;have h1:a≠l:=λq=>by rw[q,hl']at e;cases e
 have h2:a∉bs:=λq=>by rw[hb' a q]at e;cases e
 refine dh (λz=>n ?_) (by rw[dY h1 h2];exact e);rcases z with z | ⟨j,hj,ej⟩
 ·exact .inl ⟨z,h1,h2⟩
 ·by_cases ij:i=j
  ·subst ij;rw[ei']at ej;injection ej with ej;injection ej with ej;injection ej with ej;exact absurd ej.symm h1
  ·exact .inr ⟨j,by rwa [bC ρ' i j _ ij]at hj,ej⟩
end
section
variable {K:ac}{pr:Nat->Bool}{t:TS}{A:AS}{E:XK}{C:Addr}{fn:Option Str}
theorem fF {i:Nat}(h:TSok K (λj=>pr j||j==i) t A):TSok K pr (tReR E C fn t) (vo i A):=by
 intro F σ ρ H D e hp r ⟨xss,hi,hn,hx,ha⟩ ok eD d;have s:=r.sl i;rw[hi]at s;obtain⟨l,bs,vss,ei,hl,rep⟩:=s;have A1:=LlAt.of d hl;refine⟨L2.opn H l bs vss,oK hl A1,?_⟩;refine h (Fop F i l bs vss) σ _ _ _ _ (λj a z=>?_) (r.opn hi ei hl A1 rep hn hx) ha ⟨λ_ _ _ z=>z.elim,λ_ _ _ z=>z.elim,λ_ _ _ z=>z.elim,λσ' ρ' r2 v H' ⟨h1,h2,⟨d2,e2,hd2⟩,h3⟩ r1=>?_⟩
 ·rcases z with z | z | ⟨rfl,_⟩
  ·have:=hp j a (.inl z);simp[this]
  ·have:=hp j a (.inr z);simp[this]
  ·simp
 ·subst e2;obtain⟨r1,rd⟩:=r1;have lt:i<ρ'.length:=by
   rcases wu i ρ'.length with q | q
   ·exact q
   ·rw[gA ρ' i q]at h1;cases h1
  obtain⟨c1,c2⟩:=r.cls hi ei hl A1 hx r1 h1 h2 lt;have c3:=r.clsD hi ei A1 r1 h1 hd2 rd;have w:=ok.rt _ _ _ v _ h3 ⟨c2,c3⟩;intro od hf _;refine⟨_,c1,?_⟩;rw[eD]at w;refine w od ?_;cases fn with
  | none=>exact hf
  | some f =>
   obtain⟨dx,e1,e2⟩:=hf;refine⟨dx,e1,?_⟩;have hl':H' l=some (.lst (bs.map V.ref)):=r1.fr l _ (by show L2.opn F.H0 l bs vss l=_;exact jI) λz=>z.2.1 rfl;have hb':∀b∈bs,H' b=some (.lst (vss.getD (bs.idxOf b) [])):=λb hb=>r1.fr b _ (by show L2.opn F.H0 l bs vss b=_;exact jJ (A1.ow b hb).1 hb) λz=>z.2.2 hb;rw[dY (λq=>by rw[q,hl']at e2;cases e2) λq=>by rw[hb' dx q]at e2;cases e2];exact e2
end
def FlyF (fl:bi)(od:Option Addr)(h:Heap)(e C T:Addr):Prop :=
 ∃oe vs oT ts,h.get? e=some oe/\oe.cls = .ref C/\oe.dict=od/\oe.data = .fields vs/\vs[1]? = some (.ref T)/\T≠e/\h.get? T=some oT/\oT.data = .fields ts/\ts[3]? = some fl
section
variable {M:Bp}{A:wy}{E:bi->bn->Prop}{s:bn}{base:Heap}{env:Env}{outer:List Env}{L e C:Addr}{oe:Obj}{vs:Array bi}{od:Option Addr}
theorem kB {hd:bi}{had:Bool}{Q:Unit->bn->Prop}(fr:A.frames=some (env::outer))(ff:s.heap.FunFrames base (env::outer))(lf:env.frame=some L)
  (ge:s.heap.get? e=some oe) (gc:oe.cls = .ref C) (gd:oe.dict=od) (gf:oe.data = .fields vs) (gz:1<vs.size)
  (fin:∀h' T,s.heap.objs.size<=T->FlyF (wK L) od h' e C T->(∀b o,s.heap.get? b=some o->b≠e->b∉frs (env::outer)->h'.get? b=some o)->(∀b o,s.heap.get? b=some o->b≠e->∃sl,h'.get? b=some {o with slots:=sl})->Q () {s with heap:=h'}) :
  nw M A (do let a <- frameOf env;let pl <- CI L had;let b <- xZ hd a .none (wK L) .none pl;BQ (.ref e) 1 b) Q E s:=by
 have off:e∉frs (env::outer):=λq=>by
  obtain⟨_,o,go,no⟩:=ff.mem q;cases ge.symm.trans go
  exact no vs gf
 refine bd (Bh fr ff lf λha sa=>bd (AZ λpl ip=>?_));unfold xZ Cq;refine bd (w6 ?_ (ip.sizeOk5 _ _ _ _ _));have ge1:ha.get? e=some oe:=(sa.2.1 e off).trans ge;have sz:ha.objs.size=s.heap.objs.size:=sa.1;generalize hT:([hd,Value.ref L,.none,wK L,.none]++(if pl.isEmpty then im 6 Value.none else pl)).toArray=tv;have t3:tv[3]? = some (wK L):=by rw[<- hT];simp
 have neT:e≠ha.objs.size:=wm (lc ge1);refine xo (bv _ ge1) gf gz ?_;generalize hp:ha.push {cls:=.type "traceback",dict:=none,data:=.fields tv}=hb;have gT:hb.get? ha.objs.size=some {cls:=.type "traceback",dict:=none,data:=.fields tv}:=by rw[<- hp];exact wa _ rfl
 have kb:∀b o,ha.get? b=some o->hb.get? b=some o:=λb o q=>by rw[<- hp];exact bv _ q
 have w1:=wW gf λa=>a.setIfInBounds 1 (.ref ha.objs.size);have g3:=ww (wL λa=>a.setIfInBounds 1 (.ref ha.objs.size)) (kb e oe ge1) (wX w1);have gT3:=(vY hb (wL λa=>a.setIfInBounds 1 (.ref ha.objs.size)) neT).trans gT;have on:∀b o,b≠e->ha.get? b=some o->(hb.update e (wL λa=>a.setIfInBounds 1 (.ref ha.objs.size))).get? b=some o:=λb o ne q=>by
  rw[vY _ _ (xc ne)];exact kb b o q
 refine fin _ ha.objs.size (by rw[sz];exact ms _) ⟨_,_,_,_,g3,(zK _ _).trans gc,?_,w1,by simp[gz],neT.symm,gT3,rfl,t3⟩ (λb o q ne nf=>on b o ne ((sa.2.1 b nf).trans q)) λb o q ne=>?_
 ·obtain⟨oc,od,oda,osl⟩:=oe;cases gf
  exact gd
 ·obtain⟨sl,q'⟩:=sa.2.2 b o q;exact⟨sl,on b _ ne q'⟩
theorem lvN {hv fl:bi}{Q:Unit->bn->Prop}(fr:A.frames=some (env::outer))(ff:s.heap.FunFrames base (env::outer))(lf:env.frame=some L)(hfl:(fl==wK L)=false)
  (ge:s.heap.get? e=some oe) (gc:oe.cls = .ref C) (gd:oe.dict=od) (gf:oe.data = .fields vs) (g1:vs[1]? = some hv)
  (hh:hv = .none ∨ ∃T oT ts,hv = .ref T/\T≠e/\s.heap.get? T=some oT/\oT.data = .fields ts/\ts[3]? = some fl)
  (fin:∀h' T,s.heap.objs.size<=T->FlyF (wK L) od h' e C T->Gone (frs (env::outer)) s.heap h' e hv->Q () {s with heap:=h'}) :
  nw M A (x6 (.ref e) env) Q E s:=by
 have gz:=(wR.mp g1).1;unfold x6;simp only[lf];refine bd (wx ge gf g1 ?_);rcases hh with rfl | ⟨T,oT,ts,rfl,nT,gT,fT,t3⟩
 ·rw[if_neg (by decide)];exact kB fr ff lf ge gc gd gf gz λh' T' q1 q2 q3 q4=>fin h' T' q1 q2 ⟨λb o a1 a2 _ a4=>q3 b o a1 a2 a4,λb o a1 a2 _=>q4 b o a1 a2⟩
 ·rw[if_pos (by simp:(Value.ref T != Value.none)=true)];refine bd (wx gT fT t3 ?_);rw[if_neg (by rw[hfl];exact wS)];refine bd (xo gT fT (wR.mp t3).1 ?_);have ot:∀b,b≠T->(s.heap.update T (wL λa=>a.setIfInBounds 3 Value.none)).get? b=s.heap.get? b:=λb q=>vY _ _ (xc q);have nr:∀b o,s.heap.get? b=some o->(∀us,o.data ≠ .fields us)->b≠T:=λb o q nf z=>by
   subst z;cases gT.symm.trans q
   exact nf ts fT
  refine kB fr (ff.of_keeps λb o q nf=>⟨o,(ot b (nr b o q nf)).trans q,rfl⟩) lf ((ot e nT.symm).trans ge) gc gd gf gz λh' T' q1 q2 q3 q4=>fin h' T' ?_ q2 ⟨λb o a1 a2 a3 a4=>q3 b o ((ot b λz=>a3 (by rw[z])).trans a1) a2 a4,λb o a1 a2 a3=>q4 b o ((ot b λz=>a3 (by rw[z])).trans a1) a2⟩;rwa [AW]at q1
end
def HotF (fl:bi)(od:Option Addr)(h0 h:Heap)(H:Hp)(e C:Addr):Prop :=
 ∃oe vs T oT ts,h.get? e=some oe/\oe.cls = .ref C/\oe.dict=od/\oe.data = .fields vs/\vs[1]? = some (.ref T)/\h0.get? e=none/\H e=none/\T≠e/\h.get? T=some oT/\oT.data = .fields ts/\ts[3]? = some fl/\h0.get? T=none/\H T=none
def hvs:bi->List Addr
 | .ref T=>[T]
 | _=>[]
theorem Un.more {fs ex ex':List Addr}{H H':Hp}{h h':Heap}(u:Un fs ex H H' h h')(le:∀b,b∉ex'->b∉ex):Un fs ex' H H' h h' :=
 ⟨λb o q n nf nx=>u.keep b o q n nf (le b nx),λb o q n hf nx=>u.slot b o q n hf (le b nx),λb o q n nx=>u.free b o q n (le b nx),λb o q nx=>u.there b o q (le b nx),u.tups,u.frzs,u.tbls⟩
theorem FunFrames.but {base h h':Heap}{c:Addr}(k:∀b o,b≠c->h.get? b=some o->h'.get? b=some o):∀ {l:List Env},c∉frs l->h.FunFrames base l->h'.FunFrames base l
 | [],_,_=>trivial
 | env::rest,nc,hl=>by
  obtain⟨hk,⟨L,o,hf,hn,ho,hd⟩,hr⟩:=hl;have e:frs (env::rest)=L::frs rest:=by unfold frs;rw[zk,hf]
  rw[e]at nc;exact⟨hk,⟨L,o,hf,hn,k L o (λz=>nc (z ▸ .head _)) ho,hd⟩,FunFrames.but k (λz=>nc (.tail _ z)) hr⟩
structure Ex0 (X:Cx)(h0:Heap)(H:Hp)(hs h:Heap):Prop where
 ff:h.FunFrames X.base X.stack
 hok:HOk X.prog X.w H h
 fr:∀b∈frs X.stack,H b=none
 un:∃ch,(∀b∈ch,h0.get? b=none/\H b=none)/\Un (frs X.stack) ch H H hs h
 sz:∀b o,h0.get? b=some o->b<h.objs.size
section
variable {X:Cx}{H:Hp}{h0 hs h h':Heap}{e C:Addr}{od:Option Addr}
theorem Ex0.step (x:Ex0 X h0 H hs h){c:Addr}(hc:h0.get? c=none)(hn:H c=none)(nf:c∉frs X.stack)(hh:w_ c h h'):Ex0 X h0 H hs h':=by
 obtain⟨ch,hch,un⟩:=x.un;have kp:∀b o,b≠c->h.get? b=some o->h'.get? b=some o:=λb o ne q=>(hh.2 b ne).trans q;refine⟨FunFrames.but kp nf x.ff,λa o q=>?_,x.fr,⟨c::ch,λb hb=>?_,(un.more λb hb=>λz=>hb (.tail _ z)).trans ⟨λb o q n _ nx=>kp b o (λz=>nx (z ▸ .head _)) q,λb o q n _ nx=>⟨o.slots,kp b o (λz=>nx (z ▸ .head _)) q⟩,λ_ _ _ n _=>n,λb o q nx=>⟨o,kp b o (λz=>nx (z ▸ .head _)) q⟩,λ_ _ q=>q,λ_ _ _ q=>q,λb ps q=>⟨#[],by rw[q];simp⟩⟩⟩,λb o q=>by rw[hh.1];exact x.sz b o q⟩
 ·refine(x.hok a o q).stay (λb u hb z=>kp b u (λw=>?_) z) (λ_ z=>z) λ_ _ z=>z;subst w;rcases hb with rfl | hb
  ·rw[hn]at q;cases q
  ·rw[hn]at hb;cases hb
 ·rcases we.mp hb with rfl | hb
  ·exact⟨hc,hn⟩
  ·exact hch b hb
theorem uK {s:bn}{E:bi->bn->Prop}{Q:Unit->bn->Prop}{env:Env}{outer:List Env}{hv fl:bi}{L:Addr}{oe:Obj}{vs:Array bi}(x:Ex0 X h0 H hs s.heap)(hs':X.stack=env::outer)(fr:X.A.frames=some (env::outer))(hf:env.frame=some L)(hfl:(fl==wK L)=false)
  (ge:s.heap.get? e=some oe) (gc:oe.cls = .ref C) (gd:oe.dict=od) (gf:oe.data = .fields vs) (g1:vs[1]? = some hv) (ye:h0.get? e=none) (ue:H e=none)
  (hh:hv = .none ∨ ∃T oT ts,hv = .ref T/\T≠e/\s.heap.get? T=some oT/\oT.data = .fields ts/\ts[3]? = some fl/\h0.get? T=none/\H T=none)
  (fin:∀h',Ex0 X h0 H hs h'->HotF (wK L) od h0 h' H e C->(∀b o,s.heap.get? b=some o->(∀us,o.data ≠ .fields us)->b∉frs X.stack->h'.get? b=some o)->Q () {s with heap:=h'}) :
  nw (pp X.prog X.w) X.A (x6 (.ref e) env) Q E s:=by
 have hh':hv = .none ∨ ∃T oT ts,hv = .ref T/\T≠e/\s.heap.get? T=some oT/\oT.data = .fields ts/\ts[3]? = some fl:=by
  rcases hh with q | ⟨T,oT,ts,q1,q2,q3,q4,q5,_⟩
  ·exact .inl q
  ·exact .inr ⟨T,oT,ts,q1,q2,q3,q4,q5⟩
 have ff:=x.ff;rw[hs']at ff;refine lvN fr ff hf hfl ge gc gd gf g1 hh' λh' T q1 ⟨oe',vs',oT',ts',f1,f2,f3,f4,f5,f6,f7,f8,f9⟩ g=>?_;have hch:∀b∈e::hvs hv,h0.get? b=none/\H b=none:=λb hb=>by
  rcases we.mp hb with rfl | hb
  ·exact⟨ye,ue⟩
  ·rcases hh with rfl | ⟨T,oT,ts,rfl,_,_,_,_,y,u⟩
   ·cases hb
   ·rw[w9.mp hb];exact⟨y,u⟩
 have nch:∀b,b∉e::hvs hv->b≠e/\hv ≠ .ref b:=λb hb=>⟨λz=>hb (z ▸ .head _),λz=>hb (by subst z;exact .tail _ (.head _))⟩
 have hvf:∀b o,s.heap.get? b=some o->(∀us,o.data ≠ .fields us)->b≠e/\hv ≠ .ref b:=λb o q no=>by
  refine⟨λz=>?_,λz=>?_⟩
  ·subst z;cases ge.symm.trans q;exact no vs gf
  ·rcases hh with y | ⟨T,oT,ts,y,_,gT,fT,_⟩
   ·rw[y]at z;cases z
   ·rw[y]at z;cases z;cases gT.symm.trans q;exact no ts fT
 have slot:∀b o,s.heap.get? b=some o->b≠e->hv ≠ .ref b->∃sl,h'.get? b=some {o with slots:=sl}:=g.slot;have keep:∀b o,s.heap.get? b=some o->b≠e->hv ≠ .ref b->b∉frs X.stack->h'.get? b=some o:=λb o q z1 z2 z3=>g.keep b o q z1 z2 (by rw[<- hs'];exact z3);have Tsz:h0.get? T=none:=by
  cases z:h0.get? T with
  | none=>rfl
  | some o=>exact absurd (x.sz T o z) (zC.mpr q1)
 obtain⟨ch,hch0,un⟩:=x.un;have un2:Un (frs X.stack) (e::hvs hv) H H s.heap h':=by
  refine⟨λb o q n nf nx=>keep b o q (nch b nx).1 (nch b nx).2 nf,λb o q n _ nx=>slot b o q (nch b nx).1 (nch b nx).2,λb o _ n _=>n,λb o q nx=>?_,λ_ _ q=>q,λ_ _ _ q=>q,λb ps q=>⟨#[],by rw[q];simp⟩⟩;obtain⟨sl,q'⟩:=slot b o q (nch b nx).1 (nch b nx).2;exact⟨_,q'⟩
 have hok':HOk X.prog X.w H h':=λa o q=>by
  have tr:∀b o',H b=some o'->b≠e/\hv ≠ .ref b/\b∉frs X.stack:=λb o' z=>by
   refine⟨λw=>?_,λw=>?_,λw=>?_⟩
   ·rw[w,ue]at z;cases z
   ·rcases hh with y | ⟨T,oT,ts,y,_,_,_,_,_,u⟩
    ·rw[y]at w;cases w
    ·rw[y]at w;cases w;rw[u]at z;cases z
   ·rw[x.fr b w]at z;cases z
  refine(x.hok a o q).stay (λb u hb z=>?_) (λ_ z=>z) λ_ _ z=>z;have:∃o',H b=some o':=by
   rcases hb with rfl | hb
   ·exact⟨_,q⟩
   ·exact⟨_,hb⟩
  obtain⟨o',ho'⟩:=this;obtain⟨a1,a2,a3⟩:=tr b o' ho';exact keep b u z a1 a2 a3
 refine fin h' ⟨?_,hok',x.fr,⟨ch++(e::hvs hv),λb hb=>?_,(un.more λb hb z=>hb (z_ _ z)).trans (un2.more λb hb z=>hb (wg _ z))⟩,λb o q=>?_⟩ ⟨oe',vs',T,oT',ts',f1,f2,f3,f4,f5,ye,ue,f6,f7,f8,f9,Tsz,x.hok.fresh q1⟩ (λb o q no nf=>keep b o q (hvf b o q no).1 (hvf b o q no).2 nf)
 ·exact x.ff.of_keeps λb o q no=>by
   obtain⟨sl,q'⟩:=slot b o q (hvf b o q no).1 (hvf b o q no).2;exact⟨_,q',rfl⟩
 ·rcases xM.mp hb with z | z
  ·exact hch0 b z
  ·exact hch b z
 ·have lt:=x.sz b o q;refine o0 lt (wo q1 (wT (lc f7)))
theorem lT {s:bn}{E:bi->bn->Prop}{Q:Unit->bn->Prop}{fl:bi}{fr:Option Addr}(x:Ex0 X h0 H hs s.heap)(q:HotF fl od h0 s.heap H e C)
  (fin:∀h',Ex0 X h0 H hs h'->HotF (fr.elim .none λf=>wK f) od h0 h' H e C->Q () {s with heap:=h'}):nw (pp X.prog X.w) X.A (yX (.ref e) fr) Q E s:=by
 obtain⟨oe,vs,T,oT,ts,g1,gc,gd,g2,g3,ye,ue,nT,gT,fT,t3,yT,uT⟩:=q;have nf:T∉frs X.stack:=λz=>by
  obtain⟨_,o,go,no⟩:=x.ff.mem z;cases gT.symm.trans go
  exact no ts fT
 unfold yX;refine bd (wx g1 g2 g3 ?_);rw[if_pos (by simp:(Value.ref T != Value.none)=true)];refine xo gT fT (wR.mp t3).1 ?_;have w:=wW fT λa=>a.setIfInBounds 3 (fr.elim Value.none λf=>wK f);have sb:w_ T s.heap (s.heap.update T (wL λa=>a.setIfInBounds 3 (fr.elim Value.none λf=>wK f))):=xX ..;refine fin _ (x.step yT uT nf sb) ⟨oe,vs,T,_,_,(sb.2 e nT.symm).trans g1,gc,gd,g2,g3,ye,ue,nT,ww _ gT (wX w),w,?_,yT,uT⟩;have:=(wR.mp t3).1;simp[this]
theorem uN {s:bn}{E:bi->bn->Prop}{Q:Unit->bn->Prop}{fl:bi}{env:Env}{outer:List Env}{L:Addr}(x:Ex0 X h0 H hs s.heap)(hs':X.stack=env::outer)(fr:X.A.frames=some (env::outer))(hf:env.frame=some L)(q:HotF fl od h0 s.heap H e C)
  (fin:∀h',Ex0 X h0 H hs h'->HotF .none od h0 h' H e C->Q () {s with heap:=h'}):nw (pp X.prog X.w) X.A (zS env (.ref e)) Q E s:=by
 unfold zS;cases hfl:fl==wK L with
 | true =>
  obtain⟨oe,vs,T,oT,ts,g1,gc,gd,g2,g3,ye,ue,nT,gT,fT,t3,yT,uT⟩:=id q;refine bd ?_;unfold x6;simp only[hf];refine bd (wx g1 g2 g3 ?_);rw[if_pos (by simp:(Value.ref T != Value.none)=true)];refine bd (wx gT fT t3 ?_);rw[if_pos hfl];exact lw (lT (fr:=none) x q fin)
 | false =>
  obtain⟨oe,vs,T,oT,ts,g1,gc,gd,g2,g3,ye,ue,nT,gT,fT,t3,yT,uT⟩:=q;exact bd (uK x hs' fr hf hfl g1 gc gd g2 g3 ye ue (.inr ⟨T,oT,ts,rfl,nT,gT,fT,t3,yT,uT⟩) λh' x' q' _=>lT (fr:=none) x' q' fin)
end
section
variable {P:v3}{w:wz}{K:ac}{mg:Str->Option bi}{base:Heap}{N:List Str}{qual:Str}{scope:xx}{f:Addr}{cd:bi}{A:wy}{outer:List Env}{s0:bn}{H0:Hp}{E:XK}
def Cx.zb (X:Cx)(Y:Env)(use:Option (bi->Sem Unit))(Q:bi->bn->Prop)(acc:bi)(C:Addr):bi->bn->Prop :=
 DI (pp X.prog X.w) X.A Y λx s''=>C9 (pp X.prog X.w) X.A X.xe use Q acc C (.error x) s''
theorem vz {sc2:xx}{N2:List Str}{s2 s':bn}{H2 H':Hp}{C a Cc:Addr}{od:Option Addr}{fp:List Addr}{pins pY:List (Addr×Obj)}{σ σY:St}{acc:bi}{use:Option (bi->Sem Unit)}{Q:bi->bn->Prop}
  (I2:Inv (cxOf (CX1 P w) P w K mg base N qual scope f cd A outer s0 H0 E) pins σ H2 s2) (szC:s2.heap.objs.size<=C) (IX':Inv (cxOf (CX1 P w) P w K mg base N qual scope f cd A outer s0 H0 E) pins σ H' s') (IY':Inv (blkC (cxOf (CX1 P w) P w K mg base N qual scope f cd A outer s0 H0 E) sc2 N2 s2 H2 C fp) pY σY H' s') (hot:Hot od s0.heap s'.heap H' a Cc) (hy:Yg s0.heap od) (he:E (odV od) (some Cc) H') :
  (cxOf (CX1 P w) P w K mg base N qual scope f cd A outer s0 H0 E).zb (blkC (cxOf (CX1 P w) P w K mg base N qual scope f cd A outer s0 H0 E) sc2 N2 s2 H2 C fp).env use Q acc C (.ref a) s':=by
 have ncf:C∉frs (cxOf (CX1 P w) P w K mg base N qual scope f cd A outer s0 H0 E).stack:=λz=>by
  obtain⟨_,o,go,_⟩:=I2.stack.mem z;exact absurd (lc go) (zC.mpr szC)
 obtain⟨m,hn,_⟩:=IY'.loc;have hn:s'.heap.Ns C m:=hn;obtain⟨oe,vs,hv,g1,gc,gd,g2,g3,ye,ue,hh⟩:=hot;have x0:Ex0 (cxOf (CX1 P w) P w K mg base N qual scope f cd A outer s0 H0 E) s0.heap H' s'.heap s'.heap:=⟨IX'.stack,IX'.hok,IX'.stkFree,⟨[],(λb z=>nomatch z),Un.refl⟩,λb o q=>o0 (lc q) IX'.sz⟩
 show nw (pp P w) _ (x6 (.ref a) (zf qual scope s0.heap.objs.size f cd)) _ _ s';refine uK (X:=cxOf (CX1 P w) P w K mg base N qual scope f cd A outer s0 H0 E) (outer:=outer) (L:=s0.heap.objs.size) (fl:=.none) x0 rfl IX'.ok.frames rfl (zJ.mpr (by simp[wK])) g1 gc gd g2 g3 ye ue hh λh' x' q' kp=>?_;obtain⟨o,es,ep,ho,hd,hk⟩:=hn;have gC:=kp C o ho (λus z=>by rw[hd]at z;cases z) ncf;show ∃m,Heap.Ns h' C m/\∀h'',w_ C h' h''->∀cenv:Env,cenv.locals=C->_;refine⟨m,⟨o,es,ep,gC,hd,hk⟩,λh2 sb cenv ce=>?_⟩;have yC:s0.heap.get? C=none:=by
  cases z:s0.heap.get? C with
  | none=>rfl
  | some o=>exact absurd (o0 (lc z) (wo I2.sz szC)) (xS _)
 have uC:H' C=none:=IY'.free;have x2:=x'.step yC uC ncf sb;obtain⟨oe,vs,T,oT,ts,r1,rc,rd,r2,r3,ye,ue,nT,rT,rt,r4,yT,uT⟩:=q';have n1:a≠C:=λz=>by
  subst z;cases r1.symm.trans gC
  rw[hd]at r2;cases r2
 have n2:T≠C:=λz=>by
  subst z;cases rT.symm.trans gC
  rw[hd]at rt;cases rt
 have g1':=(sb.2 a n1).trans r1;have q2:HotF (wK s0.heap.objs.size) od s0.heap h2 H' a Cc:=⟨oe,vs,T,oT,ts,g1',rc,rd,r2,r3,ye,ue,nT,(sb.2 T n2).trans rT,rt,r4,yT,uT⟩
 unfold PySem.passOn;refine bd (wx g1' r2 r3 ?_);rw[if_neg (by simp:¬(Value.ref T==Value.none)=true)];refine bd (lT (X:=cxOf (CX1 P w) P w K mg base N qual scope f cd A outer s0 H0 E) (s:={s' with heap:=h2}) x2 q2 λh3 x3 q3=>wpAny_throw ?_);show nw (pp P w) _ (zS (zf qual scope s0.heap.objs.size f cd) (.ref a)) _ _ _;refine uN (X:=cxOf (CX1 P w) P w K mg base N qual scope f cd A outer s0 H0 E) (outer:=outer) (L:=s0.heap.objs.size) (s:={s' with heap:=h3}) x3 rfl IX'.ok.frames rfl q3 λh4 x4 q4=>?_;obtain⟨ch,hch,u4⟩:=x4.un;have lo:∀b o,s0.heap.get? b=some o->b∉ch:=λb o q z=>by rw[(hch b z).1]at q;cases q
 have nL:∀b o,s0.heap.get? b=some o->b≠s0.heap.objs.size:=λb o q=>wm (lc q);obtain⟨oe,vs,T,oT,ts,r1,rc,rd,r2,r3,ye,ue,nT,rT,rt,r4,yT,uT⟩:=q4;refine⟨a,Cc,od,H',rfl,IX'.os,IX'.bare,⟨λb o q n nf _=>?_,λb o q n hb _=>?_,λb o q n _=>IX'.base.free b o q n (λz=>nomatch z),λb o q _=>?_,IX'.base.tups,IX'.base.frzs,IX'.base.tbls⟩,x4.hok,⟨oe,vs,.ref T,r1,rc,rd,r2,r3,ye,ue,.inr ⟨T,oT,ts,rfl,nT,rT,rt,r4,yT,uT⟩⟩,hy,he⟩
 ·refine u4.keep b o (IX'.base.keep b o q n nf λz=>nomatch z) (IX'.base.free b o q n λz=>nomatch z) (λz=>?_) (lo b o q);rcases we.mp z with z | z
  ·exact nL b o q z
  ·exact nf z
 ·obtain⟨sl,q'⟩:=IX'.base.slot b o q n hb λz=>nomatch z
  obtain⟨sl',q''⟩:=u4.slot b _ q' (IX'.base.free b o q n λz=>nomatch z) (.tail _ hb) (lo b o q);exact⟨sl',q''⟩
 ·obtain⟨o',q'⟩:=IX'.base.there b o q λz=>nomatch z
  exact u4.there b o' q' (lo b o q)
theorem rC {sc2:xx}{N2:List Str}{s2:bn}{H2:Hp}{C:Addr}{fp:List Addr}{pins:List (Addr×Obj)}{σ:St}{acc:bi}{use:Option (bi->Sem Unit)}{Q:bi->bn->Prop}
  (I2:Inv (cxOf (CX1 P w) P w K mg base N qual scope f cd A outer s0 H0 E) pins σ H2 s2) (f2:∀b∈fp,FpOk (cxOf (CX1 P w) P w K mg base N qual scope f cd A outer s0 H0 E) pins H2 b) (szC:s2.heap.objs.size<=C) :
  iK (CX1 P w) ((blkC (cxOf (CX1 P w) P w K mg base N qual scope f cd A outer s0 H0 E) sc2 N2 s2 H2 C fp).wish ((cxOf (CX1 P w) P w K mg base N qual scope f cd A outer s0 H0 E).zb (blkC (cxOf (CX1 P w) P w K mg base N qual scope f cd A outer s0 H0 E) sc2 N2 s2 H2 C fp).env use Q acc C)) (EE E):=by
 rintro pY σY H s e s' I ⟨a,Cc,od,H',rfl,os,bare,un,hok,hot,hy,he⟩;have IY:=I.unwish;have IX:Inv (cxOf (CX1 P w) P w K mg base N qual scope f cd A outer s0 H0 E) pins σ H s:=I2.call' IY.os IY.base IY.hok IY.bare λb hb=>let ⟨_,b1,_,b3,b4,b5⟩:=f2 b hb;⟨b3,b1,b4,b5⟩;have back:∀b,s.heap.get? b=none->s0.heap.get? b=none:=λb q=>IX.back0 rfl q;obtain⟨H3,r,he⟩:=he ⟨_,_,_,hok⟩;exact vz I2 szC ((IX.call' os un hok bare λb z=>nomatch z).re r) ((IY.call' os un hok bare λb z=>nomatch z).re r) ((hot.older back).re r) (λdx q=>back dx (hy dx q)) he
end
section
variable {P:v3}{w:wz}{A:wy}{R:CK->bn->Prop}{s:bn}
theorem kN {elt tg iter:Expr}{scope:xx}{pos:Pos}{it acc:bi}{env:Env}(J:Nat->bn->Prop)
  (turn:∀n s,J n s->nw (pp P w) A (Ax it) (λr s1=>match r with
   | none=>False
   | some v=>nw (pp P w) A (zA tg it v) (λ_ s2=>nw (pp P w) A (zV tg env v) (λ_ s3 =>
     nw (pp P w) A (eval elt env) (λx s5=>nw (pp P w) A (call (.builtin "list.append") [acc,x]) (λ_ s6=>∃m,m<n/\J m s6) (λ_ _=>False) s5) (DI (pp P w) A env λx s'=>R (.error x) s') s3) (λ_ _=>False) s2) (λ_ _=>False) s1) (λ_ _=>False) s)
  (n:Nat) (h:J n s):zp (pp P w) A (.compLoop (.ListComp elt [⟨tg,iter,[],0⟩] scope pos) 0 it acc env) R s:=by
 have no:∀ {α:Type} {t:Sem α} {Q Q':α->bn->Prop} {E:bi->bn->Prop} {s:bn},nw (pp P w) A t Q (λ_ _=>False) s->(∀a s,Q a s->Q' a s)->nw (pp P w) A t Q' E s :=
  λh hq=>wG h hq λ_ _ f=>f.elim
 refine codeAny_loop rfl J (λn s hJ=>?_) n h;show nw _ A ((compTurn (.ListComp elt [⟨tg,iter,[],0⟩] scope pos) 0 it acc env).onRaise (λx=>do x6 x env;D4 x)) _ _ s;refine wpAny_noted ?_;rw[compTurn_list];refine bd (yO (bd (no (turn n s hJ) λr s1 h1=>?_)));cases r with
 | none=>exact h1.elim
 | some v =>
  refine bd (no h1 λ_ s2 h2=>bd (no h2 λ_ s3 h3=>bd (D2 ?_)));exact bd (bd (wG h3 (λx s5 h5=>bd (no h5 λ_ s6 h6=>lw (lw ⟨rfl,h6⟩))) λ_ _ z=>z))
end
def qh (J:It)(n:Nat)(js:List Nat)(g:TG)(te:TE)(tr:List (Option V)->Hp->Prop)(σ:St)(H1:Hp):Prop:=∃W:Nat->Nat->List V->Hp->Prop,(∃m,W 0 m [] H1)/\∀i m ys H,W i m ys H ->
 J.go i H/\ys.length<v5/\∃N:List V->Hp->Prop,(∀zs H',N zs H'->∃m',m'<m/\W (i+1) m' zs H')/\∀x H',J.yld i H x H'->g x (bst n σ js) H' λσ2 H2=>σ2.drop n=capt σ js/\(te σ2 H2 (λv H4=>N (ys++[v]) H4)∨tr σ2 H2)
section
variable {X:Cx}
theorem lX {elt tg iter:Expr}{scope:xx}{pos:Pos}{own:List Str}{js:List Nat}{g:TG}{te:TE}{tr:List (Option V)->Hp->Prop}{pins:List (Addr×Obj)}{σ:St}{s2:bn}{itv:bi}{E:bi->bn->Prop}
  {RR:bi->Addr->CK->bn->Prop} (hc:X.calm=true) (B:BlkC X scope own js) (hg:∀s H C fp,(own++capN X.N js).Nodup->PG (blkC X scope (own++capN X.N js) s H C fp) tg g)
  (he:∀s H C fp,PE (blkC X scope (own++capN X.N js) s H C fp) elt te)
  (hr:∀s H C fp acc,Inv X pins σ H s->(∀b∈fp,FpOk X pins H b)->s.heap.objs.size<=C->PE ((blkC X scope (own++capN X.N js) s H C fp).wish (DI (pp X.prog X.w) X.A (blkC X scope (own++capN X.N js) s H C fp).env λx s''=>RR acc C (.error x) s'')) elt (λσ H _=>tr σ H))
  (h:PIE X pins σ tg (λJ H1=>qh J own.length js g te tr σ H1) itv s2) :
  nw (pp X.prog X.w) X.A (DJ []) (λacc s3=>nw (pp X.prog X.w) X.A (Ay scope X.env.globals (dZ scope X.env) [] X.env.qual none .none (some X.env)) (λcenv s4 =>
   zp (pp X.prog X.w) X.A (.compStart (.ListComp elt [⟨tg,iter,[],0⟩] scope pos) 0 itv acc {cenv with scope:=BK scope X.env}) (RR acc cenv.locals) s4) E s3) E s2:=by
 obtain⟨it,fp,tn,J,H2,rfl,I2,T,st2,f2,W,⟨m0,w0⟩,turn⟩:=h;refine w6 (d9 ?_);generalize hPu:s2.heap.push {cls:=.type "list",dict:=none,data:=.seq ([]:List bi).toArray}=Pu;dsimp only;have hDC:Pu.objs.size=s2.heap.objs.size+1:=by rw[<- hPu,xL]
 generalize hD:s2.heap.objs.size=D at hDC ⊢;have gD:Pu.get? D=some {cls:=.type "list",dict:=none,data:=.seq ([]:List bi).toArray}:=by
  rw[<- hPu,<- hD];exact wa _ rfl
 have hns1:(ze (Pu.push {cls:=.type "dict",data:=.dict #[]}) scope.names).Ns Pu.objs.size λ_=>none:=(Dp Pu (.type "dict")).keeps (Ak _ _);have hcs1:CellsOk (ze (Pu.push {cls:=.type "dict",data:=.dict #[]}) scope.names) (Pu.objs.size+1) (xa (Pu.objs.size+1) scope.names []):=by
  have ok:=cellsFrom_ok scope.names (Pu.push {cls:=.type "dict",data:=.dict #[]}) (Pu.objs.size+1) [] ⟨λ_ _ hm=>(nomatch hm),List.Pairwise.nil⟩ (by rw[xL];exact ms _);rw[xL]at ok;exact ok
 have keep0:∀b o,Pu.get? b=some o->(ze (Pu.push {cls:=.type "dict",data:=.dict #[]}) scope.names).get? b=some o:=λb o e=>Ak _ _ b o (bv _ e);generalize hh1:ze (Pu.push {cls:=.type "dict",data:=.dict #[]}) scope.names=h1 at hns1 hcs1 keep0 ⊢;generalize hC:Pu.objs.size=C at hns1 hcs1 hDC ⊢;have ltDC:D<C:=by rw[hDC];exact Df D
 have neDC:D≠C:=wm ltDC;have keep1:∀b o,s2.heap.get? b=some o->h1.get? b=some o:=λb o e=>keep0 b o (by
  rw[<- hPu];exact bv _ e)
 have gD1:h1.get? D=some {cls:=.type "list",dict:=none,data:=.seq ([]:List bi).toArray}:=keep0 D _ gD;have szD:s2.heap.objs.size<=D:=B0 hD;have szC:s2.heap.objs.size<=C:=wo szD (wT ltDC);have old:∀ {b:Addr},b<s2.heap.objs.size->b≠D/\b≠C:=λhb=>⟨wm (o0 hb szD),wm (o0 hb szC)⟩
 have fpo:∀b∈fp,∃o,s2.heap.get? b=some o:=λb hb=>let ⟨o,e,_⟩:=T.obj 0 _ st2 b hb;⟨o,e⟩;have fpD:∀b∈fp,b≠D/\b≠C:=λb hb=>by
  obtain⟨o,e⟩:=fpo b hb;exact old (lc e)
 have clD:∀x d,X.env.cells.lookup x=some d->d≠D/\d≠C:=λx d e=>by
  obtain⟨v,o,ho,_⟩:=I2.cell x d e;exact old (lc ho)
 have pinD:∀p∈X.pn++pins,p.1≠D/\p.1≠C:=λp hp=>by
  exact old (lc (I2.pin p hp).1)
 have locD:D≠X.env.locals/\C≠X.env.locals:=by
  exact⟨(old I2.lt).1.symm,(old I2.lt).2.symm⟩
 let Y:=blkC X scope (own++capN X.N js) s2 H2 C fp;have IB:Inv Y [] (bst own.length σ js) H2 {s2 with heap:=h1}:=mX B I2 f2 fpo szC hns1 hcs1 keep1;have fpB:∀ {H':Hp} {pl:List (Addr×Obj)},(∀b∈fp,H' b=none)->(∀p∈pl,p.1=D)->∀b∈fp,FpOk Y pl H' b:=λ{H' pl} hn hp b hb=>by
  obtain⟨f0,f1,f3,f4,f5,f6⟩:=f2 b hb;refine⟨hn b hb,(fpD b hb).2,λz=>?_,.inl hb,λx c e=>?_,λp q=>?_⟩
  ·rcases we.mp (I2.stkSub b z)with z | z
   ·exact f1 z
   ·exact f3 z
  ·rcases cS e with q | q
   ·obtain⟨o,eo⟩:=fpo b hb;exact wM (o0 (lc eo) (wo szC (wT (hcs1.empty _ _ q).2)))
   ·exact f5 x c q
  ·have q':p∈pl:=by simpa [Y,blkC] using q
   rw[hp p q'];exact(fpD b hb).1.symm
 have clB:∀x d,Y.env.cells.lookup x=some d->d≠D:=λx d e=>by
  rcases cS e with q | q
  ·exact wM (yD ltDC (hcs1.empty _ _ q).2)
  ·exact(clD x d q).1
 have notFs:D∉Y.fs:=λz=>by
  obtain⟨_,o,ho,_⟩:=IB.ok.funs.mem z;exact(old (lc (show s2.heap.get? D=some o from ho))).1 rfl
 have loop:∀s3:bn,s3={s2 with heap:=h1} ->
   zp (pp X.prog X.w) X.A (.compLoop (.ListComp elt [⟨tg,iter,[],0⟩] scope pos) 0 (.ref it) (.ref D) (C_ scope (d5 scope C X.env) C X.env)) (RR (.ref D) C) s3:=by
  rintro s3 rfl;refine kN (λn s'=>∃(i:Nat) (ys:List V) (its:List bi) (k:Nat) (H':Hp),Inv Y [] (bst own.length σ js) H' s'/\tn i s'.heap/\(∀b∈fp,H' b=none)/\H' D=none/\Vals ys its /\
   s'.heap.get? D=some {cls:=.type "list",data:=.seq its.toArray k}/\W i n ys H') ?_ m0 ⟨0,[],[],0,H2,IB,T.keep 0 _ _ st2 (λb hb o e=>keep1 b o e),λb hb=>(f2 b hb).1,I2.hok.fresh szD,.nil,gD1,w0⟩
  rintro n s3 ⟨i,ys,its,k,H3,I3,st3,fr3,hD3,r3,g3,w3⟩;have I3p:Inv Y [(D,{cls:=.type "list",data:=.seq its.toArray k})] (bst own.length σ js) H3 s3:=I3.pins_of λp hp=>by
   have e:p=(D,{cls:=.type "list",data:=.seq its.toArray k}):=by simpa using hp
   subst e;exact⟨g3,hD3,neDC,notFs,λv z=>by cases z⟩
  have f3:∀b∈fp,FpOk Y [(D,{cls:=.type "list",data:=.seq its.toArray k})] H3 b:=fpB fr3 λp hp=>by
   have e:p=(D,{cls:=.type "list",data:=.seq its.toArray k}):=by simpa using hp
   rw[e]
  obtain⟨go,hz,N,hN,step⟩:=turn i n ys H3 w3
  ·refine thn (T.item Y rfl rfl rfl hc i _ s3 _ H3 (λ_ _=>False) I3p f3 st3 go) λr s4 ⟨u,hr,h4⟩=>?_;subst hr;refine thn h4 λ_ s5 ⟨x,H5,I5,r5,y5,st5,fr5⟩=>?_;have f5:∀b∈fp,FpOk Y [(D,{cls:=.type "list",data:=.seq its.toArray k})] H5 b:=λb hb=>⟨fr5 b hb,(f3 b hb).2⟩
   have I5':=I5.pinned f5 (T.obj _ _ st5);refine thn (hg s2 H2 C fp B.nd _ s5 _ H5 x u _ I5' r5 (step x H5 y5)) λ_ s6 ⟨σ6,H6,I6,d6,q6⟩=>?_;have after:∀ {s8:bn} {H8:Hp},Inv Y ([(D,{cls:=.type "list",data:=.seq its.toArray k})]++hV fp s5.heap) σ6 H8 s8 ->
     s8.heap.get? D=some {cls:=.type "list",data:=.seq its.toArray k}/\H8 D=none/\tn (i+1) s8.heap/\(∀b∈fp,H8 b=none)/\Inv Y [] (bst own.length σ js) H8 s8:=λ{s8 H8} I8=>by
    have p8:=I8.pin (D,{cls:=.type "list",data:=.seq its.toArray k}) (by simp[Y,blkC]);refine⟨p8.1,p8.2.1,T.keep _ _ _ st5 λb hb o e=>(I8.pin (b,o) (wg _ (wg _ (cy hb e)))).1,λb hb=>?_,?_⟩
    ·obtain⟨o,e,_⟩:=T.obj _ _ st5 b hb;exact(I8.pin (b,o) (wg _ (wg _ (cy hb e)))).2.1
    ·refine(I8.pins_of (pins':=[]) λp hp=>absurd hp (by simp[Y,blkC])).weak ?_ λj v e=>?_
     ·rw[I8.len,iH];show _=(own++capN X.N js).length;unfold capN;simp
     ·rcases wu j own.length with z | z
      ·exfalso;unfold bst at e;rw[wU (by simpa using z),yL]at e;split at e <;> cases e
      ·unfold bst at e;rw[xA (by simpa using z),xH,<- d6,xK]at e;rw[<- e];congr 1;omega
   rcases q6 with q6 | q6
   ·refine wG (he s2 H2 C fp _ s6 σ6 H6 _ I6 q6) (λu8 s8 ⟨v8,H8,I8,r8,n8⟩=>?_) λ_ _ z=>wD z;obtain⟨m',hm,w8⟩:=hN _ _ n8;obtain⟨a1,a2,a3,a4,a5⟩:=after I8;have hsz:its.toArray.size<v5:=by rw[kt,<- r3.length];exact hz
    refine A6 v_ ⟨_,a1,rfl⟩ AF (Ao _ _) (Az D its.toArray k u8 (by omega)) ⟨a1,?_⟩;have q9:=An a1 (λxs=>xs.push u8);have sb:w_ D s8.heap (s8.heap.update D (xC λxs=>xs.push u8)):=xX ..;have I9:=a5.young sb a2 szD neDC clB (λp hp=>absurd hp (by show p∉[]++[];simp));have fin:∃k',(s8.heap.update D (xC λxs=>xs.push u8)).get? D=some {cls:=.type "list",data:=.seq (its++[u8]).toArray k'}:=⟨_,by
     rw[show(its++[u8]).toArray=its.toArray.push u8 by simp];exact q9⟩
    obtain⟨k',fin⟩:=fin;exact⟨m',hm,i+1,ys++[v8],its++[u8],k',H8,I9,T.keep _ _ _ a3 (λb hb o e=>(sb.2 b (fpD b hb).1).trans e),a4,a2,r3.append (.cons r8 .nil),fin,w8⟩
   ·exact wG (hr s2 H2 C fp (.ref D) I2 f2 szC _ s6 σ6 H6 (λ_ _=>False) (I6.wish _) q6) (λ_ _ ⟨_,_,_,_,z⟩=>wD z) λ_ _ z=>z
 exact CJ (loop _ rfl) (T.self _ 0 _ _ _ (T.keep 0 _ _ st2 λb hb o e=>keep1 b o e) (loop _ rfl))
theorem kn {R:VK}{elt tg iter:Expr}{scope:xx}{pos pos' spos:Pos}{x:Str}(own:List Str)(js:List Nat){wi:TI}{g:TG}{te:TE}{tr:TS}
  (hc:X.calm=true) (B:Blk X scope own js) (hit:PI X.nox tg iter wi)
  (hg:∀s H C fp,(own++capN X.N js).Nodup->PG (blk X scope (own++capN X.N js) s H C fp) tg g) (he:∀s H C fp,PE (blk X scope (own++capN X.N js) s H C fp) elt te)
  (hr:∀D:Ends,D.rt=R->∀use Q s H C fp acc pins σ,Inv X pins σ H s->(∀b∈fp,FpOk X pins H b)->s.heap.objs.size<=C->PE ((blkC X scope (own++capN X.N js) s H C fp).wish (X.zb (blkC X scope (own++capN X.N js) s H C fp).env use Q acc C)) elt (λσ H _=>tr D σ H))
  (hw:zd (.ListComp elt [⟨tg,iter,[],0⟩] scope pos) (some (.Name x pos')) spos.line X.env=pure true:=by rfl)
  (hs:∀x,x8 iter X.env x=pure x:=by intro _;rfl) :
  PSr X R (.Assign [.Name x pos'] (.ListComp elt [⟨tg,iter,[],0⟩] scope pos) spos) (λD σ H=>wi σ H λJ H1=>qh J own.length js g te (tr D) σ H1):=by
 intro pins s σ H D e I h;have hcl:A4 scope X.env=pure (dZ scope X.env):=dO λx hx hf=>I.ok.has x.1 (B.free x hx hf);rw[CZ _ _ _ _ hw];refine bd (yO (bd ?_));show nw _ X.A (do let _ <- comprehension (.ListComp elt [⟨tg,iter,[],0⟩] scope pos) scope X.env _ (DJ []) false (eval iter X.env) (some (zV (.Name x pos') X.env))) _ _ s;refine bd (thn (Q:=λ_ _=>False) (zU (use:=some (zV (.Name x pos') X.env)) rfl hs hcl B.kind B.names (wG (hit pins s σ H _ (I.wish _) h) (λv s1 h1=>wG h1 (λitv s2 h2=>?_) λ_ _ z=>wD z) λ_ _ z=>wD z)) λ_ s' q=>q.elim);obtain⟨it,fp,tn,J,H2,e2,I2w,T,st2,f2,W⟩:=h2;exact lX (RR:=λacc C=>C9 (pp X.prog X.w) X.A X.xe (some (zV (.Name x pos') X.env)) (λ_ _=>False) acc C) hc B.c (λs H C fp nd=>by rw[gF B];exact hg s H C fp nd) (λs H C fp=>by rw[gF B];exact he s H C fp)
  (λs H C fp acc I f2 sz=>hr D e _ _ s H C fp acc pins σ I f2 sz) ⟨it,fp,tn,J,H2,e2,I2w.unwish,T,st2,f2,W⟩
theorem uB {E:XK}{Cl:Addr}{fn:Option Str}{K:ac}{S:ASp}{k:Nat}{x:Str}{ps:List Str}{p cpos:Pos}{e:Expr}{es:List Expr}{t:TA}{D:Ends}(eD:D.rt=XW E Cl fn)(F:OkX X.prog X.w X.K X.mg X.base k x ps Cl fn (spA K S))(hr:Room k X.A)(hx:iK (CX1 X.prog X.w) X E)(ha:PA X.nox (e::es) t)(hg:Gl X x:=by rfl)
  (hdb:(x==("__debug__" : Str))=false:=by decide) (he:wq (e::es) X.env=(false,eval e X.env)::wq es X.env:=by rfl) (hpl:(yt cpos (wq es X.env)).any (·.1)=false:=by rfl) :
  PE X (.Call (.Name x p) (e::es) [] cpos) (λσ H _=>tRet (lh (spA K S) [] E0 t) D σ H):=by
 obtain⟨f,fd,hm,hk,hb,F⟩:=F.ex;intro pins s σ H Q I h;have pe:=lA (p:=p) (sp:=spX Cl fn (spA K S)) (E:=E) F hr hg hm hk hb .nil hx ha.nox hdb he hpl;have h':lh (spX Cl fn (spA K S)) [] E t σ H λ_ _=>False:=by
  have h2:t σ H λvs H1=>spA K S (vs++[]) H1 D.rt E0:=h;rw[eD]at h2;exact h2
 exact wG (pe pins s σ H _ I h') (λ_ _ ⟨_,_,_,_,z⟩=>z.elim) λ_ _ z=>z
end
def iD (n:Nat)(js:List Nat)(c:En->Prop)(g:AG)(te tr:AE)(rt:R->En->Prop):List D->List D->En->Prop
 | [],_,_=>False
 | d::ds,acc,ρ=>c ρ/\g d (blkE n js ρ) λρ1=>(te ρ1 λr ρ3=>sto [r.frz] ρ3 λes ρ4=>iD n js c g te tr rt ds (acc++es) (back ρ (js.map R.o) (ρ4.drop n)))∨tr ρ1 λr ρ3=>∃d,r = .d d/\rt (.d d) (back ρ (js.map R.o) (ρ3.drop n))
def ub (n:Nat)(js:List Nat)(wi:TI)(g:TG)(te tr:TE):TS:=λD σ H=>wi σ H λJ H1=>qh J n js g te (λσ H=>tr σ H λv H'=>D.rt v H') σ H1
def vm (n:Nat)(js:List Nat)(i:AI)(g:AG)(te tr:AE):AS:=λe ρ=>i ρ λds c ρ1=>ds.length<=1000000/\iD n js c g te tr e.rt ds [] ρ1
section
variable {K:ac}
theorem ke {pr:Nat->Bool}{n:Nat}{js:List Nat}{wi:TI}{g:TG}{te tr:TE}{ai:AI}{ag:AG}{ate aR:AE}(hi:TIok K (λ_=>true) wi ai)(hg:TGok K (λj=>decide (n<=j)) g ag)(he:TEok K te ate)(hR:TEok K tr aR)
  (hd:dis (js.map R.o)=true:=by rfl):TSok K pr (ub n js wi g te tr) (vm n js ai ag ate aR):=by
 intro F σ ρ H D e hp r h ok;refine hi F σ ρ H _ _ r h λds c ρ1 J H1 h1 r1 k1 wk=>?_;obtain⟨hz,h1⟩:=h1;have hd':dis (blkR n js)=true:=by rw[jX];exact hd
 refine⟨λi m ys H'=>∃ ρ' acc,m=ds.length - i/\i<=ds.length/\Rel K F σ ρ' H'/\Kp σ ρ1 ρ' H1 H'/\RepDs K (hid H' (hs F σ ρ')) ys acc/\acc.length<=i/\iD n js c ag ate aR e.rt (ds.drop i) acc ρ',⟨ds.length,ρ1,[],rfl,wp _,r1,.refl,.nil,wp _,h1⟩,?_⟩;rintro i m ys H' ⟨ρ',acc,rfl,hl,r',k',rd,al,h'⟩;have w:c ρ'->WkAt K (hs F σ ρ') H' J ds:=λhc=>wk σ ρ' H' k'.vis r'.sl (λ_ _ _ e=>e) (λa z=>qI r' z) hc;have yl:ys.length=acc.length:=rd.length;rcases wu i ds.length with lt | ge
 ·skip
  rw[xp lt]at h';unfold iD at h';obtain⟨hcc,h'⟩:=h';obtain⟨go,yld⟩:=(w hcc i).1 ds[i] (dL lt);refine⟨go,g6 (by omega),λzs H2=>∃ ρ2 acc2,Rel K F σ ρ2 H2/\Kp σ ρ1 ρ2 H1 H2/\RepDs K (hid H2 (hs F σ ρ2)) zs acc2/\acc2.length<=i+1/\iD n js c ag ate aR e.rt (ds.drop (i+1)) acc2 ρ2,
   λzs H2 ⟨ρ2,acc2,a1,a2,a3,a4,a5⟩=>⟨ds.length - (i+1),by omega,ρ2,acc2,rfl,lt,a1,a2,a3,a4,a5⟩,λx H2 hy=>?_⟩
  obtain⟨sm,rx⟩:=yld x H2 hy;have r0':=r';have k':Kp σ ρ1 ρ' H1 H2:=k'.trans ⟨λa o e _=>sm a o e,λ_ h=>h⟩;have rd:RepDs K (hid H2 (hs F σ ρ')) ys acc:=rd.same (bB λa o e n=>⟨sm a o e,n⟩);have r':=r0'.grow sm;have src:=mV (K:=K) (F:=F) (σ:=σ) (ρ:=ρ') (H:=H2) n js;have rb:=r'.sub src hd';have hs2:=ou r' src;rw[cz]at rb hs2;have pin:∀i a,(fe F σ ρ' H2 (bst n σ js) (blkE n js ρ')).pin i a->decide (n<=i)=true:=λi a h=>by
   rcases h with h | h
   ·exact decide_eq_true (mW h.1)
   ·exact h.elim
  have hlen:(bst n σ js).length=n+js.length:=iH;have ret:∀ σ2 ρ2 H3,Rel K (fe F σ ρ' H2 (bst n σ js) (blkE n js ρ')) σ2 ρ2 H3->σ2.length=(bst n σ js).length->σ2.drop n=capt σ js->(∀i,(gt ρ2 i).own=true->(gt (blkE n js ρ') i).own=true) ->
    Rel K F σ (back ρ' (js.map R.o) (ρ2.drop n)) H3/\Kp σ ρ' (back ρ' (js.map R.o) (ρ2.drop n)) H2 H3/\Same (hid H3 (hs (fe F σ ρ' H2 (bst n σ js) (blkE n js ρ')) σ2 ρ2)) (hid H3 (hs F σ (back ρ' (js.map R.o) (ρ2.drop n)))):=λσ2 ρ2 H3 rr hlen2 hdrop hown=>by
   obtain⟨f1,f2⟩:=rr.forget (n:=n) (by omega) λi a h=>of_decide_eq_true (pin i a h)
   rw[hdrop]at f1 f2;have f1':Rel K (fe F σ ρ' H2 (bst n σ js) ((blkR n js).map (cN ρ'))) (bst n σ js) (im n .un++ρ2.drop n) H3:=by rw[cz];exact f1
   have bk:=r'.back src hd' f1' λi hi=>by
    rw[cz];rw[mL]at hi;split at hi
    ·cases hi
    ·rename_i hni;rw[jO,show n+(i - n)=i by omega]at hi;exact hown i hi
   have ln:(im n Sv.un++ρ2.drop n).length=n+js.length:=by
    have:=rr.len;simp;omega
   rw[kU js ρ' n _ ln,z5 (by simp),cz]at bk;exact⟨bk.1,bk.2.1,f2.trans bk.2.2⟩
  refine hg _ (bst n σ js) (blkE n js ρ') H2 x _ _ _ pin rb (by rw[hs2];exact rx) h' λσ2 ρ2 h2 r2 l2 p2 o2=>?_;have hdrop:σ2.drop n=capt σ js:=by
   have:σ2.drop n=(bst n σ js).drop n:=by
    apply zI;intro i;rw[xK,xK];exact p2 (n+i) (decide_eq_true (by omega))
   rw[this];unfold bst;rw[z5 (by simp)]
  refine⟨hdrop,?_⟩;rcases h2 with h2 | h2
  ·refine .inl (he _ σ2 ρ2 H2 _ _ r2 h2 λr4 ρ4 v H4 h4 o4=>?_);obtain⟨r4',k4,i4⟩:=o4.inF;obtain⟨d,ρ5,h5,r5,k5,rv⟩:=oy r4' i4 h4;obtain⟨b1,b2,b3⟩:=ret σ2 ρ5 H4 r5 l2 hdrop λi hi=>(o2 i (k4.sb i (k5.sb i hi))).1
   exact⟨_,acc++[d],b1,k'.trans b2,(rd.same b2.vis).append (.one (rv.same b3)),by simp;omega,h5⟩
  ·refine .inr (hR _ σ2 ρ2 H2 _ _ r2 h2 λr4 ρ4 v H4 h4 o4=>?_);obtain⟨d,rfl,h4⟩:=h4;obtain⟨r4',k4,rv⟩:=o4;obtain⟨b1,b2,b3⟩:=ret σ2 ρ4 H4 r4' l2 hdrop λi hi=>(o2 i (k4.sb i hi)).1
   exact ok.rt _ _ _ v _ h4 ⟨b1,rv.same b3⟩
 ·rw[xB ge]at h';exact h'.elim
end
theorem ja {n:Nat}{js:List Nat}{c:En->Prop}{g:AG}{te tr:AE}{rt:R->En->Prop}(I:Nat->List D->En->Prop){ds:List D}(hc:∀k acc ρ,I k acc ρ->c ρ)
  (hs:∀(k:Nat) d acc ρ (N:List D->En->Prop),ds[k]? = some d->I k acc ρ->(∀acc' ρ',I (k+1) acc' ρ'->N acc' ρ') ->
   g d (blkE n js ρ) λρ1=>(te ρ1 λr ρ3=>sto [r.frz] ρ3 λes ρ4=>N (acc++es) (back ρ (js.map R.o) (ρ4.drop n)))∨tr ρ1 λr ρ3=>∃d,r = .d d/\rt (.d d) (back ρ (js.map R.o) (ρ3.drop n)))
  (hd:∀acc ρ,¬I ds.length acc ρ):∀ ρ,I 0 [] ρ->iD n js c g te tr rt ds [] ρ:=by
 have go:∀(es:List D) (k:Nat),ds.drop k=es->k<=ds.length->∀acc ρ,I k acc ρ->iD n js c g te tr rt es acc ρ:=by
  intro es;induction es with
  | nil =>
   intro k h hk acc ρ i;have:k=ds.length:=by
    have:=congrArg B6 h;rw[zP]at this;simp at this;omega
   subst this;exact absurd i (hd acc ρ)
  | cons d es ih =>
   intro k h hk acc ρ i;have hd':ds[k]? = some d:=by
    have:(ds.drop k)[0]? = some d:=by rw[h];rfl
    rwa [xK,Nat.add_zero]at this
   have lt:=(lm.mp hd').1;refine⟨hc k acc ρ i,hs k d acc ρ _ hd' i λacc' ρ' i'=>ih (k+1) ?_ lt acc' ρ' i'⟩;rw[<- List.drop_drop,h];rfl
 exact λρ i=>go ds 0 rfl (wp _) [] ρ i
end L2
namespace K44
open PySem PySem.Spec PyProof.Rows L2
def top (i:Nat):Stmt:=PySem.Challenge.pw_fewjoins_k44_nets_turned_about.main.body.getD i (.Pass ⟨0,0,0,0⟩)
abbrev cO:Stmt:=vf (top 7)
theorem m9:bI ["self", "at"] ["self", "at"] (aK cO):=⟨rfl,rfl,rfl,by decide +kernel,rfl,by decide +kernel,by decide +kernel⟩
abbrev du:Stmt:=vf (top 9)
theorem oG:bI ["self", "thing"] ["self", "thing"] (aK du):=⟨rfl,rfl,rfl,by decide +kernel,rfl,by decide +kernel,by decide +kernel⟩
abbrev jA:Stmt:=top 15
abbrev pj:List Str:=["one", "other"]
theorem oH:bI pj ["one", "other"] (aK jA):=⟨rfl,rfl,rfl,by decide +kernel,rfl,by decide +kernel,by decide +kernel⟩
abbrev eX:Stmt:=top 18
abbrev ia:List Str:=["many"]
theorem lq:bI ia ["many"] (aK eX):=⟨rfl,rfl,rfl,by decide +kernel,rfl,by decide +kernel,by decide +kernel⟩
abbrev g7:Stmt:=top 19
abbrev nF:List Str:=["one", "other"]
theorem m_:bI nF ["one", "other"] (aK g7):=⟨rfl,rfl,rfl,by decide +kernel,rfl,by decide +kernel,by decide +kernel⟩
abbrev bL:Stmt:=top 21
abbrev cX:List Str:=["net", "many", "joins", "outs", "uses", "rows", "made", "at", "a", "b", "got", "turned"]
theorem az:bI cX ["net"] (aK bL):=⟨rfl,rfl,rfl,by decide +kernel,rfl,by decide +kernel,by decide +kernel⟩
abbrev eY:Stmt:=top 22
abbrev ib:List Str:=["net", "many", "joins", "outs", "uses", "place", "out"]
theorem cq:bI ib ["net"] (aK eY):=⟨rfl,rfl,rfl,by decide +kernel,rfl,by decide +kernel,by decide +kernel⟩
abbrev cC:Stmt:=top 23
abbrev iP:List Str:=["thing", "uses", "rows", "made", "got", "use"]
theorem bj:bI iP ["thing", "uses", "rows", "made"] (aK cC):=⟨rfl,rfl,rfl,by decide +kernel,rfl,by decide +kernel,by decide +kernel⟩
abbrev gg:Stmt:=top 25
abbrev lL:List Str:=["_law_script"]
theorem lr:bI lL ["_law_script"] (aK gg):=⟨rfl,rfl,rfl,by decide +kernel,rfl,by decide +kernel,by decide +kernel⟩
abbrev gh:Stmt:=top 26
abbrev lM:List Str:=["_law_tape_here", "_law_many", "_law_found", "_law_spot", "_law_cells", "_law_cell", "_law_seed"]
theorem cu:bI lM ["_law_tape_here", "_law_many"] (aK gh):=⟨rfl,rfl,rfl,by decide +kernel,rfl,by decide +kernel,by decide +kernel⟩
abbrev d_:Stmt:=top 27
abbrev gm:List Str:=["_law_tape_here", "_law_most", "_law_joins_most", "_law_many", "_law_rows", "_law_joins", "_law_way", "_law_turn", "_law_a", "_law_b", "_law_outs"]
theorem bJ:bI gm ["_law_tape_here", "_law_most", "_law_joins_most"] (aK d_):=⟨rfl,rfl,rfl,by decide +kernel,rfl,by decide +kernel,by decide +kernel⟩
abbrev eZ:Stmt:=top 28
abbrev ie:List Str:=["_law_net_here", "_law_taken", "_law_a", "_law_b", "_law_outs"]
theorem dc:bI ie ["_law_net_here"] (aK eZ):=⟨rfl,rfl,rfl,by decide +kernel,rfl,by decide +kernel,by decide +kernel⟩
abbrev gb:Stmt:=top 29
abbrev lK:List Str:=["_law_net_here", "_law_kind", "_law_value", "_law_found", "e", "_law_some", "_law_others"]
theorem bo:bI lK ["_law_net_here"] (aK gb):=⟨rfl,rfl,rfl,by decide +kernel,rfl,by decide +kernel,by decide +kernel⟩
abbrev dz:Stmt:=top 30
abbrev e7:List Str:=["_law_net_here", "_law_many", "_law_joins", "_law_outs", "_law_rows", "_law_found", "_law_got", "_law_thing", "_law_uses", "_law_at", "_law_here", "_law_use"]
theorem bE:bI e7 ["_law_net_here"] (aK dz):=⟨rfl,rfl,rfl,by decide +kernel,rfl,by decide +kernel,by decide +kernel⟩
abbrev sr:Stmt:=top 31
abbrev uL:List Str:=["_law_script", "_law_tape_here", "_law_turn", "_law_net_here", "_law_outs"]
theorem gu:bI uL ["_law_script"] (aK sr):=⟨rfl,rfl,rfl,by decide +kernel,rfl,by decide +kernel,by decide +kernel⟩
section
variable {P:v3}{w:wz}{K:ac}{mg:Str->Option bi}{base:Heap}
theorem lH (D:DefN K mg "_law_tape" gg ["_law_script"])(B:BI mg):OkN P w K mg base 1 "_law_tape" ["_law_script"] (spA K tS):=by
 refine OkN.imp (sp:=oA K) ?_ rX;refine D.ok lr (λvs H Q E h=>?_) (λf cdv A outer s H vs Q E hr h=>?_)
 ·obtain⟨a,ns,rfl,_⟩:=h;rfl
 ·obtain⟨a,ns,rfl,hS,k⟩:=h;refine⟨_,(aV (cm (sH (jH cp (dJ (eW K) (pv 0) fv (eA aG)) (jH cp aG (jH cp aG sF))) rfl rfl (by simp) (by decide)))),?_⟩;intro t ht;have s0:Same H (upd H t (.dK [])):=(Same.refl H).new ht;refine⟨_,rfl,63,rfl,a,_,rfl,s0.seq hS,λl hl=>?_⟩;have ntl:t≠l:=bg aX hl;refine⟨by rw[aI ntl,aX],[(Sum.inr ("cells" : Str),V.ref l),(Sum.inr ("spot" : Str),V.int 0),(Sum.inr ("left" : Str),V.int 0)],rfl,(by show 3<=15;decide),?_⟩;rw[oh];have fin:=k t l ht (s0.free hl) ntl;have eq:upd (upd (upd H t (.dK [])) l (.lst (cutV (ns.map V.int) none (some 63)))) t (.dK (cj l 0 0))=upd (upd H l (.lst ((ns.take 63).map V.int))) t (.dK (cj l 0 0)):=by
   rw[vJ];funext b;unfold upd;by_cases h1:b=t
   ·rw[if_pos h1,if_pos h1]
   ·rw[if_neg h1,if_neg h1,if_neg h1]
  rw[eq];exact fin
theorem lI (D:DefN K mg "_law_draw" gh ["_law_tape_here", "_law_many"])(B:BI mg):OkN P w K mg base 1 "_law_draw" ["_law_tape_here", "_law_many"] (spA K qX):=by
 refine OkN.imp (sp:=oB K) ?_ tG;refine D.ok cu (λvs H Q E h=>?_) (λf cdv A outer s H vs Q E hr h=>?_)
 ·obtain⟨t,c,m,sp,lf,ns,n,rfl,_⟩:=h;rfl
 ·obtain⟨t,c,m,sp,lf,ns,n,rfl,hT,hC,h1,h2,h3,hn,hm,k⟩:=h;have hu:=eK hr;have hm0:=hm.1;have gl:DGet H t (kV (Sum.inr "left")) (some (.int lf)):=by rw[<- oj (c:=c) (sp:=sp)];exact DGet.k hT
  have gs:DGet H t (kV (Sum.inr "spot")) (some (.int sp)):=by rw[<- og (c:=c) (lf:=lf)];exact DGet.k hT
  have gc:DGet H t (kV (Sum.inr "cells")) (some (.ref c)):=by rw[<- iU (sp:=sp) (lf:=lf)];exact DGet.k hT
  refine⟨_,(aA (eh (bw gk (fw hu (pv 0) cp (λ_ _=>rfl)) aG (bO _))
   (aA (a_ (i:=2) cu.nd rfl (by first | exact Or.inl rfl | exact Or.inr rfl) (bf fJ (fw hu (pv 0) cp (λ_ _=>rfl)) (pv 1)))
   (aA (gi hu (pv 0) cp (bf jK (fw hu (pv 0) cp (λ_ _=>rfl)) (pv 1)) rfl)
   (aV (cm (pv 2)))))
   bY)
   (aA (a_ (i:=3) cu.nd rfl (by first | exact Or.inl rfl | exact Or.inr rfl) (fw hu (pv 0) cp (λ_ _=>rfl)))
   (aA (gi hu (pv 0) cp (bf bN (pv 3) aG) rfl)
   (aA (a_ (i:=4) cu.nd rfl (by first | exact Or.inl rfl | exact Or.inr rfl) (fw hu (pv 0) cp (λ_ _=>rfl)))
   (aA (a_ (i:=5) cu.nd rfl (by first | exact Or.inl rfl | exact Or.inr rfl) aG)
   (aA (eh (bw gk (aJ (aN K) rfl B.len_ bu (af (pv 4) ar)) aG (bO _))
   (aV (a_ (i:=5) cu.nd rfl (by first | exact Or.inl rfl | exact Or.inr rfl) (bA (aO K) (pv 4) (bf fJ (pv 3) (aJ (aN K) rfl B.len_ bu (af (pv 4) ar))) (λ_ _=>rfl))))
   bY)
   (aA (eh (PW.pt (ux (bw vG (pv 5) (bf o9 aG aG) (bO _)) (sx (bw vF (pv 3) (aJ (aN K) rfl B.len_ bu (af (pv 4) ar)) (bO _)))))
   (aA (gi hu (pv 0) cp (bf jK (bf cF (pv 5) (bf o9 aG aG)) (pv 1)) rfl)
   (aV (cm (bf fJ (bf cF (pv 5) (bf o9 aG aG)) (pv 1)))))
   bY)
   (aA (a_ (i:=6) cu.nd rfl (by first | exact Or.inl rfl | exact Or.inr rfl) (bf fJ (bf ky (bf bN (bf bN (bf bN (bf fJ (pv 5) aG) (bf ky (bf ky aG (pv 3)) (pv 3))) (bf ky aG (pv 3))) aG) aG) aG))
   (aV (cm (bf fJ (bf jK (bf fJ (bf ky (pv 6) (bf bN (pv 6) aG)) aG) aG) (pv 1)))))))))))),?_⟩
  refine⟨_,rfl,t,_,rfl,gl,_,_,rfl,rfl,_,rfl,ite2 (λhl=>?_) λhl=>?_⟩
  ·refine⟨_,rfl,t,_,rfl,gl,_,rfl,_,_,rfl,rfl,hm0,?_⟩;refine⟨_,rfl,t,_,rfl,gl,_,rfl,_,_,rfl,rfl,hm,_,rfl,t,_,rfl,DPut.k (k:=Sum.inr "left") hT (fG (by show 3<=1000;decide)),_,rfl,?_⟩;rw[jD];exact drawn (Q:=λz H=>Q (.int z) H) hm0 λr hr=>k r _ _ hr h1 (by omega) (Bq h3 (AN hm0))
  ·refine⟨_,rfl,t,_,rfl,gs,?_⟩;refine⟨_,rfl,_,_,rfl,rfl,_,rfl,t,_,rfl,DPut.k (k:=Sum.inr "spot") hT (fG (by show 3<=1000;decide)),?_⟩;rw[qv];have hT1:(upd H t (.dK (cj c (sp+1) lf))) t=some (.dK (cj c (sp+1) lf)):=aX;have hC1:SqL K (upd H t (.dK (cj c (sp+1) lf))) c (ns.map V.int):=Grow.seq (Grow.refl.upd _) hT hC;have gr1:Grow t H (upd H t (.dK (cj c (sp+1) lf))):=Grow.refl.upd _;have gc1:DGet (upd H t (.dK (cj c (sp+1) lf))) t (kV (Sum.inr "cells")) (some (.ref c)):=by rw[<- iU (sp:=sp+1) (lf:=lf)];exact DGet.k hT1
   have kk:∀(r:Nat) (lf':Int),(r:Int)<m->0<=lf'->Q (.int (r:Nat)) (upd (upd H t (.dK (cj c (sp+1) lf))) t (.dK (cj c (sp+1) lf'))):=λr lf' hr hl=>by rw[rQ];exact k r _ _ hr (by omega) (by omega) hl
   have kl:∀(r:Nat),(r:Int)<m->Q (.int (r:Nat)) (upd H t (.dK (cj c (sp+1) lf))):=λr hr=>k r _ _ hr (by omega) (by omega) h3;generalize upd H t (.dK (cj c (sp+1) lf))=H1 at hT1 hC1 gr1 gc1 kk kl ⊢;refine⟨_,rfl,t,_,rfl,gc1,?_⟩;have p18:(10:Int)^(18:Int).toNat=1000000000000000000:=by decide
   have fits:CPow 10 18:=⟨by decide,by decide,by decide⟩
   have pos1:(0:Int)<2147483629:=by decide
   have pos2:(0:Int)<2147483647:=by decide
   have spOk:-(2^64)<sp/\sp<2^64:=by omega
   refine⟨_,rfl,c,_,rfl,.inl hC1,_,_,rfl,rfl,_,rfl,ite2 (λhl=>?_) λhl=>?_⟩
   ·have hl':0<ns.length:=by
     have:=of_decide_eq_true hl;rw[db]at this;omega
    have el:((ns.map V.int).length:Int)=ns.length:=by rw[db]
    have hb0:0<=sp % ((ns.map V.int).length:Int):=Do _ (by omega);have hb1:sp % ((ns.map V.int).length:Int)<((ns.map V.int).length:Int):=CT _ (by omega);obtain⟨j,hj⟩:=yN hb0;have hj':j<ns.length:=by rw[hj]at hb1;omega
    refine⟨_,rfl,_,rfl,_,rfl,c,_,rfl,.inl hC1,_,_,rfl,rfl,(by show(0:Int)<((ns.map V.int).length:Int);omega),.inl ⟨c,_,_,V.int ns[j],rfl,rfl,hC1,?_,?_⟩⟩
    ·rw[hj];exact gq (by simp[hj'])
    ·generalize ns[j]=z;refine⟨_,rfl,_,_,rfl,rfl,fits,_,_,rfl,rfl,_,rfl,ite2 (λhz=>?_) λhz=>?_⟩
     ·refine⟨_,rfl,_,rfl,c,_,rfl,.inl hC1,_,_,rfl,rfl,_,rfl,ite2 (λhs=>?_) λhs=>?_⟩
      ·refine⟨_,rfl,_,_,rfl,rfl,fits,_,_,rfl,rfl,_,rfl,_,_,rfl,rfl,hm,_,rfl,t,_,rfl,DPut.k (k:=Sum.inr "left") hT1 (fG (by show 3<=1000;decide)),?_⟩;rw[jD];refine⟨_,rfl,_,_,rfl,rfl,fits,_,_,rfl,rfl,_,rfl,_,_,rfl,rfl,hm0,?_⟩;refine drawn (Q:=λz H=>Q (.int z) H) hm0 λr hr=>kk r _ hr (Bq ?_ (AN hm0));have hz':=of_decide_eq_true hz;rw[p18]at hz' ⊢;omega
      ·refine⟨_,rfl,_,_,rfl,rfl,pos1,_,rfl,_,_,rfl,rfl,.inl ⟨by decide,by decide⟩,_,rfl,_,_,rfl,rfl,.inr spOk,_,_,rfl,rfl,_,rfl,_,_,rfl,rfl,.inl ⟨by decide,by decide⟩,_,_,rfl,rfl,_,_,rfl,rfl,_,_,rfl,rfl,.inr ⟨by decide,by decide⟩,_,_,rfl,rfl,pos2,?_⟩;refine⟨_,rfl,_,rfl,_,_,rfl,rfl,_,_,rfl,rfl,.inl mn,_,_,rfl,rfl,pos1,_,_,rfl,rfl,dv64,_,rfl,_,_,rfl,rfl,hm0,?_⟩;exact drawn (Q:=λz H=>Q (.int z) H) hm0 λr hr=>kl r hr
     ·refine⟨_,rfl,_,_,rfl,rfl,pos1,_,rfl,_,_,rfl,rfl,.inl ⟨by decide,by decide⟩,_,rfl,_,_,rfl,rfl,.inr spOk,_,_,rfl,rfl,_,rfl,_,_,rfl,rfl,.inl ⟨by decide,by decide⟩,_,_,rfl,rfl,_,_,rfl,rfl,_,_,rfl,rfl,.inr ⟨by decide,by decide⟩,_,_,rfl,rfl,pos2,?_⟩;refine⟨_,rfl,_,rfl,_,_,rfl,rfl,_,_,rfl,rfl,.inl mn,_,_,rfl,rfl,pos1,_,_,rfl,rfl,dv64,_,rfl,_,_,rfl,rfl,hm0,?_⟩;exact drawn (Q:=λz H=>Q (.int z) H) hm0 λr hr=>kl r hr
   ·refine⟨_,rfl,_,_,rfl,rfl,fits,_,_,rfl,rfl,_,rfl,ite2 (λhz=>?_) λhz=>?_⟩
    ·refine⟨_,rfl,_,rfl,c,_,rfl,.inl hC1,_,_,rfl,rfl,_,rfl,ite2 (λhs=>?_) λhs=>?_⟩
     ·refine⟨_,rfl,_,_,rfl,rfl,fits,_,_,rfl,rfl,_,rfl,_,_,rfl,rfl,hm,_,rfl,t,_,rfl,DPut.k (k:=Sum.inr "left") hT1 (fG (by show 3<=1000;decide)),?_⟩;rw[jD];refine⟨_,rfl,_,_,rfl,rfl,fits,_,_,rfl,rfl,_,rfl,_,_,rfl,rfl,hm0,?_⟩;refine drawn (Q:=λz H=>Q (.int z) H) hm0 λr hr=>kk r _ hr (Bq ?_ (AN hm0));have hz':=of_decide_eq_true hz;rw[p18]at hz' ⊢;omega
     ·refine⟨_,rfl,_,_,rfl,rfl,pos1,_,rfl,_,_,rfl,rfl,.inl ⟨by decide,by decide⟩,_,rfl,_,_,rfl,rfl,.inr spOk,_,_,rfl,rfl,_,rfl,_,_,rfl,rfl,.inl ⟨by decide,by decide⟩,_,_,rfl,rfl,_,_,rfl,rfl,_,_,rfl,rfl,.inr ⟨by decide,by decide⟩,_,_,rfl,rfl,pos2,?_⟩;refine⟨_,rfl,_,rfl,_,_,rfl,rfl,_,_,rfl,rfl,.inl mn,_,_,rfl,rfl,pos1,_,_,rfl,rfl,dv64,_,rfl,_,_,rfl,rfl,hm0,?_⟩;exact drawn (Q:=λz H=>Q (.int z) H) hm0 λr hr=>kl r hr
    ·refine⟨_,rfl,_,_,rfl,rfl,pos1,_,rfl,_,_,rfl,rfl,.inl ⟨by decide,by decide⟩,_,rfl,_,_,rfl,rfl,.inr spOk,_,_,rfl,rfl,_,rfl,_,_,rfl,rfl,.inl ⟨by decide,by decide⟩,_,_,rfl,rfl,_,_,rfl,rfl,_,_,rfl,rfl,.inr ⟨by decide,by decide⟩,_,_,rfl,rfl,pos2,?_⟩;refine⟨_,rfl,_,rfl,_,_,rfl,rfl,_,_,rfl,rfl,.inl mn,_,_,rfl,rfl,pos1,_,_,rfl,rfl,dv64,_,rfl,_,_,rfl,rfl,hm0,?_⟩;exact drawn (Q:=λz H=>Q (.int z) H) hm0 λr hr=>kl r hr
end
end K44
set_option maxHeartbeats 1000000
namespace K44
open PySem PySem.Spec PyProof.Rows L2
theorem t4 {i j:Nat}{d1 d2:D}{ρ:En}{k:En->Prop}(h:k (pt (pt ρ i (.vl d1)) j (.vl d2))):nR 2 (fO (fo i) (fO (fo j) gaNil)) (.tup [d1,d2]) ρ k:=h
theorem gaN1 {i:Nat}{a:D}{ρ:En}{M:En->Prop}(h:M (pt ρ i (.vl a))):fo i a ρ M:=h
def usO (os:List Nat)(t:Nat):List Nat:=(wF os.length).filter λp=>os.getD p 0==t
def dH (N:Net):List (List Nat):=(wF (N.m+N.js.length)).map (usO N.os)
def fV:ASp:=λss q=>∃N:Net,ss=[.vl (netD N)]/\dm N/\q (.n (.ll ((dH N).map natsD))) [.vl (netD N)]
def juS:List Nat->Nat->List Nat->List (Nat×Nat)->Nat×List Nat×List (Nat×Nat)
 | [],g,R,M=>(g,R,M)
 | u::us,g,R,M=>juS us R.length (R++[R.getD g 0 ^^^ R.getD u 0]) (M++[(min g u,max g u)])
def juOk:List Nat->Nat->List Nat->Prop
 | [],_,_=>True
 | u::us,g,R=>R.getD g 0≠R.getD u 0/\juOk us R.length (R++[R.getD g 0 ^^^ R.getD u 0])
def k6:ASp:=λss q=>∃(t u:Nat) (us R:List Nat) (M:List (Nat×Nat)),ss=[nv t,.vl (.lst (natsD (u::us))),.ow (natsD R),.ow (M.map L2.pairD)]/\(∀x∈u::us,x<R.length)/\juOk us u R/\R.length+us.length<=500000/\M.length+us.length<=500000 /\
 q (.d (nD (juS us u R M).1)) [nv t,.vl (.lst (natsD (u::us))),.ow (natsD (juS us u R M).2.1),.ow ((juS us u R M).2.2.map L2.pairD)]
def usP (os:List Nat)(k t:Nat):List Nat:=(wF k).filter λp=>os.getD p 0==t
def usA (os:List Nat)(n k:Nat):List (List Nat):=(wF n).map (usP os k)
theorem ql (os:List Nat)(k t:Nat):usP os (k+1) t=usP os k t++if os.getD k 0==t then[k]else[]:=by
 unfold usP;rw[yI,zy];congr 1;rw[AV,zZ]
theorem q8 {os:List Nat}{n k t:Nat}(h:t<n):(usA os n k).getD t []=usP os k t:=by
 unfold usA;rw[li,sB,xg h];rfl
theorem jn (os:List Nat)(n k:Nat):(usA os n k).length=n:=by simp[usA]
theorem jk (os:List Nat)(k t:Nat):(usP os k t).length<=k:=by
 unfold usP;exact wo (z6 _ _) (by simp)
theorem rP {os:List Nat}{n k:Nat}(h:os.getD k 0<n):(usA os n k).set (os.getD k 0) ((usA os n k).getD (os.getD k 0) []++[k])=usA os n (k+1):=by
 rw[q8 h];apply zI;intro t;rcases wu t n with q | q
 ·have e:(usA os n (k+1))[t]? = some (usP os (k+1) t):=by unfold usA;rw[sB,xg q];rfl
  rw[e,ql];by_cases z:t=os.getD k 0
  ·subst z;rw[wO (by rw[jn];exact h)];simp
  ·rw[pc (xc z)];unfold usA;rw[sB,xg q];have:(os.getD k 0==t)=false:=by rw[beq_eq_false_iff_ne];exact xc z
   rw[this];simp
 ·rw[xh (by rw[xF,jn];exact q),xh (by rw[jn];exact q)]
theorem gQ:∀(xs:List Nat) (y g:Nat) (R:List Nat) (M:List (Nat×Nat)),juS (xs++[y]) g R M=((juS xs g R M).2.1.length,(juS xs g R M).2.1++[(juS xs g R M).2.1.getD (juS xs g R M).1 0 ^^^ (juS xs g R M).2.1.getD y 0],(juS xs g R M).2.2++[(min (juS xs g R M).1 y,max (juS xs g R M).1 y)])
 | [],y,g,R,M=>rfl
 | x::xs,y,g,R,M=>gQ xs y _ _ _
theorem eI:∀(xs:List Nat) (g:Nat) (R:List Nat) (M:List (Nat×Nat)),(juS xs g R M).2.1.length=R.length+xs.length/\(juS xs g R M).2.2.length=M.length+xs.length
 | [],g,R,M=>⟨rfl,rfl⟩
 | x::xs,g,R,M=>by
  obtain⟨a,b⟩:=eI xs R.length (R++[R.getD g 0 ^^^ R.getD x 0]) (M++[(min g x,max g x)]);rw[wb,wH]at a b;rw[wn];exact⟨a.trans (by omega),b.trans (by omega)⟩
theorem kD:∀(xs:List Nat) {g:Nat} {R:List Nat} {M:List (Nat×Nat)},g<R.length->(juS xs g R M).1<(juS xs g R M).2.1.length
 | [],_,_,_,h=>h
 | x::xs,g,R,M,_=>kD xs (by rw[wb,wH];omega)
theorem jN:∀(xs:List Nat) {y g:Nat} {R:List Nat} {ys:List Nat} (M:List (Nat×Nat)),juOk (xs++y::ys) g R->(juS xs g R M).2.1.getD (juS xs g R M).1 0≠(juS xs g R M).2.1.getD y 0
 | [],_,_,_,_,_,h=>h.1
 | x::xs,_,_,_,_,M,h=>jN xs _ h.2
def juU (us:List Nat)(R:List Nat)(M:List (Nat×Nat)):Nat×List Nat×List (Nat×Nat):=juS us.tail (us.headD 0) R M
def qF (us R:List Nat):Prop:=us≠[]/\juOk us.tail (us.headD 0) R
def app (U:List (List Nat))(t g:Nat):List (List Nat):=U.set t (U.getD t []++[g])
def tuAt (N:Net):Nat->List (List Nat)×List Nat×List (Nat×Nat)
 | 0=>(dH N,aZ N.os.length,[])
 | k+1=>let S:=tuAt N k
  let J:=juU (S.1.getD (N.m+(N.js.length - 1 - k)) []) S.2.1 S.2.2
  (app (app S.1 (N.js.getD (N.js.length - 1 - k) (0,0)).1 J.1) (N.js.getD (N.js.length - 1 - k) (0,0)).2 J.1,J.2.1,J.2.2)
def tgAt (N:Net):Nat->List Nat×List Nat×List (Nat×Nat)
 | 0=>([],(tuAt N N.js.length).2.1,(tuAt N N.js.length).2.2)
 | k+1=>let S:=tgAt N k
  let J:=juU ((tuAt N N.js.length).1.getD (N.m - 1 - k) []) S.2.1 S.2.2
  (S.1++[J.1],J.2.1,J.2.2)
def qo (N:Net):Net:=⟨N.os.length,(tgAt N N.m).2.2,(tgAt N N.m).1.reverse⟩
structure TuOk (N:Net):Prop where
 j:∀k,k<N.js.length->qF ((tuAt N k).1.getD (N.m+(N.js.length - 1 - k)) []) (tuAt N k).2.1
 g:∀k,k<N.m->qF ((tuAt N N.js.length).1.getD (N.m - 1 - k) []) (tgAt N k).2.1
def l5:ASp:=λss q=>∃N:Net,ss=[.vl (netD N)]/\dm N/\N.os.length<=12/\N.js.length+N.os.length<=N.m+132/\TuOk N/\q (.d (netD (qo N))) [.vl (netD N)]
theorem e6:∀xs:List Nat,noLs (natsD xs)=true
 | []=>rfl
 | x::xs=>by
  show(true&&noLs (natsD xs))=true;rw[e6 xs];rfl
theorem fL:∀js:List (Nat×Nat),noLs (js.map L2.pairD)=true
 | []=>rfl
 | p::js=>by
  show(noL (L2.pairD p)&&noLs (js.map L2.pairD))=true;rw[fL js];rfl
theorem sS (N:Net):noL (netD N)=true:=by
 show(true&&(noL (.tup (N.js.map L2.pairD))&&(noL (.tup (natsD N.os))&&true)))=true;have a:noL (.tup (N.js.map L2.pairD))=true:=by unfold noL;exact fL _
 have b:noL (.tup (natsD N.os))=true:=by unfold noL;exact e6 _
 rw[a,b];rfl
structure qV (N:Net)(k:Nat)(S:List (List Nat)×List Nat×List (Nat×Nat)):Prop where
 l:S.1.length=N.m+N.js.length
 r:∀us∈S.1,∀x∈us,x<S.2.1.length
 u:∀us∈S.1,us.length<=24+2*k
 rl:S.2.1.length=N.os.length+S.2.2.length
 ml:S.2.2.length<=300*k
theorem dj (U:List (List Nat))(t g:Nat):(app U t g).length=U.length:=by unfold app;rw[xF]
theorem jZ {U:List (List Nat)}{t g:Nat}{us:List Nat}(h:us∈app U t g):us∈U∨((U.getD t []∈U)/\us=U.getD t []++[g]):=by
 unfold app at h;rcases wu t U.length with q | q
 ·rcases List.mem_or_eq_of_mem_set h with z | z
  ·exact .inl z
  ·refine .inr ⟨?_,z⟩;rw[li,dL q];exact yx q
 ·rw[yG q]at h;exact .inl h
theorem n9 {N:Net}{k:Nat}{S:List (List Nat)×List Nat×List (Nat×Nat)}(I:qV N k S)(hk:k<=132){us:List Nat}(hu:us∈S.1)(hne:us≠[])(a b:Nat) :
  qV N (k+1) (app (app S.1 a (juU us S.2.1 S.2.2).1) b (juU us S.2.1 S.2.2).1,(juU us S.2.1 S.2.2).2.1,(juU us S.2.1 S.2.2).2.2):=by
 obtain⟨u,us',rfl⟩:=wE hne;have h1:=eI us' u S.2.1 S.2.2;have hu0:=I.r _ hu u (wV ..);have h2:=kD us' (M:=S.2.2) hu0;have hul:=I.u _ hu;have e:juU (u::us') S.2.1 S.2.2=juS us' u S.2.1 S.2.2:=rfl;rw[e];rw[wn]at hul;have rl:=I.rl;have ml:=I.ml;have mem:∀vs∈app (app S.1 a (juS us' u S.2.1 S.2.2).1) b (juS us' u S.2.1 S.2.2).1,(∀x∈vs,x<(juS us' u S.2.1 S.2.2).2.1.length)/\vs.length<=24+2*(k+1):=λvs hv=>by
  have one:∀ {U:List (List Nat)} {t n:Nat},(∀vs∈U,(∀x∈vs,x<(juS us' u S.2.1 S.2.2).2.1.length)/\vs.length<=n)->∀vs∈app U t (juS us' u S.2.1 S.2.2).1,(∀x∈vs,x<(juS us' u S.2.1 S.2.2).2.1.length)/\vs.length<=n+1:=λ{U t n} hU vs hv=>by
   rcases jZ hv with z | ⟨z,rfl⟩
   ·exact⟨(hU vs z).1,Nat.le_succ_of_le (hU vs z).2⟩
   ·refine⟨λx hx=>?_,by rw[wb,wH];have:=(hU _ z).2;omega⟩;rcases xM.mp hx with q | q
    ·exact(hU _ z).1 x q
    ·rw[w9.mp q];exact h2
  have:=one (one (U:=S.1) (n:=24+2*k) λvs hv=>⟨λx hx=>by have:=I.r vs hv x hx;omega,I.u vs hv⟩) vs hv;exact⟨this.1,by omega⟩
 refine⟨by rw[dj,dj];exact I.l,λvs hv=>(mem vs hv).1,λvs hv=>(mem vs hv).2,?_,?_⟩
 ·show(juS us' u S.2.1 S.2.2).2.1.length=N.os.length+(juS us' u S.2.1 S.2.2).2.2.length;omega
 ·show(juS us' u S.2.1 S.2.2).2.2.length<=300*(k+1);omega
theorem bz {U:List (List Nat)}{t:Nat}(h:t<U.length):U.getD t []∈U:=by
 rw[li,dL h];exact yx h
theorem iS {N:Net}(hN:dm N)(ok:TuOk N):∀k,k<=N.js.length->qV N k (tuAt N k)
 | 0,_=>by
  have o24:=hN.o24;refine⟨?_,λus hu x hx=>?_,λus hu=>?_,?_,wp _⟩
  ·show(dH N).length=_;simp[dH]
  ·obtain⟨t,_,rfl⟩:=zq.mp hu;show x<(aZ N.os.length).length;rw[df];exact xT.mp (y_.mp hx).1
  ·obtain⟨t,_,rfl⟩:=zq.mp hu;have:=jk N.os N.os.length t;exact wo this (by omega)
  ·show(aZ N.os.length).length=_;rw[df];rfl
 | k+1,h=>by
  have I:=iS hN ok k (by omega);have jl:=hN.jl;have lt:N.m+(N.js.length - 1 - k)<(tuAt N k).1.length:=by rw[I.l];omega
  exact n9 I (by omega) (bz lt) (ok.j k (by omega)).1 _ _
theorem sv4 (N:Net)(R:List Nat)(M:List (Nat×Nat)){x a b c d e:Sv}(h:svNs [a,b,c,d,e]=true):svX 4 [.vl (netD N),nv N.m,.vl (.tup (N.js.map L2.pairD)),.vl (.tup (natsD N.os)),x,.ow (natsD R),.ow (M.map L2.pairD),a,b,c,d,e]=true:=by
 show(noL (netD N)&&(true&&(noL (.tup (N.js.map L2.pairD))&&(noL (.tup (natsD N.os))&&(true&&(noLs (natsD R)&&(noLs (M.map L2.pairD)&&svNs [a,b,c,d,e])))))))=true;have e1:noL (.tup (N.js.map L2.pairD))=true:=by unfold noL;exact fL _
 have e2:noL (.tup (natsD N.os))=true:=by unfold noL;exact e6 _
 rw[sS,e1,e2,e6,fL,h];rfl
theorem cQ (U:List (List Nat)):noLL (U.map natsD)=true:=zQ.mpr λxs h=>by
 obtain⟨us,_,rfl⟩:=zq.mp h;exact e6 us
theorem nI {U:List (List Nat)}{t:Nat}(h:t<U.length):atI ((U.map natsD).map D.lst) ((t:Nat):Int)=some (.lst (natsD (U.getD t []))):=by
 refine gq ?_;rw[sB,sB,dL h,li,dL h];rfl
theorem fb (U:List (List Nat))(t g:Nat):(U.map natsD).set t ((U.map natsD).getD t []++[nD g])=(app U t g).map natsD:=by
 have gd:(U.map natsD).getD t []=natsD (U.getD t []):=by
  rw[li,li,sB];cases U[t]? <;> rfl
 unfold app;rw[gd,<- bP,DN]
theorem i7 (U:List (List Nat))(t:Nat):((U.map natsD).getD t []).length=(U.getD t []).length:=by
 rw[li,li,sB];cases U[t]? <;> simp
theorem n_ {N:Net}(hN:dm N)(ok:TuOk N):∀k,k<=N.m->(tgAt N k).2.1.length=N.os.length+(tgAt N k).2.2.length/\(tgAt N k).2.2.length<=300*(N.js.length+k)/\(tuAt N N.js.length).2.1.length<=(tgAt N k).2.1.length/\(tgAt N k).1.length=k
 | 0,_=>by
  have I:=iS hN ok N.js.length (ms _);exact⟨I.rl,by have:=I.ml;show(tuAt N N.js.length).2.2.length<=_;omega,ms _,rfl⟩
 | k+1,h=>by
  obtain⟨a,b,c,d⟩:=n_ hN ok k (by omega);have I:=iS hN ok N.js.length (ms _);have jl:=hN.jl;have lt:N.m - 1 - k<(tuAt N N.js.length).1.length:=by rw[I.l];omega
  have hm:=bz lt;have g:=(ok.g k (by omega)).1;obtain⟨u,us',e⟩:=wE g;have hU:=I.u _ hm;have ht:tgAt N (k+1)=((tgAt N k).1++[(juS us' u (tgAt N k).2.1 (tgAt N k).2.2).1],(juS us' u (tgAt N k).2.1 (tgAt N k).2.2).2.1,(juS us' u (tgAt N k).2.1 (tgAt N k).2.2).2.2):=by
   rw[tgAt,e];rfl
  have h1:=eI us' u (tgAt N k).2.1 (tgAt N k).2.2;rw[e,wn]at hU;rw[ht];refine⟨?_,?_,?_,?_⟩
  ·show(juS us' u (tgAt N k).2.1 (tgAt N k).2.2).2.1.length=_+(juS us' u (tgAt N k).2.1 (tgAt N k).2.2).2.2.length;omega
  ·show(juS us' u (tgAt N k).2.1 (tgAt N k).2.2).2.2.length<=_;omega
  ·show _<=(juS us' u (tgAt N k).2.1 (tgAt N k).2.2).2.1.length;omega
  ·show((tgAt N k).1++[_]).length=k+1;rw[wb,wH,d]
section
variable {P:v3}{w:wz}{K:ac}{mg:Str->Option bi}{base:Heap}
theorem pf (dn:DefN K mg "joined" jA ["one", "other"])(B:BI mg):OkN P w K mg base 1 "joined" ["one", "other"] (spA K iI):=by
 refine dn.aok2 (k:=0) oH (λj=>j==0||j==1) [] iI rfl (λf cdv A outer s H E hr=>have hu:=eK hr;⟨_,(aV (cm (bf o7 (pv 0) (pv 1)))),(bS (aD aP aj aj))⟩) ?_;rintro ss q ⟨x,y,rfl,hq⟩;refine⟨rfl,rfl,?_⟩;show q (.d (.int (zm x y))) [nv x,nv y];rw[nZ];exact hq
theorem lD (dn:DefN K mg "own_rows" eX ["many"])(B:BI mg):OkN P w K mg base 1 "own_rows" ["many"] (spA K SOwn):=by
 refine dn.aok2 (k:=0) lq (λj=>j==0) [] SOwn rfl (λf cdv A outer s H E hr=>have hu:=eK hr;⟨_,(aV (cm (hZ ["given"] [] rfl (Blk.of (aK eX) ia) (cn rfl B.range_ (af (pv 0) ar)) (λ_ _ _ _ nd=>(aS (i:=0) nd rfl (by first | exact Or.inl rfl | exact Or.inr rfl))) (λ_ _ _ _=>fu) (λ_ _ _ _=>(bf o8 aG (pv 0)))))),(bS (dr (cg (aa aj aq)) (aF rfl) eU (aD h9 aE aj)))⟩) ?_;rintro ss q ⟨m,rfl,hm,hq⟩;refine⟨rfl,rfl,⟨by omega,by omega⟩,by rw[cb];omega,?_⟩;refine fR (λk=>.int (1 <<< k:Nat)) trivial (λk acc N hk hN=>?_) ?_
 ·rw[AM];refine⟨⟨by omega,by omega,by decide⟩,?_⟩;show N (acc++[.int ((1:Int)*2^((k:Int).toNat))]) _;rw[lp];exact hN
 ·rw[xE];have e:((wF m).map λk=>D.int (1 <<< k:Nat))=natsD (aZ m):=by unfold aZ natsD;rw[yw];rfl
  rw[e];exact hq
theorem nB (dn:DefN K mg "joining" g7 ["one", "other"])(B:BI mg):OkN P w K mg base 1 "joining" ["one", "other"] (spA K fW):=by
 refine dn.aok2 (k:=0) m_ (λj=>j==0||j==1) [] fW rfl (λf cdv A outer s H E hr=>have hu:=eK hr;⟨_,(aV (cm (cx (af (aJ (iF rfl) rfl B.min_ p0 (af (pv 0) (af (pv 1) ar))) (af (aJ (dF rfl) rfl B.max_ jj (af (pv 0) (af (pv 1) ar))) ar))))),(bS (bR (aa (bb jU (aa aj (aa aj aq))) (aa (bb e_ (aa aj (aa aj aq))) aq))))⟩) ?_;rintro ss q ⟨a,b,rfl,hq⟩;refine⟨rfl,rfl,by simp,?_⟩;show q (.d (.tup [.int (if(b:Int)<(a:Int)then(b:Int)else(a:Int)),.int (if(b:Int) > (a:Int)then(b:Int)else(a:Int))])) [nv a,nv b];rw[minI,maxI];exact hq
theorem lE (dn:DefN K mg "out_uses" eY ["net"])(B:BI mg):OkN P w K mg base 1 "out_uses" ["net"] (spA K fV):=by
 refine dn.aok2 (k:=0) cq (λj=>j==0) [.un,.un,.un,.un,.un,.un] fV rfl (λf cdv A outer s H E hr=>have hu:=eK hr;⟨_,(aA (i5 (pv 0) (cE K (n:=3) rfl (aY (aS (i:=1) cq.nd rfl (by first | exact Or.inl rfl | exact Or.inr rfl)) (aY (aS (i:=2) cq.nd rfl (by first | exact Or.inl rfl | exact Or.inr rfl)) (aY (aS (i:=3) cq.nd rfl (by first | exact Or.inl rfl | exact Or.inr rfl)) cD)))))
  (aA (gH (jF (i:=4) ["thing"] [] cq.nd rfl (by first | exact Or.inl rfl | exact Or.inr rfl) rfl (Blk.of (aK eY) ib) (cn rfl B.range_ (af (bf bN (pv 1) (aJ (aN K) rfl B.len_ bu (af (pv 2) ar))) ar)) (λ_ _ _ _ nd=>(aS (i:=0) nd rfl (by first | exact Or.inl rfl | exact Or.inr rfl))) (λ_ _ _ _=>fu) (λ_ _ _ _=>(dv ar))))
  (aA (fm xz rfl (qz K rfl B.enumerate_ (af (pv 3) ar)) (cE K (n:=2) rfl (aY (aS (i:=5) cq.nd rfl (by first | exact Or.inl rfl | exact Or.inr rfl)) (aY (aS (i:=6) cq.nd rfl (by first | exact Or.inl rfl | exact Or.inr rfl)) cD)))
  (aV (gH (bM (cH K wc v_ v9 bx (bA (aO K) (pv 4) (pv 6) (λ_ _=>rfl)) (af (pv 5) ar))))))
  (aV (cm (pv 4)))))),(aw (f_ aj (bW (aM (aF rfl) (aM (aF rfl) (aM (aF rfl) bK (λ_ _ _=>bq)) (λ_ _ _=>bq)) (λ_ _ _=>bq))))
  (aw (oC (i:=4) (cg (aa (aD aP aj (bb aW (aa aj aq))) aq)) rfl)
  (aw (cA (pin:=(λj=>j==3)) (m7 (aa aj aq)) (bW (aM (aF rfl) (aM (aF rfl) bK (λ_ _ _=>bq)) (λ_ _ _=>bq)))
  (da (i:=4) (j:=6) (k:=5)))
  (oE (i:=4) rfl))))⟩) ?_
 rintro ss q ⟨N,rfl,hN,hq⟩;have jl:=hN.jl;have m12:=hN.m12;have o24:=hN.o24;refine⟨rfl,rfl,?_⟩;refine cutS (λρ=>ρ=[.vl (netD N),nv N.m,.vl (.tup (N.js.map L2.pairD)),.vl (.tup (natsD N.os)),.un,.un,.un]) (λM hM=>hM _ rfl) ?_;rintro _ rfl;have ell:∀k,(wF (N.m+N.js.length)).map (λt=>natsD (usP N.os k t))=(usA N.os (N.m+N.js.length) k).map natsD:=λk=>by unfold usA;rw[yw];rfl
 refine cutS (λρ=>ρ=[.vl (netD N),nv N.m,.vl (.tup (N.js.map L2.pairD)),.vl (.tup (natsD N.os)),.ll ((usA N.os (N.m+N.js.length) 0).map natsD),.un,.un]) (λM hM=>?_) ?_
 ·refine⟨⟨by omega,by rw[db];omega⟩,by rw[cb,db];omega,λ_=>trivial,?_⟩;have e0:(rngD 0 ((N.m:Int)+(((N.js.map L2.pairD).length:Nat):Int)).toNat).map (λ_=>([]:List D))=(usA N.os (N.m+N.js.length) 0).map natsD:=by
   unfold rngD usA;rw[yw,yw,db,show((N.m:Int)+((N.js.length:Nat):Int)).toNat=N.m+N.js.length by omega];rfl
  rw[e0];exact hM _ rfl
 rintro _ rfl;refine cutS (λρ=>∃s5 s6,ρ=[.vl (netD N),nv N.m,.vl (.tup (N.js.map L2.pairD)),.vl (.tup (natsD N.os)),.ll ((usA N.os (N.m+N.js.length) N.os.length).map natsD),s5,s6]) (λM hM=>?_) ?_
 ·refine dM (λk ρ=>k<=N.os.length/\∃s5 s6,ρ=[.vl (netD N),nv N.m,.vl (.tup (N.js.map L2.pairD)),.vl (.tup (natsD N.os)),.ll ((usA N.os (N.m+N.js.length) k).map natsD),s5,s6]) (λ_ _ _ _=>trivial) ?_ (λρ ⟨_,s5,s6,e⟩=>?_) _ ⟨wp _,.un,.un,rfl⟩
  ·rintro k d _ M2 hk ⟨_,s5,s6,rfl⟩ hM2;obtain⟨x,ex,rfl⟩:=dD hk;unfold natsD at ex;rw[sB]at ex;obtain⟨o,eo,rfl⟩:=wt.mp ex;have hko:=(lm.mp eo).1;have ho:=hN.os o (wr eo);have eg:N.os.getD k 0=o:=by rw[li,eo];rfl
   refine t4 ?_;rw[x5];have key:=rP (os:=N.os) (n:=N.m+N.js.length) (k:=k) (by rw[eg];exact ho);rw[eg]at key;have gd:((usA N.os (N.m+N.js.length) k).map natsD).getD o []=natsD ((usA N.os (N.m+N.js.length) k).getD o []):=by
    rw[li,li,sB];cases (usA N.os (N.m+N.js.length) k)[o]? <;> rfl
   refine⟨(usA N.os (N.m+N.js.length) k).map natsD,o,nD k,rfl,rfl,rfl,by rw[db,jn];exact ho,?_,hM2 _ ⟨hko,nv k,nv o,?_⟩⟩
   ·rw[gd,aQ,q8 ho];have:=jk N.os k o;omega
   ·rw[gd,<- bP,<- DN,key];rfl
  ·rw[bG,aQ]at e;exact hM ρ ⟨s5,s6,e⟩
 rintro _ ⟨s5,s6,rfl⟩;exact⟨_,rfl,hq⟩
theorem iN (dn:DefN K mg "joined_uses" cC ["thing", "uses", "rows", "made"])(B:BI mg)(gB8:OkN P w K mg base 1 "joining" ["one", "other"] (spA K fW))(gB9:OkN P w K mg base 1 "joined" ["one", "other"] (spA K iI)):OkN P w K mg base 2 "joined_uses" ["thing", "uses", "rows", "made"] (spA K k6):=by
 refine dn.aok2 (k:=1) bj (λj=>j==0||j==1||j==2||j==3) [.un,.un] k6 rfl (λf cdv A outer s H E hr=>have hu:=eK hr;⟨_,(aA (eh (oQ (g9 K (pv 1) (λ_=>rfl)))
  (aV jG)
  bY)
  (aA (a_ (i:=4) bj.nd rfl (by first | exact Or.inl rfl | exact Or.inr rfl) (bA (aO K) (pv 1) aG (λ_ _=>rfl)))
  (aA (fm xz rfl (gj K (dJ (eW K) (pv 1) (eA aG) fv)) (aS (i:=5) bj.nd rfl (by first | exact Or.inl rfl | exact Or.inr rfl))
  (aA (eh (bw (gw K hr.units) (bA (aO K) (pv 2) (pv 4) (λ_ _=>rfl)) (bA (aO K) (pv 2) (pv 5) (λ_ _=>rfl)) (bO _))
  (aV jG)
  bY)
  (aA (bM (cH K wc v_ v9 bx (pv 3) (af (b_ gB8 (hr.mono (by decide)) (af (pv 4) (af (pv 5) ar))) ar)))
  (aA (bM (cH K wc v_ v9 bx (pv 2) (af (b_ gB9 (hr.mono (by decide)) (af (bA (aO K) (pv 2) (pv 4) (λ_ _=>rfl)) (af (bA (aO K) (pv 2) (pv 5) (λ_ _=>rfl)) ar))) ar)))
  (aV (a_ (i:=4) bj.nd rfl (by first | exact Or.inl rfl | exact Or.inr rfl) (bf cF (aJ (aN K) rfl B.len_ bu (af (pv 2) ar)) aG)))))))
  (aV (cm (pv 4)))))),(aw (ck (jr (jq aj))
  bV
  ba)
  (aw (aT (aD bh aj aE) rfl)
  (aw (cA (pin:=(λ_=>false)) (eV (gX aj (cZ aE) fX)) (aF rfl)
  (aw (ck (bc (aD gy (aD bh aj aj) (aD bh aj aj)))
  bV
  ba)
  (aw (cB (c_ aj (aa (aU (aa aj (aa aj aq))) aq)))
  (aw (cB (c_ aj (aa (aU (aa (aD bh aj aj) (aa (aD bh aj aj) aq))) aq)))
  (aT (aD aP (bb aW (aa aj aq)) aE) rfl)))))
  (bS aj))))⟩) ?_
 rintro ss q ⟨t,u,us,R,M,rfl,hu,hok,l1,l2,hq⟩;have dI:∀ {i:Int},D.depth (.int i)<=60:=λ{i}=>by simp[D.depth]
 refine⟨rfl,rfl,?_⟩;refine cutS (λρ=>ρ=[nv t,.vl (.lst (natsD (u::us))),.ow (natsD R),.ow (M.map L2.pairD),.un,.un]) (λM2 hM2=>hM2 _ rfl) ?_;rintro _ rfl;refine cutS (λρ=>ρ=[nv t,.vl (.lst (natsD (u::us))),.ow (natsD R),.ow (M.map L2.pairD),nv u,.un]) (λM2 hM2=>bD rfl (A7 _) (hM2 _ rfl)) ?_;rintro _ rfl;refine cutS (λρ=>∃s5,ρ=[nv t,.vl (.lst (natsD (u::us))),.ow (natsD (juS us u R M).2.1),.ow ((juS us u R M).2.2.map L2.pairD),nv (juS us u R M).1,s5]) (λM2 hM2=>?_) ?_
 ·have e1:L2.cutD (natsD (u::us)) (some 1) none=natsD us:=by
   show L2.cutD (natsD (u::us)) (some ((1:Nat):Int)) none=_;rw[iB];rfl
  show forA _ _ _ _ (L2.cutD (natsD (u::us)) (some 1) none) _;have us3:(juS us u R M).2.1.length=R.length+us.length:=(eI us u R M).1;rw[e1];refine fQ nD (λk ρ=>∃s5,ρ=[nv t,.vl (.lst (natsD (u::us))),.ow (natsD (juS (us.take k) u R M).2.1),.ow ((juS (us.take k) u R M).2.2.map L2.pairD),nv (juS (us.take k) u R M).1,s5]) (λ_ _ _=>trivial) ?_ (λρ ⟨s5,e⟩=>by rw[yZ]at e;exact hM2 ρ ⟨s5,e⟩) ⟨.un,rfl⟩;rintro k x _ M3 hx ⟨s5,rfl⟩ hM3;have hk:=(lm.mp hx).1;have hxu:x<R.length:=hu x (wQ _ (wr hx));have sp:us=us.take k++x::us.drop (k+1):=by
   conv=>lhs;rw[<- B1 k us]
   rw[xp hk];rw[dL hk]at hx;injection hx with hx;rw[hx]
  have hne:=jN (us.take k) (y:=x) (ys:=us.drop (k+1)) M (by rw[<- sp];exact hok);have hsn:us.take (k+1)=us.take k++[x]:=by rw[zG,hx];rfl
  have ln:=eI (us.take k) u R M;have lt:=kD (us.take k) (g:=u) (R:=R) (M:=M) (hu u (wV ..));have tk:(us.take k).length<=us.length:=by rw[xm];omega
  have hnext:=gQ (us.take k) x u R M;rw[<- hsn]at hnext;generalize juS (us.take k) u R M=J at *;obtain⟨g,R1,M1⟩:=J;dsimp only at ln lt hne hnext ⊢;refine gaN1 ?_;show aSeq _ _ _ [nv t,.vl (.lst (natsD (u::us))),.ow (natsD R1),.ow (M1.map L2.pairD),nv g,nv x];refine cutS (λρ=>ρ=[nv t,.vl (.lst (natsD (u::us))),.ow (natsD R1),.ow (M1.map L2.pairD),nv g,nv x]) (λM4 hM4=>bD rfl lt (bD rfl (by omega) (dX rfl rfl dI rfl (ite2 (λz=>?_) λ_=>hM4 _ rfl)))) ?_
  ·exfalso;apply hne;have:=of_decide_eq_true (p:=((R1.getD g 0:Nat):Int)=((R1.getD x 0:Nat):Int)) z;omega
  rintro _ rfl;refine cutS (λρ=>ρ=[nv t,.vl (.lst (natsD (u::us))),.ow (natsD R1),.ow ((M1++[(min g x,max g x)]).map L2.pairD),nv g,nv x]) (λM4 hM4=>⟨rfl,g,x,rfl,by rw[db];omega,?_⟩) ?_
  ·have:=hM4 _ rfl;rw[wJ]at this;exact this
  rintro _ rfl;refine cutS (λρ=>ρ=[nv t,.vl (.lst (natsD (u::us))),.ow (natsD (R1++[R1.getD g 0 ^^^ R1.getD x 0])),.ow ((M1++[(min g x,max g x)]).map L2.pairD),nv g,nv x]) (λM4 hM4=>bD rfl lt (bD rfl (by omega) ⟨rfl,_,_,rfl,by rw[aQ];omega,?_⟩)) ?_
  ·have:=hM4 _ rfl;rw[bP]at this;exact this
  rintro _ rfl;refine hM3 _ ⟨nv x,?_⟩;rw[hnext];have eg:((((natsD (R1++[R1.getD g 0 ^^^ R1.getD x 0])).length:Nat):Int) - 1)=((R1.length:Nat):Int):=by rw[aQ,wb,wH];omega
  show[nv t,.vl (.lst (natsD (u::us))),.ow (natsD (R1++[R1.getD g 0 ^^^ R1.getD x 0])),.ow ((M1++[(min g x,max g x)]).map L2.pairD),Sv.vl (D.int ((((natsD (R1++[R1.getD g 0 ^^^ R1.getD x 0])).length:Nat):Int) - 1)),nv x]=_;rw[eg]
 rintro _ ⟨s5,rfl⟩;exact hq
theorem jL (dn:DefN K mg "turned_net" bL ["net"])(B:BI mg)(gB4:OkN P w K mg base 1 "out_uses" ["net"] (spA K fV))(gB5:OkN P w K mg base 1 "own_rows" ["many"] (spA K SOwn))(gA9:OkN P w K mg base 2 "joined_uses" ["thing", "uses", "rows", "made"] (spA K k6))(gB2:∃u,mg "MOST_GIVENS" = some u/\RelV (.int 12) u)(gB3:∃u,mg "MOST_JOINS" = some u/\RelV (.int 132) u):OkN P w K mg base 3 "turned_net" ["net"] (spA K l5):=by
 refine dn.aok2 (k:=2) az (λj=>j==0) [.un,.un,.un,.un,.un,.un,.un,.un,.un,.un,.un] l5 rfl (λf cdv A outer s H E hr=>have hu:=eK hr;⟨_,(aA (i5 (pv 0) (cE K (n:=3) rfl (aY (aS (i:=1) az.nd rfl (by first | exact Or.inl rfl | exact Or.inr rfl)) (aY (aS (i:=2) az.nd rfl (by first | exact Or.inl rfl | exact Or.inr rfl)) (aY (aS (i:=3) az.nd rfl (by first | exact Or.inl rfl | exact Or.inr rfl)) cD)))))
  (aA (eh (PW.pt (oO (bw gk (aJ (aN K) rfl B.len_ bu (af (pv 3) ar)) (kx gB2 rfl) (bO _)) (km (bw gk (bf cF (bf bN (aJ (aN K) rfl B.len_ bu (af (pv 2) ar)) (aJ (aN K) rfl B.len_ bu (af (pv 3) ar))) (pv 1)) (kx gB3 rfl) (bO _)))))
  (aV jG)
  bY)
  (aA (a_ (i:=4) az.nd rfl (by first | exact Or.inl rfl | exact Or.inr rfl) (b_ gB4 (hr.mono (by decide)) (af (pv 0) ar)))
  (aA (a_ (i:=5) az.nd rfl (by first | exact Or.inl rfl | exact Or.inr rfl) (b_ gB5 (hr.mono (by decide)) (af (aJ (aN K) rfl B.len_ bu (af (pv 3) ar)) ar)))
  (aA (a_ (i:=6) az.nd rfl (by first | exact Or.inl rfl | exact Or.inr rfl) (dv ar))
  (aA (fm xz rfl (oW K rfl B.reversed_ (af (oZ K rfl rfl B.list_ rfl B.enumerate_ (af (pv 2) ar)) ar)) (cE K (n:=2) rfl (aY (aS (i:=7) az.nd rfl (by first | exact Or.inl rfl | exact Or.inr rfl)) (aY (cE K (n:=2) rfl (aY (aS (i:=8) az.nd rfl (by first | exact Or.inl rfl | exact Or.inr rfl)) (aY (aS (i:=9) az.nd rfl (by first | exact Or.inl rfl | exact Or.inr rfl)) cD))) cD)))
  (aA (gH (a_ (i:=10) az.nd rfl (by first | exact Or.inl rfl | exact Or.inr rfl) (b_ gA9 (hr.mono (by decide)) (af (bf bN (pv 1) (pv 7)) (af (bA (aO K) (pv 4) (bf bN (pv 1) (pv 7)) (λ_ _=>rfl)) (af (pv 5) (af (pv 6) ar)))))))
  (aA (gH (bM (cH K wc v_ v9 bx (bA (aO K) (pv 4) (pv 8) (λ_ _=>rfl)) (af (pv 10) ar))))
  (aV (gH (bM (cH K wc v_ v9 bx (bA (aO K) (pv 4) (pv 9) (λ_ _=>rfl)) (af (pv 10) ar))))))))
  (aA (gH (jF (i:=11) ["given"] [4,5,6] az.nd rfl (by first | exact Or.inl rfl | exact Or.inr rfl) rfl (Blk.of (aK bL) cX) (lz rfl B.reversed_ rfl B.range_ (af (pv 1) ar)) (λ_ _ _ _ nd=>(aS (i:=0) nd rfl (by first | exact Or.inl rfl | exact Or.inr rfl))) (λ_ _ _ _=>fu) (λ_ _ _ _=>(b_ gA9 (hr.mono (by decide)) (af (pv 0) (af (bA (aO K) (pv 1) (pv 0) (λ_ _=>rfl)) (af (pv 2) (af (pv 3) ar))))))))
  (aV (cm (cx (af (aJ (aN K) rfl B.len_ bu (af (pv 3) ar)) (af (cP (cv K) rfl B.tuple_ dR (af (pv 6) ar)) (af (cP (cv K) rfl B.tuple_ dR (af (sG K (pv 11) (eA (oY j7 aG)) (ops:=λv i=>[v,i]) (htl:=λ_ _=>rfl)) ar)) ar))))))))))))),(aw (f_ aj (bW (aM (aF rfl) (aM (aF rfl) (aM (aF rfl) bK (λ_ _ _=>bq)) (λ_ _ _=>bq)) (λ_ _ _=>bq))))
  (aw (ck (gW (bc (aD dg (bb aW (aa aj aq)) aE)) (bc (aD dg (aD aP (aD aP (bb aW (aa aj aq)) (bb aW (aa aj aq))) aj) aE)))
  bV
  ba)
  (aw (aT (aU (aa aj aq)) rfl)
  (aw (aT (aU (aa (bb aW (aa aj aq)) aq)) rfl)
  (aw (aT (cI aq) rfl)
  (aw (cA (pin:=(λ_=>false)) (ju (aa (la (aa aj aq)) aq)) (bW (aM (aF rfl) (aM (bW (aM (aF rfl) (aM (aF rfl) bK (λ_ _ _=>bq)) (λ_ _ _=>bq))) bK (λ_ _ _=>pJ)) (λ_ _ _=>bq)))
  (aw (gP (i:=4) (aT (aU (aa (aD aP aj aj) (aa (aD bh aj (aD aP aj aj)) (aa aj (aa aj aq))))) rfl))
  (aw (da (i:=4) (j:=8) (k:=10))
  (da (i:=4) (j:=9) (k:=10)))))
  (aw (gP (i:=4) (jx (dr (gZ (aa aj aq)) (aF rfl) eU (aU (aa aj (aa (aD bh aj aj) (aa aj (aa aj aq)))))) rfl))
  (bS (bR (aa (bb aW (aa aj aq)) (aa (bb cJ (aa aj aq)) (aa (bb cJ (aa (rW aj (cZ (gY aE))) aq)) aq))))))))))))⟩) ?_
 rintro ss q ⟨N,rfl,hN,ho,hj,hok,hq⟩;have jl:=hN.jl;have m12:=hN.m12;have o1:=hN.o1;refine⟨rfl,rfl,?_⟩;refine cutS (λρ=>ρ=[.vl (netD N),nv N.m,.vl (.tup (N.js.map L2.pairD)),.vl (.tup (natsD N.os)),.un,.un,.un,.un,.un,.un,.un,.un]) (λM hM=>hM _ rfl) ?_;rintro _ rfl;refine cutS (λρ=>ρ=[.vl (netD N),nv N.m,.vl (.tup (N.js.map L2.pairD)),.vl (.tup (natsD N.os)),.un,.un,.un,.un,.un,.un,.un,.un]) (λM hM=>?_) ?_
 ·have g1:decide ((12:Int)<(((natsD N.os).length:Nat):Int))=false:=by rw[aQ,decide_eq_false_iff_not];omega
  have g2:decide ((132:Int)<(((N.js.map L2.pairD).length:Nat):Int)+(((natsD N.os).length:Nat):Int) - (N.m:Int))=false:=by rw[aQ,db,decide_eq_false_iff_not];omega
  show if decide ((12:Int)<(((natsD N.os).length:Nat):Int))=true then _ else(if decide ((132:Int)<(((N.js.map L2.pairD).length:Nat):Int)+(((natsD N.os).length:Nat):Int) - (N.m:Int))=true then _ else _)
  rw[g1,g2];exact hM _ rfl
 rintro _ rfl;refine cutS (λρ=>ρ=[.vl (netD N),nv N.m,.vl (.tup (N.js.map L2.pairD)),.vl (.tup (natsD N.os)),.ll ((dH N).map natsD),.un,.un,.un,.un,.un,.un,.un]) (λM hM=>⟨rfl,N,rfl,hN,hM _ rfl⟩) ?_;rintro _ rfl;refine cutS (λρ=>ρ=[.vl (netD N),nv N.m,.vl (.tup (N.js.map L2.pairD)),.vl (.tup (natsD N.os)),.ll ((dH N).map natsD),.ow (natsD (aZ N.os.length)),.un,.un,.un,.un,.un,.un]) (λM hM=>?_) ?_
 ·refine⟨rfl,N.os.length,by rw[aQ];rfl,by omega,hM _ rfl⟩
 rintro _ rfl;refine cutS (λρ=>ρ=[.vl (netD N),nv N.m,.vl (.tup (N.js.map L2.pairD)),.vl (.tup (natsD N.os)),.ll ((dH N).map natsD),.ow (natsD (aZ N.os.length)),.ow (([]:List (Nat×Nat)).map L2.pairD),.un,.un,.un,.un,.un]) (λM hM=>⟨wp _,hM _ rfl⟩) ?_;rintro _ rfl;refine cutS (λρ=>∃s7 s8 s9 s10,svNs [s7,s8,s9,s10]=true/\ρ=[.vl (netD N),nv N.m,.vl (.tup (N.js.map L2.pairD)),.vl (.tup (natsD N.os)),.ll ((tuAt N N.js.length).1.map natsD),.ow (natsD (tuAt N N.js.length).2.1),.ow ((tuAt N N.js.length).2.2.map L2.pairD),s7,s8,s9,s10,.un]) (λM hM=>?_) ?_
 ·refine dM (λk ρ=>k<=N.js.length/\∃s7 s8 s9 s10,svNs [s7,s8,s9,s10]=true/\ρ=[.vl (netD N),nv N.m,.vl (.tup (N.js.map L2.pairD)),.vl (.tup (natsD N.os)),.ll ((tuAt N k).1.map natsD),.ow (natsD (tuAt N k).2.1),.ow ((tuAt N k).2.2.map L2.pairD),s7,s8,s9,s10,.un]) (λ_ _ _ _=>trivial) ?_ (λρ ⟨_,s7,s8,s9,s10,h1,e⟩=>?_) _ ⟨wp _,.un,.un,.un,.un,rfl,rfl⟩
  ·rintro k d _ M2 hk ⟨_,s7,s8,s9,s10,hsv,rfl⟩ hM2;have lk:k<N.js.length:=by
    have:=(lm.mp hk).1;rwa [xq,bG,db]at this
   rw[yi (by rw[bG,db];exact lk),bG,db]at hk;obtain⟨x,ex,rfl⟩:=dD hk;rw[sB]at ex;obtain⟨p,ep,rfl⟩:=wt.mp ex;rw[x5];have I:=iS hN hok k (by omega);have okj:=hok.j k lk;refine lg (d2:=nD p.1) (d3:=nD p.2) ?_;show aSeq _ _ _ [.vl (netD N),nv N.m,.vl (.tup (N.js.map L2.pairD)),.vl (.tup (natsD N.os)),.ll ((tuAt N k).1.map natsD),.ow (natsD (tuAt N k).2.1),.ow ((tuAt N k).2.2.map L2.pairD),nv (N.js.length - 1 - k),nv p.1,nv p.2,s10,.un];have pm:=fK (h_ hN.js) ep;rw[df]at pm;have lt:N.m+(N.js.length - 1 - k)<(tuAt N k).1.length:=by rw[I.l];omega
   have hmem:=bz lt;have hnx:tuAt N (k+1)=(app (app (tuAt N k).1 p.1 (juU ((tuAt N k).1.getD (N.m+(N.js.length - 1 - k)) []) (tuAt N k).2.1 (tuAt N k).2.2).1) p.2 (juU ((tuAt N k).1.getD (N.m+(N.js.length - 1 - k)) []) (tuAt N k).2.1 (tuAt N k).2.2).1,(juU ((tuAt N k).1.getD (N.m+(N.js.length - 1 - k)) []) (tuAt N k).2.1 (tuAt N k).2.2).2.1,(juU ((tuAt N k).1.getD (N.m+(N.js.length - 1 - k)) []) (tuAt N k).2.1 (tuAt N k).2.2).2.2):=by
    have egp:N.js.getD (N.js.length - 1 - k) (0,0)=p:=by rw[li,ep];rfl
    rw[tuAt,egp]
   have I2:=iS hN hok (k+1) (by omega);have hat:=nI lt;have hU:=I.u _ hmem;have hR:=I.r _ hmem;generalize hus:(tuAt N k).1.getD (N.m+(N.js.length - 1 - k)) []=us at *;obtain⟨u,us',rfl⟩:=wE okj.1;have hj2:=okj.2;rw[hnx]at I2;have ec:((N.m:Int)+((N.js.length - 1 - k:Nat):Int))=((N.m+(N.js.length - 1 - k):Nat):Int):=by omega
   have rl:=I.rl;have ml:=I.ml;have l1:=I.l;generalize tuAt N k=S at *;rw[wn]at hU;refine cutS (λρ=>ρ=[.vl (netD N),nv N.m,.vl (.tup (N.js.map L2.pairD)),.vl (.tup (natsD N.os)),.ll (S.1.map natsD),.ow (natsD (juU (u::us') S.2.1 S.2.2).2.1),.ow ((juU (u::us') S.2.1 S.2.2).2.2.map L2.pairD),nv (N.js.length - 1 - k),nv p.1,nv p.2,nv (juU (u::us') S.2.1 S.2.2).1,.un]) (λM3 hM3=>⟨S.1.map natsD,rfl,sv4 N _ _ ?_,cQ _,?_⟩) ?_
   ·have:=br 3 hsv;show(true&&(true&&(true&&(svN s10&&true))))=true;rw[show svN s10=true from this];rfl
   ·refine gJ rfl (by rw[ec];exact hat) ⟨rfl,N.m+(N.js.length - 1 - k),u,us',S.2.1,S.2.2,?_,hR,hj2,by omega,by omega,?_⟩
    ·show[Sv.vl (.int ((N.m:Int)+((N.js.length - 1 - k:Nat):Int))),_,_,_]=_;rw[ec];rfl
    ·exact⟨rfl,sv4 N _ _ rfl,hM3 _ rfl⟩
   rintro _ rfl;refine cutS (λρ=>ρ=[.vl (netD N),nv N.m,.vl (.tup (N.js.map L2.pairD)),.vl (.tup (natsD N.os)),.ll ((app S.1 p.1 (juU (u::us') S.2.1 S.2.2).1).map natsD),.ow (natsD (juU (u::us') S.2.1 S.2.2).2.1),.ow ((juU (u::us') S.2.1 S.2.2).2.2.map L2.pairD),nv (N.js.length - 1 - k),nv p.1,nv p.2,nv (juU (u::us') S.2.1 S.2.2).1,.un]) (λM3 hM3=>⟨S.1.map natsD,p.1,_,rfl,rfl,rfl,by rw[db];omega,?_,?_⟩) ?_
   ·rw[i7];have:=I.u _ (bz (show p.1<S.1.length by omega));omega
   ·have:=hM3 _ rfl;rw[<- fb]at this;exact this
   rintro _ rfl;refine⟨(app S.1 p.1 (juU (u::us') S.2.1 S.2.2).1).map natsD,p.2,nD (juU (u::us') S.2.1 S.2.2).1,rfl,rfl,rfl,by rw[db,dj];omega,?_,hM2 _ ⟨by omega,nv (N.js.length - 1 - k),nv p.1,nv p.2,nv (juU (u::us') S.2.1 S.2.2).1,rfl,?_⟩⟩
   ·rw[i7];rcases jZ (bz (show p.2<(app S.1 p.1 (juU (u::us') S.2.1 S.2.2).1).length by rw[dj];omega))with z | ⟨z,e⟩
    ·have:=I.u _ z;omega
    ·have:=I.u _ z;rw[e,wb,wH];omega
   ·rw[hnx,fb];rfl
  ·rw[xq,bG,db]at e;exact hM ρ ⟨s7,s8,s9,s10,h1,e⟩
 rintro _ ⟨s7,s8,s9,s10,hsv,rfl⟩;have I:=iS hN hok N.js.length (ms _);refine cutS (λρ=>ρ=[.vl (netD N),nv N.m,.vl (.tup (N.js.map L2.pairD)),.vl (.tup (natsD N.os)),.ll ((tuAt N N.js.length).1.map natsD),.ow (natsD (tgAt N N.m).2.1),.ow ((tgAt N N.m).2.2.map L2.pairD),s7,s8,s9,s10,.ow (natsD (tgAt N N.m).1)]) (λM hM=>⟨_,rfl,sv4 N _ _ ?_,cQ _,?_⟩) ?_
 ·show svNs [s7,s8,s9,s10,.un]=true;have h0:=br 0 hsv;have h1:=br 1 hsv;have h2:=br 2 hsv;have h3:=br 3 hsv;show(svN s7&&(svN s8&&(svN s9&&(svN s10&&true))))=true;rw[show svN s7=true from h0,show svN s8=true from h1,show svN s9=true from h2,show svN s10=true from h3];rfl
 ·refine⟨⟨by omega,by omega⟩,?_⟩;refine⟨by rw[dy];omega,?_⟩;refine fS (λk acc ρ=>k<=N.m/\acc=natsD (tgAt N k).1/\ρ=[.vl (netD N),nv N.m,.vl (.tup (N.js.map L2.pairD)),.vl (.tup (natsD N.os)),.vl (llD ((tuAt N N.js.length).1.map natsD)),.ow (natsD (tgAt N k).2.1),.ow ((tgAt N k).2.2.map L2.pairD),s7,s8,s9,s10,.un]) (λ_ _ _ _ _=>trivial) ?_ ?_ _ ⟨wp _,rfl,rfl⟩
  ·rintro k d acc _ M2 hk ⟨_,rfl,rfl⟩ hM2;obtain⟨lk,rfl⟩:=gU hk;have lk:k<N.m:=by omega
   obtain⟨g1,g2,g3,g4⟩:=n_ hN hok k (by omega);have okg:=hok.g k lk;have lt:N.m - 1 - k<(tuAt N N.js.length).1.length:=by rw[I.l];omega
   have hmem:=bz lt;have hat:=nI lt;have hU:=I.u _ hmem;have hR:=I.r _ hmem;have ht:tgAt N (k+1)=((tgAt N k).1++[(juU ((tuAt N N.js.length).1.getD (N.m - 1 - k) []) (tgAt N k).2.1 (tgAt N k).2.2).1],(juU ((tuAt N N.js.length).1.getD (N.m - 1 - k) []) (tgAt N k).2.1 (tgAt N k).2.2).2.1,(juU ((tuAt N N.js.length).1.getD (N.m - 1 - k) []) (tgAt N k).2.1 (tgAt N k).2.2).2.2):=by rw[tgAt]
   generalize hus:(tuAt N N.js.length).1.getD (N.m - 1 - k) []=us at *;obtain⟨u,us',rfl⟩:=wE okg.1;have ec:((N.m:Int) - 1 - (k:Int))=((N.m - 1 - k:Nat):Int):=by omega
   have hj2:=okg.2;rw[wn]at hU;refine gaN1 ?_;rw[ec];refine gJ rfl hat ⟨rfl,N.m - 1 - k,u,us',(tgAt N k).2.1,(tgAt N k).2.2,rfl,λx hx=>o0 (hR x hx) g3,hj2,by omega,by omega,?_⟩;refine hM2 _ _ ⟨by omega,?_,?_⟩
   ·rw[ht];show natsD (tgAt N k).1++[nD _]=natsD ((tgAt N k).1++[_]);rw[bP];rfl
   ·rw[ht];rfl
  ·rintro acc _ ⟨_,rfl,rfl⟩;rw[dy,xE];refine⟨rfl,sv4 N _ _ ?_,hM _ rfl⟩;have h0:=br 0 hsv;have h1:=br 1 hsv;have h2:=br 2 hsv;have h3:=br 3 hsv;show(svN s7&&(svN s8&&(svN s9&&(svN s10&&(noLs (natsD (tgAt N N.m).1)&&true)))))=true;rw[show svN s7=true from h0,show svN s8=true from h1,show svN s9=true from h2,show svN s10=true from h3,e6];rfl
 rintro _ rfl;obtain⟨g1,g2,g3,g4⟩:=n_ hN hok N.m (ms _);have eT:(natsD (tgAt N N.m).1).reverse=natsD (tgAt N N.m).1.reverse:=by unfold natsD;rw[List.map_reverse]
 refine⟨rfl,by simp,?_⟩;rw[eT,aQ];exact hq
end
def qe:ASp:=λss q=>∃(t:Nat) (R:List Nat) (M:List (Nat×Nat)),ss=[nv t,.vl (.lst (natsD [])),.ow (natsD R),.ow (M.map L2.pairD)]/\t<20000/\q (.d (nD t)) [nv t,.vl (.lst (natsD [])),.ow (natsD R),.ow (M.map L2.pairD)]
def qd:ASp:=λss q=>∃(t u:Nat) (us R:List Nat) (M:List (Nat×Nat)),ss=[nv t,.vl (.lst (natsD (u::us))),.ow (natsD R),.ow (M.map L2.pairD)]/\t<20000/\(∀x∈u::us,x<R.length)/\¬juOk us u R/\R.length+us.length<=500000/\M.length+us.length<=500000 /\
 ∀(R':List Nat) (M':List (Nat×Nat)),q (.d (nD t)) [nv t,.vl (.lst (natsD (u::us))),.ow (natsD R'),.ow (M'.map L2.pairD)]
theorem pB:∀ {us:List Nat} {g:Nat} {R:List Nat} (M:List (Nat×Nat)),¬juOk us g R->∃k y,us[k]? = some y/\juOk (us.take k) g R/\(juS (us.take k) g R M).2.1.getD (juS (us.take k) g R M).1 0=(juS (us.take k) g R M).2.1.getD y 0
 | [],_,_,_,h=>absurd trivial h
 | u::us,g,R,M,h=>by
  by_cases e:R.getD g 0=R.getD u 0
  ·exact⟨0,u,rfl,trivial,e⟩
  ·obtain⟨k,y,h1,h2,h3⟩:=pB (us:=us) (g:=R.length) (R:=R++[R.getD g 0 ^^^ R.getD u 0]) (M++[(min g u,max g u)]) λz=>h ⟨e,z⟩
   exact⟨k+1,y,h1,⟨e,h2⟩,h3⟩
theorem iV {α:Type}{us:List α}{k n:Nat}{x:α}(hx:us[k]? = some x)(h:k<n):us.take n=us.take k++x::(us.take n).drop (k+1):=by
 have hk:=(lm.mp hx).1;conv=>lhs;rw[<- B1 k (us.take n)]
 have lt:k<(us.take n).length:=by rw[xm];omega
 rw[xp lt,List.take_take,yf (wT h),List.getElem_take];rw[dL hk]at hx;injection hx with hx;rw[hx]
def thg (N:Net)(i:Nat):Nat:=N.m+N.js.length - 1 - i
def stU (N:Net)(i:Nat):List Nat:=if i<N.js.length then(tuAt N i).1.getD (N.m+(N.js.length - 1 - i)) []else(tuAt N N.js.length).1.getD (N.m - 1 - (i - N.js.length)) []
def stR (N:Net)(i:Nat):List Nat:=if i<N.js.length then(tuAt N i).2.1 else(tgAt N (i - N.js.length)).2.1
def stOk (N:Net)(i:Nat):Prop:=qF (stU N i) (stR N i)
theorem fj {N:Net}{i:Nat}(h:i<N.js.length):stU N i=(tuAt N i).1.getD (N.m+(N.js.length - 1 - i)) []:=if_pos h
theorem gr {N:Net}{i:Nat}(h:i<N.js.length):stR N i=(tuAt N i).2.1:=if_pos h
theorem fk {N:Net}(k:Nat):stU N (N.js.length+k)=(tuAt N N.js.length).1.getD (N.m - 1 - k) []:=by
 unfold stU;rw[if_neg (by omega),zR]
theorem fE {N:Net}(k:Nat):stR N (N.js.length+k)=(tgAt N k).2.1:=by
 unfold stR;rw[if_neg (by omega),zR]
theorem rS {N:Net}(h:∀i,i<N.js.length+N.m->stOk N i):TuOk N :=
 ⟨λk hk=>by have:=h k (by omega);unfold stOk at this;rwa [fj hk,gr hk]at this,λk hk=>by have:=h (N.js.length+k) (by omega);unfold stOk at this;rwa [fk,fE]at this⟩
theorem cY {N:Net}(hN:dm N):∀k,k<=N.js.length->(∀i,i<k->stOk N i)->qV N k (tuAt N k)
 | 0,_,_=>by
  have o24:=hN.o24;refine⟨?_,λus hu x hx=>?_,λus hu=>?_,?_,wp _⟩
  ·show(dH N).length=_;simp[dH]
  ·obtain⟨t,_,rfl⟩:=zq.mp hu;show x<(aZ N.os.length).length;rw[df];exact xT.mp (y_.mp hx).1
  ·obtain⟨t,_,rfl⟩:=zq.mp hu;have:=jk N.os N.os.length t;exact wo this (by omega)
  ·show(aZ N.os.length).length=_;rw[df];rfl
 | k+1,h,ok=>by
  have I:=cY hN k (by omega) λi hi=>ok i (by omega);have jl:=hN.jl;have lt:N.m+(N.js.length - 1 - k)<(tuAt N k).1.length:=by rw[I.l];omega
  have g:=(ok k (by omega)).1;rw[fj (by omega)]at g;exact n9 I (by omega) (bz lt) g _ _
theorem jv {N:Net}(hN:dm N):∀k,k<=N.m->(∀i,i<N.js.length+k->stOk N i)->(tgAt N k).2.1.length=N.os.length+(tgAt N k).2.2.length/\(tgAt N k).2.2.length<=300*(N.js.length+k)/\(tuAt N N.js.length).2.1.length<=(tgAt N k).2.1.length/\(tgAt N k).1.length=k
 | 0,_,ok=>by
  have I:=cY hN N.js.length (ms _) λi hi=>ok i (by omega);exact⟨I.rl,by have:=I.ml;show(tuAt N N.js.length).2.2.length<=_;omega,ms _,rfl⟩
 | k+1,h,ok=>by
  obtain⟨a,b,c,d⟩:=jv hN k (by omega) λi hi=>ok i (by omega)
  have I:=cY hN N.js.length (ms _) λi hi=>ok i (by omega);have jl:=hN.jl;have lt:N.m - 1 - k<(tuAt N N.js.length).1.length:=by rw[I.l];omega
  have hm:=bz lt;have g:=(ok (N.js.length+k) (by omega)).1;rw[fk]at g;obtain⟨u,us',e⟩:=wE g;have hU:=I.u _ hm;have ht:tgAt N (k+1)=((tgAt N k).1++[(juS us' u (tgAt N k).2.1 (tgAt N k).2.2).1],(juS us' u (tgAt N k).2.1 (tgAt N k).2.2).2.1,(juS us' u (tgAt N k).2.1 (tgAt N k).2.2).2.2):=by
   rw[tgAt,e];rfl
  have h1:=eI us' u (tgAt N k).2.1 (tgAt N k).2.2;rw[e,wn]at hU;rw[ht];refine⟨?_,?_,?_,?_⟩
  ·show(juS us' u (tgAt N k).2.1 (tgAt N k).2.2).2.1.length=_+(juS us' u (tgAt N k).2.1 (tgAt N k).2.2).2.2.length;omega
  ·show(juS us' u (tgAt N k).2.1 (tgAt N k).2.2).2.2.length<=_;omega
  ·show _<=(juS us' u (tgAt N k).2.1 (tgAt N k).2.2).2.1.length;omega
  ·show((tgAt N k).1++[_]).length=k+1;rw[wb,wH,d]
def qb:ASp:=λss q=>∃N:Net,ss=[.vl (netD N)]/\dm N/\¬(N.os.length<=12/\N.js.length+N.os.length<=N.m+132)/\q (.d .non) [.vl (netD N)]
def qc:ASp:=λss q=>∃(N:Net) (i:Nat),ss=[.vl (netD N)]/\dm N/\N.os.length<=12/\N.js.length+N.os.length<=N.m+132/\i<N.js.length+N.m/\(∀i',i'<i->stOk N i')/\stU N i=[]/\q (.d (nD (thg N i))) [.vl (netD N)]
def qa:ASp:=λss q=>∃(N:Net) (i:Nat),ss=[.vl (netD N)]/\dm N/\N.os.length<=12/\N.js.length+N.os.length<=N.m+132/\i<N.js.length+N.m/\(∀i',i'<i->stOk N i')/\stU N i≠[]/\¬stOk N i/\q (.d (nD (thg N i))) [.vl (netD N)]
section
variable {P:v3}{w:wz}{K:ac}{mg:Str->Option bi}{base:Heap}
theorem lR {v4 gA1 f_Nought:Addr}(i_n:j0 K v4 f_Nought "at" "Nought.__init__" cO ["self", "at"])(b:k7 K gA1)(B:BI mg)(m:mg "JoinError" = some (.ref gA1)) :
  ∃fd,j4 K fd ["self", "at"] []/\FnOk P w K mg base CX0 1 f_Nought fd ["self", "at"] (spIP v4 "at"):=by
 obtain⟨fd,F,hb⟩:=i_n.fn;refine⟨fd,.all hb,F.ok (k:=0) m9 (λvs H Q E h=>by obtain⟨e,n,rfl,_⟩:=h;rfl) (λcdv A outer s H vs Q E hr h=>?_)⟩;obtain⟨e,n,rfl,hn,he,hq⟩:=h;refine⟨_,aA (bM (mz (C:=v4) b (e8 i_n.xi.cl) m (af (pv 0) (af (ku (hI cp (hI (rB (pv 1)) rA))) ar)))) (aV (oU i_n.xi (pv 1) (pv 0))),?_⟩;refine⟨.ref e,rfl,j2 (by decide +kernel) hn rfl λt=>⟨e,none,_,rfl,he,.int n,rfl,e,rfl,he,hq⟩⟩
theorem nO {v6 gA1 f_Loose:Addr}(i_n:j0 K v6 f_Loose "thing" "Loose.__init__" du ["self", "thing"])(b:k7 K gA1)(B:BI mg)(m:mg "JoinError" = some (.ref gA1)) :
  ∃fd,j4 K fd ["self", "thing"] []/\FnOk P w K mg base CX0 1 f_Loose fd ["self", "thing"] (spIP v6 "thing"):=by
 obtain⟨fd,F,hb⟩:=i_n.fn;refine⟨fd,.all hb,F.ok (k:=0) oG (λvs H Q E h=>by obtain⟨e,n,rfl,_⟩:=h;rfl) (λcdv A outer s H vs Q E hr h=>?_)⟩;obtain⟨e,n,rfl,hn,he,hq⟩:=h;refine⟨_,aA (bM (mz (C:=v6) b (e8 i_n.xi.cl) m (af (pv 0) (af (ku (hI cp (hI (rB (pv 1)) (hI cp rA)))) ar)))) (aV (oU i_n.xi (pv 1) (pv 0))),?_⟩;refine⟨.ref e,rfl,j3 (by decide +kernel) (by decide +kernel) hn rfl λt=>⟨e,none,_,rfl,he,.int n,rfl,e,rfl,he,hq⟩⟩
theorem eC {v6 gA1 f_Loose:Addr}(m_Loose:mg "Loose" = some (.ref v6))(m_JoinError:mg "JoinError" = some (.ref gA1))(in_Loose:j0 K v6 f_Loose "thing" "Loose.__init__" du ["self", "thing"])(bs_JoinError:k7 K gA1)(dn:DefN K mg "joined_uses" cC ["thing", "uses", "rows", "made"])(B:BI mg)(gB8:OkN P w K mg base 1 "joining" ["one", "other"] (spA K fW))(gB9:OkN P w K mg base 1 "joined" ["one", "other"] (spA K iI)):OkX P w K mg base 3 "joined_uses" ["thing", "uses", "rows", "made"] v6 (some "thing") (spA K qe):=by
 obtain⟨fd_Loose,bi_Loose,fi_Loose⟩:=nO (P:=P) (w:=w) (base:=base) in_Loose bs_JoinError B m_JoinError;refine dn.aokX (k:=2) bj (λj=>j==0||j==1||j==2||j==3) [.un,.un] qe v6 (some "thing") rfl (λf cdv A outer s H E hr=>have hu:=eK hr;⟨_,(aL (g_ (oQ (g9 K (pv 1) (λ_=>rfl)))
  (aL (i0 tie1 rfl m_Loose in_Loose.xi fi_Loose (hr.mono (by decide)) bi_Loose (pv 0))
  bH)
  bH)
  (aL (bZ (a_ (i:=4) bj.nd rfl (by first | exact Or.inl rfl | exact Or.inr rfl) (bA (aO K) (pv 1) aG (λ_ _=>rfl))))
  (aL (jE rfl (gj K (dJ (eW K) (pv 1) (eA aG) fv)) (aS (i:=5) bj.nd rfl (by first | exact Or.inl rfl | exact Or.inr rfl))
  (aL (g_ (bw (gw K hr.units) (bA (aO K) (pv 2) (pv 4) (λ_ _=>rfl)) (bA (aO K) (pv 2) (pv 5) (λ_ _=>rfl)) (bO _))
  (aL fH
  bH)
  bH)
  (aL (bZ (bM (cH K wc v_ v9 bx (pv 3) (af (b_ gB8 (hr.mono (by decide)) (af (pv 4) (af (pv 5) ar))) ar))))
  (aL (bZ (bM (cH K wc v_ v9 bx (pv 2) (af (b_ gB9 (hr.mono (by decide)) (af (bA (aO K) (pv 2) (pv 4) (λ_ _=>rfl)) (af (bA (aO K) (pv 2) (pv 5) (λ_ _=>rfl)) ar))) ar))))
  (aL (bZ (a_ (i:=4) bj.nd rfl (by first | exact Or.inl rfl | exact Or.inr rfl) (bf cF (aJ (aN K) rfl B.len_ bu (af (pv 2) ar)) aG)))
  bH)))))
  dA))),(aw (ck (jr (jq aj))
  (aw (iX aj)
  ba)
  ba)
  (aw (aT (aD bh aj aE) rfl)
  (aw (cA (pin:=(λ_=>false)) (eV (gX aj (cZ aE) fX)) (aF rfl)
  (aw (ck (bc (aD gy (aD bh aj aj) (aD bh aj aj)))
  (aw bV
  ba)
  ba)
  (aw (cB (c_ aj (aa (aU (aa aj (aa aj aq))) aq)))
  (aw (cB (c_ aj (aa (aU (aa (aD bh aj aj) (aa (aD bh aj aj) aq))) aq)))
  (aw (aT (aD aP (bb aW (aa aj aq)) aE) rfl)
  ba)))))
  bV)))⟩) ?_
 rintro ss q ⟨t,R,M,rfl,ht,hq⟩;refine⟨rfl,rfl,?_⟩;exact⟨⟨by omega,by omega⟩,⟨_,rfl⟩,hq⟩
theorem d8 {v4 gA1 f_Nought:Addr}(m_Nought:mg "Nought" = some (.ref v4))(m_JoinError:mg "JoinError" = some (.ref gA1))(in_Nought:j0 K v4 f_Nought "at" "Nought.__init__" cO ["self", "at"])(bs_JoinError:k7 K gA1)(dn:DefN K mg "joined_uses" cC ["thing", "uses", "rows", "made"])(B:BI mg)(gB8:OkN P w K mg base 1 "joining" ["one", "other"] (spA K fW))(gB9:OkN P w K mg base 1 "joined" ["one", "other"] (spA K iI)):OkX P w K mg base 3 "joined_uses" ["thing", "uses", "rows", "made"] v4 (some "at") (spA K qd):=by
 obtain⟨fd_Nought,bi_Nought,fi_Nought⟩:=lR (P:=P) (w:=w) (base:=base) in_Nought bs_JoinError B m_JoinError;refine dn.aokX (k:=2) bj (λj=>j==0||j==1||j==2||j==3) [.un,.un] qd v4 (some "at") rfl (λf cdv A outer s H E hr=>have hu:=eK hr;⟨_,(aL (g_ (oQ (g9 K (pv 1) (λ_=>rfl)))
  (aL fH
  bH)
  bH)
  (aL (bZ (a_ (i:=4) bj.nd rfl (by first | exact Or.inl rfl | exact Or.inr rfl) (bA (aO K) (pv 1) aG (λ_ _=>rfl))))
  (aL (jE rfl (gj K (dJ (eW K) (pv 1) (eA aG) fv)) (aS (i:=5) bj.nd rfl (by first | exact Or.inl rfl | exact Or.inr rfl))
  (aL (g_ (bw (gw K hr.units) (bA (aO K) (pv 2) (pv 4) (λ_ _=>rfl)) (bA (aO K) (pv 2) (pv 5) (λ_ _=>rfl)) (bO _))
  (aL (i0 tie2 rfl m_Nought in_Nought.xi fi_Nought (hr.mono (by decide)) bi_Nought (pv 0))
  bH)
  bH)
  (aL (bZ (bM (cH K wc v_ v9 bx (pv 3) (af (b_ gB8 (hr.mono (by decide)) (af (pv 4) (af (pv 5) ar))) ar))))
  (aL (bZ (bM (cH K wc v_ v9 bx (pv 2) (af (b_ gB9 (hr.mono (by decide)) (af (bA (aO K) (pv 2) (pv 4) (λ_ _=>rfl)) (af (bA (aO K) (pv 2) (pv 5) (λ_ _=>rfl)) ar))) ar))))
  (aL (bZ (a_ (i:=4) bj.nd rfl (by first | exact Or.inl rfl | exact Or.inr rfl) (bf cF (aJ (aN K) rfl B.len_ bu (af (pv 2) ar)) aG)))
  bH)))))
  dA))),(aw (ck (jr (jq aj))
  (aw bV
  ba)
  ba)
  (aw (aT (aD bh aj aE) rfl)
  (aw (cA (pin:=(λ_=>false)) (eV (gX aj (cZ aE) fX)) (aF rfl)
  (aw (ck (bc (aD gy (aD bh aj aj) (aD bh aj aj)))
  (aw (iX aj)
  ba)
  ba)
  (aw (cB (c_ aj (aa (aU (aa aj (aa aj aq))) aq)))
  (aw (cB (c_ aj (aa (aU (aa (aD bh aj aj) (aa (aD bh aj aj) aq))) aq)))
  (aw (aT (aD aP (bb aW (aa aj aq)) aE) rfl)
  ba)))))
  bV)))⟩) ?_
 rintro ss q ⟨t,u,us,R,M,rfl,ht,hu,hok,l1,l2,hq⟩;have dI:∀ {i:Int},D.depth (.int i)<=60:=λ{i}=>by simp[D.depth]
 obtain⟨k0,y0,hy0,ok0,eq0⟩:=pB M hok;have hk0:=(lm.mp hy0).1;refine⟨rfl,rfl,?_⟩;refine cutS (λρ=>ρ=[nv t,.vl (.lst (natsD (u::us))),.ow (natsD R),.ow (M.map L2.pairD),.un,.un]) (λM2 hM2=>hM2 _ rfl) ?_;rintro _ rfl;refine cutS (λρ=>ρ=[nv t,.vl (.lst (natsD (u::us))),.ow (natsD R),.ow (M.map L2.pairD),nv u,.un]) (λM2 hM2=>bD rfl (A7 _) (hM2 _ rfl)) ?_;rintro _ rfl;have e1:L2.cutD (natsD (u::us)) (some 1) none=natsD us:=by
  show L2.cutD (natsD (u::us)) (some ((1:Nat):Int)) none=_;rw[iB];rfl
 show forA _ _ _ _ (L2.cutD (natsD (u::us)) (some 1) none) _;rw[e1];refine fQ nD (λk ρ=>k<=k0/\∃s5,ρ=[nv t,.vl (.lst (natsD (u::us))),.ow (natsD (juS (us.take k) u R M).2.1),.ow ((juS (us.take k) u R M).2.2.map L2.pairD),nv (juS (us.take k) u R M).1,s5]) (λ_ _ _=>trivial) ?_ (λρ ⟨h,_⟩=>absurd hk0 (by omega)) ⟨wp _,.un,rfl⟩;rintro k x _ M3 hx ⟨hkk,s5,rfl⟩ hM3;have hk:=(lm.mp hx).1;have hxu:x<R.length:=hu x (wQ _ (wr hx));have hsn:us.take (k+1)=us.take k++[x]:=by rw[zG,hx];rfl
 have hne:k<k0->(juS (us.take k) u R M).2.1.getD (juS (us.take k) u R M).1 0≠(juS (us.take k) u R M).2.1.getD x 0:=λlt=>jN (us.take k) (y:=x) (ys:=(us.take k0).drop (k+1)) M (by rw[<- iV hx lt];exact ok0);have heq:k=k0->(juS (us.take k) u R M).2.1.getD (juS (us.take k) u R M).1 0=(juS (us.take k) u R M).2.1.getD x 0:=λe=>by
  subst e;rw[hx]at hy0;injection hy0 with hy0;rw[hy0];exact eq0
 have ln:=eI (us.take k) u R M;have lt:=kD (us.take k) (g:=u) (R:=R) (M:=M) (hu u (wV ..));have tk:(us.take k).length<=us.length:=by rw[xm];omega
 have hnext:=gQ (us.take k) x u R M;rw[<- hsn]at hnext;generalize juS (us.take k) u R M=J at *;obtain⟨g,R1,M1⟩:=J;dsimp only at ln lt hne heq hnext ⊢;refine gaN1 ?_;show aSeq _ _ _ [nv t,.vl (.lst (natsD (u::us))),.ow (natsD R1),.ow (M1.map L2.pairD),nv g,nv x];by_cases hc:k=k0
 ·refine bD rfl lt (bD rfl (by omega) (dX (b:=true) rfl rfl dI ?_ ?_))
  ·show eqD (nD (R1.getD g 0)) (nD (R1.getD x 0))=true;rw[heq hc];exact e9 _
  ·exact⟨⟨by omega,by omega⟩,⟨_,rfl⟩,hq R1 M1⟩
 have hlt:k<k0:=by omega
 refine cutS (λρ=>ρ=[nv t,.vl (.lst (natsD (u::us))),.ow (natsD R1),.ow (M1.map L2.pairD),nv g,nv x]) (λM4 hM4=>bD rfl lt (bD rfl (by omega) (dX rfl rfl dI rfl (ite2 (λz=>?_) λ_=>hM4 _ rfl)))) ?_
 ·exfalso;apply hne hlt;have:=of_decide_eq_true (p:=((R1.getD g 0:Nat):Int)=((R1.getD x 0:Nat):Int)) z;omega
 rintro _ rfl;refine cutS (λρ=>ρ=[nv t,.vl (.lst (natsD (u::us))),.ow (natsD R1),.ow ((M1++[(min g x,max g x)]).map L2.pairD),nv g,nv x]) (λM4 hM4=>⟨rfl,g,x,rfl,by rw[db];omega,?_⟩) ?_
 ·have:=hM4 _ rfl;rw[wJ]at this;exact this
 rintro _ rfl;refine cutS (λρ=>ρ=[nv t,.vl (.lst (natsD (u::us))),.ow (natsD (R1++[R1.getD g 0 ^^^ R1.getD x 0])),.ow ((M1++[(min g x,max g x)]).map L2.pairD),nv g,nv x]) (λM4 hM4=>bD rfl lt (bD rfl (by omega) ⟨rfl,_,_,rfl,by rw[aQ];omega,?_⟩)) ?_
 ·have:=hM4 _ rfl;rw[bP]at this;exact this
 rintro _ rfl;refine hM3 _ ⟨hlt,nv x,?_⟩;rw[hnext];have eg:((((natsD (R1++[R1.getD g 0 ^^^ R1.getD x 0])).length:Nat):Int) - 1)=((R1.length:Nat):Int):=by rw[aQ,wb,wH];omega
 show[nv t,.vl (.lst (natsD (u::us))),.ow (natsD (R1++[R1.getD g 0 ^^^ R1.getD x 0])),.ow ((M1++[(min g x,max g x)]).map L2.pairD),Sv.vl (D.int ((((natsD (R1++[R1.getD g 0 ^^^ R1.getD x 0])).length:Nat):Int) - 1)),nv x]=_;rw[eg]
theorem d7 {gA0:Addr}(m_TooMany:mg "TooMany" = some (.ref gA0))(e_TooMany:yz K gA0 bmV "ValueError.__new__" = true)(dn:DefN K mg "turned_net" bL ["net"])(B:BI mg)(gB2:∃u,mg "MOST_GIVENS" = some u/\RelV (.int 12) u)(gB3:∃u,mg "MOST_JOINS" = some u/\RelV (.int 132) u):OkX P w K mg base 1 "turned_net" ["net"] gA0 none (spA K qb):=by
 refine dn.aokX (k:=0) az (λj=>j==0) [.un,.un,.un,.un,.un,.un,.un,.un,.un,.un,.un] qb gA0 none rfl (λf cdv A outer s H E hr=>have hu:=eK hr;⟨_,(aL (bZ (i5 (pv 0) (cE K (n:=3) rfl (aY (aS (i:=1) az.nd rfl (by first | exact Or.inl rfl | exact Or.inr rfl)) (aY (aS (i:=2) az.nd rfl (by first | exact Or.inl rfl | exact Or.inr rfl)) (aY (aS (i:=3) az.nd rfl (by first | exact Or.inl rfl | exact Or.inr rfl)) cD))))))
  (aL (g_ (PW.pt (oO (bw gk (aJ (aN K) rfl B.len_ bu (af (pv 3) ar)) (kx gB2 rfl) (bO _)) (km (bw gk (bf cF (bf bN (aJ (aN K) rfl B.len_ bu (af (pv 2) ar)) (aJ (aN K) rfl B.len_ bu (af (pv 3) ar))) (pv 1)) (kx gB3 rfl) (bO _)))))
  (aL (oS tie1 rfl m_TooMany e_TooMany cp)
  bH)
  bH)
  dA)),(aw (f_ aj (bW (aM (aF rfl) (aM (aF rfl) (aM (aF rfl) bK (λ_ _ _=>bq)) (λ_ _ _=>bq)) (λ_ _ _=>bq))))
  (aw (ck (gW (bc (aD dg (bb aW (aa aj aq)) aE)) (bc (aD dg (aD aP (aD aP (bb aW (aa aj aq)) (bb aW (aa aj aq))) aj) aE)))
  (aw (bS fZ)
  ba)
  ba)
  bV))⟩) ?_
 rintro ss q ⟨N,rfl,hN,ho,hq⟩;have jl:=hN.jl;have m12:=hN.m12;refine⟨rfl,rfl,?_⟩;refine cutS (λρ=>ρ=[.vl (netD N),nv N.m,.vl (.tup (N.js.map L2.pairD)),.vl (.tup (natsD N.os)),.un,.un,.un,.un,.un,.un,.un,.un]) (λM hM=>hM _ rfl) ?_;rintro _ rfl;have g:(if decide ((12:Int)<(((natsD N.os).length:Nat):Int))=true then true else decide ((132:Int)<(((N.js.map L2.pairD).length:Nat):Int)+(((natsD N.os).length:Nat):Int) - (N.m:Int)))=true:=by
  rw[aQ,db];by_cases h:12<N.os.length
  ·rw[if_pos (decide_eq_true (by omega))]
  ·rw[if_neg (by rw[decide_eq_true_eq];omega),decide_eq_true_eq];omega
 show if decide ((12:Int)<(((natsD N.os).length:Nat):Int))=true then _ else(if decide ((132:Int)<(((N.js.map L2.pairD).length:Nat):Int)+(((natsD N.os).length:Nat):Int) - (N.m:Int))=true then _ else _)
 by_cases h:decide ((12:Int)<(((natsD N.os).length:Nat):Int))=true
 ·rw[if_pos h];exact⟨⟨_,rfl⟩,hq⟩
 ·rw[if_neg h]at g ⊢;rw[if_pos g];exact⟨⟨_,rfl⟩,hq⟩
theorem fg {v6 gA1 f_Loose:Addr}(m_Loose:mg "Loose" = some (.ref v6))(m_JoinError:mg "JoinError" = some (.ref gA1))(in_Loose:j0 K v6 f_Loose "thing" "Loose.__init__" du ["self", "thing"])(bs_JoinError:k7 K gA1)(dn:DefN K mg "turned_net" bL ["net"])(B:BI mg)(gB4:OkN P w K mg base 1 "out_uses" ["net"] (spA K fV))(gB5:OkN P w K mg base 1 "own_rows" ["many"] (spA K SOwn))(gA9:OkN P w K mg base 2 "joined_uses" ["thing", "uses", "rows", "made"] (spA K k6))(gB7:OkX P w K mg base 3 "joined_uses" ["thing", "uses", "rows", "made"] v6 (some "thing") (spA K qe))(gB2:∃u,mg "MOST_GIVENS" = some u/\RelV (.int 12) u)(gB3:∃u,mg "MOST_JOINS" = some u/\RelV (.int 132) u):OkX P w K mg base 4 "turned_net" ["net"] v6 (some "thing") (spA K qc):=by
 refine dn.aokX (k:=3) az (λj=>j==0) [.un,.un,.un,.un,.un,.un,.un,.un,.un,.un,.un] qc v6 (some "thing") rfl (λf cdv A outer s H E hr=>have hu:=eK hr;⟨_,(aL (bZ (i5 (pv 0) (cE K (n:=3) rfl (aY (aS (i:=1) az.nd rfl (by first | exact Or.inl rfl | exact Or.inr rfl)) (aY (aS (i:=2) az.nd rfl (by first | exact Or.inl rfl | exact Or.inr rfl)) (aY (aS (i:=3) az.nd rfl (by first | exact Or.inl rfl | exact Or.inr rfl)) cD))))))
  (aL (g_ (PW.pt (oO (bw gk (aJ (aN K) rfl B.len_ bu (af (pv 3) ar)) (kx gB2 rfl) (bO _)) (km (bw gk (bf cF (bf bN (aJ (aN K) rfl B.len_ bu (af (pv 2) ar)) (aJ (aN K) rfl B.len_ bu (af (pv 3) ar))) (pv 1)) (kx gB3 rfl) (bO _)))))
  (aL fH
  bH)
  bH)
  (aL (bZ (a_ (i:=4) az.nd rfl (by first | exact Or.inl rfl | exact Or.inr rfl) (b_ gB4 (hr.mono (by decide)) (af (pv 0) ar))))
  (aL (bZ (a_ (i:=5) az.nd rfl (by first | exact Or.inl rfl | exact Or.inr rfl) (b_ gB5 (hr.mono (by decide)) (af (aJ (aN K) rfl B.len_ bu (af (pv 3) ar)) ar))))
  (aL (bZ (a_ (i:=6) az.nd rfl (by first | exact Or.inl rfl | exact Or.inr rfl) (dv ar)))
  (aL (jE rfl (oW K rfl B.reversed_ (af (oZ K rfl rfl B.list_ rfl B.enumerate_ (af (pv 2) ar)) ar)) (cE K (n:=2) rfl (aY (aS (i:=7) az.nd rfl (by first | exact Or.inl rfl | exact Or.inr rfl)) (aY (cE K (n:=2) rfl (aY (aS (i:=8) az.nd rfl (by first | exact Or.inl rfl | exact Or.inr rfl)) (aY (aS (i:=9) az.nd rfl (by first | exact Or.inl rfl | exact Or.inr rfl)) cD))) cD)))
  (aL (rz (mx (oR gB7 (hr.mono (by decide)) rD (af (bf bN (pv 1) (pv 7)) (af (bA (aO K) (pv 4) (bf bN (pv 1) (pv 7)) (λ_ _=>rfl)) (af (pv 5) (af (pv 6) ar)))))) (bZ (gH (a_ (i:=10) az.nd rfl (by first | exact Or.inl rfl | exact Or.inr rfl) (b_ gA9 (hr.mono (by decide)) (af (bf bN (pv 1) (pv 7)) (af (bA (aO K) (pv 4) (bf bN (pv 1) (pv 7)) (λ_ _=>rfl)) (af (pv 5) (af (pv 6) ar)))))))))
  (aL (bZ (gH (bM (cH K wc v_ v9 bx (bA (aO K) (pv 4) (pv 8) (λ_ _=>rfl)) (af (pv 10) ar)))))
  (aL (bZ (gH (bM (cH K wc v_ v9 bx (bA (aO K) (pv 4) (pv 9) (λ_ _=>rfl)) (af (pv 10) ar)))))
  bH))))
  (aL (mx (kn ["given"] [4,5,6] rfl (Blk.of (aK bL) cX) (lz rfl B.reversed_ rfl B.range_ (af (pv 1) ar)) (λ_ _ _ _ nd=>(aS (i:=0) nd rfl (by first | exact Or.inl rfl | exact Or.inr rfl))) (λ_ _ _ _=>(b_ gA9 (hr.mono (by decide)) (af (pv 0) (af (bA (aO K) (pv 1) (pv 0) (λ_ _=>rfl)) (af (pv 2) (af (pv 3) ar)))))) (λD eD _ _ _ _ _ _ _ _ _ I f2 sz=>uB eD gB7 (hr.mono (by decide)) (rC I f2 sz) (af (pv 0) (af (bA (aO K) (pv 1) (pv 0) (λ_ _=>rfl)) (af (pv 2) (af (pv 3) ar)))))))
  dA))))))),(aw (f_ aj (bW (aM (aF rfl) (aM (aF rfl) (aM (aF rfl) bK (λ_ _ _=>bq)) (λ_ _ _=>bq)) (λ_ _ _=>bq))))
  (aw (ck (gW (bc (aD dg (bb aW (aa aj aq)) aE)) (bc (aD dg (aD aP (aD aP (bb aW (aa aj aq)) (bb aW (aa aj aq))) aj) aE)))
  (aw bV
  ba)
  ba)
  (aw (aT (aU (aa aj aq)) rfl)
  (aw (aT (aU (aa (bb aW (aa aj aq)) aq)) rfl)
  (aw (aT (cI aq) rfl)
  (aw (cA (pin:=(λ_=>false)) (ju (aa (la (aa aj aq)) aq)) (bW (aM (aF rfl) (aM (bW (aM (aF rfl) (aM (aF rfl) bK (λ_ _ _=>bq)) (λ_ _ _=>bq))) bK (λ_ _ _=>pJ)) (λ_ _ _=>bq)))
  (aw (kf (fF (i:=4) (bS (aU (aa (aD aP aj aj) (aa (aD bh aj (aD aP aj aj)) (aa aj (aa aj aq))))))) (gP (i:=4) (aT (aU (aa (aD aP aj aj) (aa (aD bh aj (aD aP aj aj)) (aa aj (aa aj aq))))) rfl)))
  (aw (da (i:=4) (j:=8) (k:=10))
  (aw (da (i:=4) (j:=9) (k:=10))
  ba))))
  (aw (fF (i:=4) (ke (gZ (aa aj aq)) (aF rfl) (aU (aa aj (aa (aD bh aj aj) (aa aj (aa aj aq))))) (aU (aa aj (aa (aD bh aj aj) (aa aj (aa aj aq)))))))
  bV)))))))⟩) ?_
 rintro ss q ⟨N,i,rfl,hN,ho,hj,hi,pre,hE,hq⟩;have jl:=hN.jl;have m12:=hN.m12;have o1:=hN.o1;refine⟨rfl,rfl,?_⟩;refine cutS (λρ=>ρ=[.vl (netD N),nv N.m,.vl (.tup (N.js.map L2.pairD)),.vl (.tup (natsD N.os)),.un,.un,.un,.un,.un,.un,.un,.un]) (λM hM=>hM _ rfl) ?_;rintro _ rfl;refine cutS (λρ=>ρ=[.vl (netD N),nv N.m,.vl (.tup (N.js.map L2.pairD)),.vl (.tup (natsD N.os)),.un,.un,.un,.un,.un,.un,.un,.un]) (λM hM=>?_) ?_
 ·have g1:decide ((12:Int)<(((natsD N.os).length:Nat):Int))=false:=by rw[aQ,decide_eq_false_iff_not];omega
  have g2:decide ((132:Int)<(((N.js.map L2.pairD).length:Nat):Int)+(((natsD N.os).length:Nat):Int) - (N.m:Int))=false:=by rw[aQ,db,decide_eq_false_iff_not];omega
  show if decide ((12:Int)<(((natsD N.os).length:Nat):Int))=true then _ else(if decide ((132:Int)<(((N.js.map L2.pairD).length:Nat):Int)+(((natsD N.os).length:Nat):Int) - (N.m:Int))=true then _ else _)
  rw[g1,g2];exact hM _ rfl
 rintro _ rfl;refine cutS (λρ=>ρ=[.vl (netD N),nv N.m,.vl (.tup (N.js.map L2.pairD)),.vl (.tup (natsD N.os)),.ll ((dH N).map natsD),.un,.un,.un,.un,.un,.un,.un]) (λM hM=>⟨rfl,N,rfl,hN,hM _ rfl⟩) ?_;rintro _ rfl;refine cutS (λρ=>ρ=[.vl (netD N),nv N.m,.vl (.tup (N.js.map L2.pairD)),.vl (.tup (natsD N.os)),.ll ((dH N).map natsD),.ow (natsD (aZ N.os.length)),.un,.un,.un,.un,.un,.un]) (λM hM=>?_) ?_
 ·refine⟨rfl,N.os.length,by rw[aQ];rfl,by omega,hM _ rfl⟩
 rintro _ rfl;refine cutS (λρ=>ρ=[.vl (netD N),nv N.m,.vl (.tup (N.js.map L2.pairD)),.vl (.tup (natsD N.os)),.ll ((dH N).map natsD),.ow (natsD (aZ N.os.length)),.ow (([]:List (Nat×Nat)).map L2.pairD),.un,.un,.un,.un,.un]) (λM hM=>⟨wp _,hM _ rfl⟩) ?_;rintro _ rfl;refine cutS (λρ=>N.js.length<=i/\∃s7 s8 s9 s10,svNs [s7,s8,s9,s10]=true/\ρ=[.vl (netD N),nv N.m,.vl (.tup (N.js.map L2.pairD)),.vl (.tup (natsD N.os)),.ll ((tuAt N N.js.length).1.map natsD),.ow (natsD (tuAt N N.js.length).2.1),.ow ((tuAt N N.js.length).2.2.map L2.pairD),s7,s8,s9,s10,.un]) (λM hM=>?_) ?_
 ·refine dM (λk ρ=>k<=i/\k<=N.js.length/\∃s7 s8 s9 s10,svNs [s7,s8,s9,s10]=true/\ρ=[.vl (netD N),nv N.m,.vl (.tup (N.js.map L2.pairD)),.vl (.tup (natsD N.os)),.ll ((tuAt N k).1.map natsD),.ow (natsD (tuAt N k).2.1),.ow ((tuAt N k).2.2.map L2.pairD),s7,s8,s9,s10,.un]) (λ_ _ _ _=>trivial) ?_ (λρ ⟨ki,_,s7,s8,s9,s10,h1,e⟩=>?_) _ ⟨wp _,wp _,.un,.un,.un,.un,rfl,rfl⟩
  ·rintro k d _ M2 hk ⟨ki,_,s7,s8,s9,s10,hsv,rfl⟩ hM2;have lk:k<N.js.length:=by
    have:=(lm.mp hk).1;rwa [xq,bG,db]at this
   rw[yi (by rw[bG,db];exact lk),bG,db]at hk;obtain⟨x,ex,rfl⟩:=dD hk;rw[sB]at ex;obtain⟨p,ep,rfl⟩:=wt.mp ex;rw[x5];have I:=cY hN k (by omega) λi' h=>pre i' (by omega);refine lg (d2:=nD p.1) (d3:=nD p.2) ?_;show aSeq _ _ _ [.vl (netD N),nv N.m,.vl (.tup (N.js.map L2.pairD)),.vl (.tup (natsD N.os)),.ll ((tuAt N k).1.map natsD),.ow (natsD (tuAt N k).2.1),.ow ((tuAt N k).2.2.map L2.pairD),nv (N.js.length - 1 - k),nv p.1,nv p.2,s10,.un];have pm:=fK (h_ hN.js) ep;rw[df]at pm;have lt:N.m+(N.js.length - 1 - k)<(tuAt N k).1.length:=by rw[I.l];omega
   have hmem:=bz lt;have hat:=nI lt;have hU:=I.u _ hmem;have hR:=I.r _ hmem;have s10n:svN s10=true:=br 3 hsv;have ec:((N.m:Int)+((N.js.length - 1 - k:Nat):Int))=((N.m+(N.js.length - 1 - k):Nat):Int):=by omega
   have rl:=I.rl;have ml:=I.ml;have l1:=I.l;have et:thg N k=N.m+(N.js.length - 1 - k):=by unfold thg;omega
   by_cases kc:k=i
   ·subst kc;rw[fj lk]at hE;refine .inl ⟨(tuAt N k).1.map natsD,rfl,sv4 N _ _ ?_,cQ _,?_⟩
    ·show(true&&(true&&(true&&(svN s10&&true))))=true;rw[s10n];rfl
    ·refine gJ rfl (by rw[ec];exact hat) ?_;rw[hE];refine⟨rfl,N.m+(N.js.length - 1 - k),(tuAt N k).2.1,(tuAt N k).2.2,?_,by omega,?_⟩
     ·show[Sv.vl (.int ((N.m:Int)+((N.js.length - 1 - k:Nat):Int))),_,_,_]=_;rw[ec];rfl
     ·rw[<- et];exact⟨rfl,sv4 N _ _ (by show(true&&(true&&(true&&(svN s10&&true))))=true;rw[s10n];rfl),⟨_,rfl,rfl⟩,⟨_,rfl⟩,hq⟩
   have okj:=pre k (by omega);have I2:=cY hN (k+1) (by omega) λi' h=>pre i' (by omega);unfold stOk at okj;rw[fj lk,gr lk]at okj;have hnx:tuAt N (k+1)=(app (app (tuAt N k).1 p.1 (juU ((tuAt N k).1.getD (N.m+(N.js.length - 1 - k)) []) (tuAt N k).2.1 (tuAt N k).2.2).1) p.2 (juU ((tuAt N k).1.getD (N.m+(N.js.length - 1 - k)) []) (tuAt N k).2.1 (tuAt N k).2.2).1,(juU ((tuAt N k).1.getD (N.m+(N.js.length - 1 - k)) []) (tuAt N k).2.1 (tuAt N k).2.2).2.1,(juU ((tuAt N k).1.getD (N.m+(N.js.length - 1 - k)) []) (tuAt N k).2.1 (tuAt N k).2.2).2.2):=by
    have egp:N.js.getD (N.js.length - 1 - k) (0,0)=p:=by rw[li,ep];rfl
    rw[tuAt,egp]
   generalize hus:(tuAt N k).1.getD (N.m+(N.js.length - 1 - k)) []=us at *;obtain⟨u,us',rfl⟩:=wE okj.1;have hj2:=okj.2;rw[hnx]at I2;generalize tuAt N k=S at *;rw[wn]at hU;refine cutS (λρ=>ρ=[.vl (netD N),nv N.m,.vl (.tup (N.js.map L2.pairD)),.vl (.tup (natsD N.os)),.ll (S.1.map natsD),.ow (natsD (juU (u::us') S.2.1 S.2.2).2.1),.ow ((juU (u::us') S.2.1 S.2.2).2.2.map L2.pairD),nv (N.js.length - 1 - k),nv p.1,nv p.2,nv (juU (u::us') S.2.1 S.2.2).1,.un]) (λM3 hM3=>.inr ⟨S.1.map natsD,rfl,sv4 N _ _ ?_,cQ _,?_⟩) ?_
   ·show(true&&(true&&(true&&(svN s10&&true))))=true;rw[s10n];rfl
   ·refine gJ rfl (by rw[ec];exact hat) ⟨rfl,N.m+(N.js.length - 1 - k),u,us',S.2.1,S.2.2,?_,hR,hj2,by omega,by omega,?_⟩
    ·show[Sv.vl (.int ((N.m:Int)+((N.js.length - 1 - k:Nat):Int))),_,_,_]=_;rw[ec];rfl
    ·exact⟨rfl,sv4 N _ _ rfl,hM3 _ rfl⟩
   rintro _ rfl;refine cutS (λρ=>ρ=[.vl (netD N),nv N.m,.vl (.tup (N.js.map L2.pairD)),.vl (.tup (natsD N.os)),.ll ((app S.1 p.1 (juU (u::us') S.2.1 S.2.2).1).map natsD),.ow (natsD (juU (u::us') S.2.1 S.2.2).2.1),.ow ((juU (u::us') S.2.1 S.2.2).2.2.map L2.pairD),nv (N.js.length - 1 - k),nv p.1,nv p.2,nv (juU (u::us') S.2.1 S.2.2).1,.un]) (λM3 hM3=>⟨S.1.map natsD,p.1,_,rfl,rfl,rfl,by rw[db];omega,?_,?_⟩) ?_
   ·rw[i7];have:=I.u _ (bz (show p.1<S.1.length by omega));omega
   ·have:=hM3 _ rfl;rw[<- fb]at this;exact this
   rintro _ rfl;refine cutS (λρ=>ρ=[.vl (netD N),nv N.m,.vl (.tup (N.js.map L2.pairD)),.vl (.tup (natsD N.os)),.ll ((app (app S.1 p.1 (juU (u::us') S.2.1 S.2.2).1) p.2 (juU (u::us') S.2.1 S.2.2).1).map natsD),.ow (natsD (juU (u::us') S.2.1 S.2.2).2.1),.ow ((juU (u::us') S.2.1 S.2.2).2.2.map L2.pairD),nv (N.js.length - 1 - k),nv p.1,nv p.2,nv (juU (u::us') S.2.1 S.2.2).1,.un]) (λM3 hM3=>⟨(app S.1 p.1 (juU (u::us') S.2.1 S.2.2).1).map natsD,p.2,nD (juU (u::us') S.2.1 S.2.2).1,rfl,rfl,rfl,by rw[db,dj];omega,?_,?_⟩) ?_
   ·rw[i7];rcases jZ (bz (show p.2<(app S.1 p.1 (juU (u::us') S.2.1 S.2.2).1).length by rw[dj];omega))with z | ⟨z,e⟩
    ·have:=I.u _ z;omega
    ·have:=I.u _ z;rw[e,wb,wH];omega
   ·have:=hM3 _ rfl;rw[<- fb]at this;exact this
   rintro _ rfl;refine hM2 _ ⟨by omega,by omega,nv (N.js.length - 1 - k),nv p.1,nv p.2,nv (juU (u::us') S.2.1 S.2.2).1,rfl,?_⟩;rw[hnx]
  ·rw[xq,bG,db]at e ki;exact hM ρ ⟨ki,s7,s8,s9,s10,h1,e⟩
 rintro _ ⟨ji,s7,s8,s9,s10,hsv,rfl⟩;have I:=cY hN N.js.length (ms _) λi' h=>pre i' (by omega);obtain⟨j,rfl⟩:∃j,i=N.js.length+j:=⟨i - N.js.length,by omega⟩
 have et:thg N (N.js.length+j)=N.m - 1 - j:=by unfold thg;omega
 rw[fk]at hE;refine⟨_,rfl,sv4 N _ _ ?_,cQ _,?_⟩
 ·show svNs [s7,s8,s9,s10,.un]=true;have h0:=br 0 hsv;have h1:=br 1 hsv;have h2:=br 2 hsv;have h3:=br 3 hsv;show(svN s7&&(svN s8&&(svN s9&&(svN s10&&true))))=true;rw[show svN s7=true from h0,show svN s8=true from h1,show svN s9=true from h2,show svN s10=true from h3];rfl
 refine⟨⟨by omega,by omega⟩,?_⟩;refine⟨by rw[dy];omega,?_⟩;refine ja (λk acc ρ=>k<=j/\acc=natsD (tgAt N k).1/\ρ=[.vl (netD N),nv N.m,.vl (.tup (N.js.map L2.pairD)),.vl (.tup (natsD N.os)),.vl (llD ((tuAt N N.js.length).1.map natsD)),.ow (natsD (tgAt N k).2.1),.ow ((tgAt N k).2.2.map L2.pairD),s7,s8,s9,s10,.un]) (λ_ _ _ _=>trivial) ?_ (λacc ρ ⟨h,_⟩=>by rw[dy]at h;omega) _ ⟨wp _,rfl,rfl⟩;rintro k d acc _ M2 hk ⟨kj,rfl,rfl⟩ hM2;obtain⟨lk,rfl⟩:=gU hk;have lk:k<N.m:=by omega
 obtain⟨g1,g2,g3,g4⟩:=jv hN k (by omega) λi' h=>pre i' (by omega)
 have lt:N.m - 1 - k<(tuAt N N.js.length).1.length:=by rw[I.l];omega
 have hmem:=bz lt;have hat:=nI lt;have hU:=I.u _ hmem;have hR:=I.r _ hmem;have ec:((N.m:Int) - 1 - (k:Int))=((N.m - 1 - k:Nat):Int):=by omega
 refine gaN1 ?_;rw[ec];by_cases kc:k=j
 ·subst kc;refine .inr (gJ rfl hat ?_);rw[hE];refine⟨rfl,N.m - 1 - k,(tgAt N k).2.1,(tgAt N k).2.2,rfl,by omega,?_⟩;rw[<- et];exact⟨_,rfl,rfl,sv4 N _ _ (by show(svN s7&&(svN s8&&(svN s9&&(svN s10&&true))))=true;rw[show svN s7=true from br 0 hsv,show svN s8=true from br 1 hsv,show svN s9=true from br 2 hsv,show svN s10=true from br 3 hsv];rfl),⟨_,rfl,rfl⟩,⟨_,rfl⟩,hq⟩
 have okg:=pre (N.js.length+k) (by omega);unfold stOk at okg;rw[fk,fE]at okg;have ht:tgAt N (k+1)=((tgAt N k).1++[(juU ((tuAt N N.js.length).1.getD (N.m - 1 - k) []) (tgAt N k).2.1 (tgAt N k).2.2).1],(juU ((tuAt N N.js.length).1.getD (N.m - 1 - k) []) (tgAt N k).2.1 (tgAt N k).2.2).2.1,(juU ((tuAt N N.js.length).1.getD (N.m - 1 - k) []) (tgAt N k).2.1 (tgAt N k).2.2).2.2):=by rw[tgAt]
 generalize hus:(tuAt N N.js.length).1.getD (N.m - 1 - k) []=us at *;obtain⟨u,us',rfl⟩:=wE okg.1;have hj2:=okg.2;rw[wn]at hU;refine .inl (gJ rfl hat ⟨rfl,N.m - 1 - k,u,us',(tgAt N k).2.1,(tgAt N k).2.2,rfl,λx hx=>o0 (hR x hx) g3,hj2,by omega,by omega,?_⟩);refine hM2 _ _ ⟨by omega,?_,?_⟩
 ·rw[ht];show natsD (tgAt N k).1++[nD _]=natsD ((tgAt N k).1++[_]);rw[bP];rfl
 ·rw[ht];rfl
theorem eB {v4 gA1 f_Nought:Addr}(m_Nought:mg "Nought" = some (.ref v4))(m_JoinError:mg "JoinError" = some (.ref gA1))(in_Nought:j0 K v4 f_Nought "at" "Nought.__init__" cO ["self", "at"])(bs_JoinError:k7 K gA1)(dn:DefN K mg "turned_net" bL ["net"])(B:BI mg)(gB4:OkN P w K mg base 1 "out_uses" ["net"] (spA K fV))(gB5:OkN P w K mg base 1 "own_rows" ["many"] (spA K SOwn))(gA9:OkN P w K mg base 2 "joined_uses" ["thing", "uses", "rows", "made"] (spA K k6))(gB6:OkX P w K mg base 3 "joined_uses" ["thing", "uses", "rows", "made"] v4 (some "at") (spA K qd))(gB2:∃u,mg "MOST_GIVENS" = some u/\RelV (.int 12) u)(gB3:∃u,mg "MOST_JOINS" = some u/\RelV (.int 132) u):OkX P w K mg base 4 "turned_net" ["net"] v4 (some "at") (spA K qa):=by
 refine dn.aokX (k:=3) az (λj=>j==0) [.un,.un,.un,.un,.un,.un,.un,.un,.un,.un,.un] qa v4 (some "at") rfl (λf cdv A outer s H E hr=>have hu:=eK hr;⟨_,(aL (bZ (i5 (pv 0) (cE K (n:=3) rfl (aY (aS (i:=1) az.nd rfl (by first | exact Or.inl rfl | exact Or.inr rfl)) (aY (aS (i:=2) az.nd rfl (by first | exact Or.inl rfl | exact Or.inr rfl)) (aY (aS (i:=3) az.nd rfl (by first | exact Or.inl rfl | exact Or.inr rfl)) cD))))))
  (aL (g_ (PW.pt (oO (bw gk (aJ (aN K) rfl B.len_ bu (af (pv 3) ar)) (kx gB2 rfl) (bO _)) (km (bw gk (bf cF (bf bN (aJ (aN K) rfl B.len_ bu (af (pv 2) ar)) (aJ (aN K) rfl B.len_ bu (af (pv 3) ar))) (pv 1)) (kx gB3 rfl) (bO _)))))
  (aL fH
  bH)
  bH)
  (aL (bZ (a_ (i:=4) az.nd rfl (by first | exact Or.inl rfl | exact Or.inr rfl) (b_ gB4 (hr.mono (by decide)) (af (pv 0) ar))))
  (aL (bZ (a_ (i:=5) az.nd rfl (by first | exact Or.inl rfl | exact Or.inr rfl) (b_ gB5 (hr.mono (by decide)) (af (aJ (aN K) rfl B.len_ bu (af (pv 3) ar)) ar))))
  (aL (bZ (a_ (i:=6) az.nd rfl (by first | exact Or.inl rfl | exact Or.inr rfl) (dv ar)))
  (aL (jE rfl (oW K rfl B.reversed_ (af (oZ K rfl rfl B.list_ rfl B.enumerate_ (af (pv 2) ar)) ar)) (cE K (n:=2) rfl (aY (aS (i:=7) az.nd rfl (by first | exact Or.inl rfl | exact Or.inr rfl)) (aY (cE K (n:=2) rfl (aY (aS (i:=8) az.nd rfl (by first | exact Or.inl rfl | exact Or.inr rfl)) (aY (aS (i:=9) az.nd rfl (by first | exact Or.inl rfl | exact Or.inr rfl)) cD))) cD)))
  (aL (rz (mx (oR gB6 (hr.mono (by decide)) rD (af (bf bN (pv 1) (pv 7)) (af (bA (aO K) (pv 4) (bf bN (pv 1) (pv 7)) (λ_ _=>rfl)) (af (pv 5) (af (pv 6) ar)))))) (bZ (gH (a_ (i:=10) az.nd rfl (by first | exact Or.inl rfl | exact Or.inr rfl) (b_ gA9 (hr.mono (by decide)) (af (bf bN (pv 1) (pv 7)) (af (bA (aO K) (pv 4) (bf bN (pv 1) (pv 7)) (λ_ _=>rfl)) (af (pv 5) (af (pv 6) ar)))))))))
  (aL (bZ (gH (bM (cH K wc v_ v9 bx (bA (aO K) (pv 4) (pv 8) (λ_ _=>rfl)) (af (pv 10) ar)))))
  (aL (bZ (gH (bM (cH K wc v_ v9 bx (bA (aO K) (pv 4) (pv 9) (λ_ _=>rfl)) (af (pv 10) ar)))))
  bH))))
  (aL (mx (kn ["given"] [4,5,6] rfl (Blk.of (aK bL) cX) (lz rfl B.reversed_ rfl B.range_ (af (pv 1) ar)) (λ_ _ _ _ nd=>(aS (i:=0) nd rfl (by first | exact Or.inl rfl | exact Or.inr rfl))) (λ_ _ _ _=>(b_ gA9 (hr.mono (by decide)) (af (pv 0) (af (bA (aO K) (pv 1) (pv 0) (λ_ _=>rfl)) (af (pv 2) (af (pv 3) ar)))))) (λD eD _ _ _ _ _ _ _ _ _ I f2 sz=>uB eD gB6 (hr.mono (by decide)) (rC I f2 sz) (af (pv 0) (af (bA (aO K) (pv 1) (pv 0) (λ_ _=>rfl)) (af (pv 2) (af (pv 3) ar)))))))
  dA))))))),(aw (f_ aj (bW (aM (aF rfl) (aM (aF rfl) (aM (aF rfl) bK (λ_ _ _=>bq)) (λ_ _ _=>bq)) (λ_ _ _=>bq))))
  (aw (ck (gW (bc (aD dg (bb aW (aa aj aq)) aE)) (bc (aD dg (aD aP (aD aP (bb aW (aa aj aq)) (bb aW (aa aj aq))) aj) aE)))
  (aw bV
  ba)
  ba)
  (aw (aT (aU (aa aj aq)) rfl)
  (aw (aT (aU (aa (bb aW (aa aj aq)) aq)) rfl)
  (aw (aT (cI aq) rfl)
  (aw (cA (pin:=(λ_=>false)) (ju (aa (la (aa aj aq)) aq)) (bW (aM (aF rfl) (aM (bW (aM (aF rfl) (aM (aF rfl) bK (λ_ _ _=>bq)) (λ_ _ _=>bq))) bK (λ_ _ _=>pJ)) (λ_ _ _=>bq)))
  (aw (kf (fF (i:=4) (bS (aU (aa (aD aP aj aj) (aa (aD bh aj (aD aP aj aj)) (aa aj (aa aj aq))))))) (gP (i:=4) (aT (aU (aa (aD aP aj aj) (aa (aD bh aj (aD aP aj aj)) (aa aj (aa aj aq))))) rfl)))
  (aw (da (i:=4) (j:=8) (k:=10))
  (aw (da (i:=4) (j:=9) (k:=10))
  ba))))
  (aw (fF (i:=4) (ke (gZ (aa aj aq)) (aF rfl) (aU (aa aj (aa (aD bh aj aj) (aa aj (aa aj aq))))) (aU (aa aj (aa (aD bh aj aj) (aa aj (aa aj aq)))))))
  bV)))))))⟩) ?_
 rintro ss q ⟨N,i,rfl,hN,ho,hj,hi,pre,hE,hno,hq⟩;have jl:=hN.jl;have m12:=hN.m12;have o1:=hN.o1;refine⟨rfl,rfl,?_⟩;refine cutS (λρ=>ρ=[.vl (netD N),nv N.m,.vl (.tup (N.js.map L2.pairD)),.vl (.tup (natsD N.os)),.un,.un,.un,.un,.un,.un,.un,.un]) (λM hM=>hM _ rfl) ?_;rintro _ rfl;refine cutS (λρ=>ρ=[.vl (netD N),nv N.m,.vl (.tup (N.js.map L2.pairD)),.vl (.tup (natsD N.os)),.un,.un,.un,.un,.un,.un,.un,.un]) (λM hM=>?_) ?_
 ·have g1:decide ((12:Int)<(((natsD N.os).length:Nat):Int))=false:=by rw[aQ,decide_eq_false_iff_not];omega
  have g2:decide ((132:Int)<(((N.js.map L2.pairD).length:Nat):Int)+(((natsD N.os).length:Nat):Int) - (N.m:Int))=false:=by rw[aQ,db,decide_eq_false_iff_not];omega
  show if decide ((12:Int)<(((natsD N.os).length:Nat):Int))=true then _ else(if decide ((132:Int)<(((N.js.map L2.pairD).length:Nat):Int)+(((natsD N.os).length:Nat):Int) - (N.m:Int))=true then _ else _)
  rw[g1,g2];exact hM _ rfl
 rintro _ rfl;refine cutS (λρ=>ρ=[.vl (netD N),nv N.m,.vl (.tup (N.js.map L2.pairD)),.vl (.tup (natsD N.os)),.ll ((dH N).map natsD),.un,.un,.un,.un,.un,.un,.un]) (λM hM=>⟨rfl,N,rfl,hN,hM _ rfl⟩) ?_;rintro _ rfl;refine cutS (λρ=>ρ=[.vl (netD N),nv N.m,.vl (.tup (N.js.map L2.pairD)),.vl (.tup (natsD N.os)),.ll ((dH N).map natsD),.ow (natsD (aZ N.os.length)),.un,.un,.un,.un,.un,.un]) (λM hM=>?_) ?_
 ·refine⟨rfl,N.os.length,by rw[aQ];rfl,by omega,hM _ rfl⟩
 rintro _ rfl;refine cutS (λρ=>ρ=[.vl (netD N),nv N.m,.vl (.tup (N.js.map L2.pairD)),.vl (.tup (natsD N.os)),.ll ((dH N).map natsD),.ow (natsD (aZ N.os.length)),.ow (([]:List (Nat×Nat)).map L2.pairD),.un,.un,.un,.un,.un]) (λM hM=>⟨wp _,hM _ rfl⟩) ?_;rintro _ rfl;refine cutS (λρ=>N.js.length<=i/\∃s7 s8 s9 s10,svNs [s7,s8,s9,s10]=true/\ρ=[.vl (netD N),nv N.m,.vl (.tup (N.js.map L2.pairD)),.vl (.tup (natsD N.os)),.ll ((tuAt N N.js.length).1.map natsD),.ow (natsD (tuAt N N.js.length).2.1),.ow ((tuAt N N.js.length).2.2.map L2.pairD),s7,s8,s9,s10,.un]) (λM hM=>?_) ?_
 ·refine dM (λk ρ=>k<=i/\k<=N.js.length/\∃s7 s8 s9 s10,svNs [s7,s8,s9,s10]=true/\ρ=[.vl (netD N),nv N.m,.vl (.tup (N.js.map L2.pairD)),.vl (.tup (natsD N.os)),.ll ((tuAt N k).1.map natsD),.ow (natsD (tuAt N k).2.1),.ow ((tuAt N k).2.2.map L2.pairD),s7,s8,s9,s10,.un]) (λ_ _ _ _=>trivial) ?_ (λρ ⟨ki,_,s7,s8,s9,s10,h1,e⟩=>?_) _ ⟨wp _,wp _,.un,.un,.un,.un,rfl,rfl⟩
  ·rintro k d _ M2 hk ⟨ki,_,s7,s8,s9,s10,hsv,rfl⟩ hM2;have lk:k<N.js.length:=by
    have:=(lm.mp hk).1;rwa [xq,bG,db]at this
   rw[yi (by rw[bG,db];exact lk),bG,db]at hk;obtain⟨x,ex,rfl⟩:=dD hk;rw[sB]at ex;obtain⟨p,ep,rfl⟩:=wt.mp ex;rw[x5];have I:=cY hN k (by omega) λi' h=>pre i' (by omega);refine lg (d2:=nD p.1) (d3:=nD p.2) ?_;show aSeq _ _ _ [.vl (netD N),nv N.m,.vl (.tup (N.js.map L2.pairD)),.vl (.tup (natsD N.os)),.ll ((tuAt N k).1.map natsD),.ow (natsD (tuAt N k).2.1),.ow ((tuAt N k).2.2.map L2.pairD),nv (N.js.length - 1 - k),nv p.1,nv p.2,s10,.un];have pm:=fK (h_ hN.js) ep;rw[df]at pm;have lt:N.m+(N.js.length - 1 - k)<(tuAt N k).1.length:=by rw[I.l];omega
   have hmem:=bz lt;have hat:=nI lt;have hU:=I.u _ hmem;have hR:=I.r _ hmem;have s10n:svN s10=true:=br 3 hsv;have ec:((N.m:Int)+((N.js.length - 1 - k:Nat):Int))=((N.m+(N.js.length - 1 - k):Nat):Int):=by omega
   have rl:=I.rl;have ml:=I.ml;have l1:=I.l;have et:thg N k=N.m+(N.js.length - 1 - k):=by unfold thg;omega
   by_cases kc:k=i
   ·subst kc;rw[fj lk]at hE;unfold stOk at hno;rw[fj lk,gr lk]at hno;obtain⟨u,us',hus⟩:=wE hE;rw[hus]at hno hR hU;rw[wn]at hU;refine .inl ⟨(tuAt N k).1.map natsD,rfl,sv4 N _ _ ?_,cQ _,?_⟩
    ·show(true&&(true&&(true&&(svN s10&&true))))=true;rw[s10n];rfl
    ·refine gJ rfl (by rw[ec];exact hat) ?_;rw[hus];refine⟨rfl,N.m+(N.js.length - 1 - k),u,us',(tuAt N k).2.1,(tuAt N k).2.2,?_,by omega,hR,λz=>hno ⟨by simp,z⟩,by omega,by omega,λR' M'=>?_⟩
     ·show[Sv.vl (.int ((N.m:Int)+((N.js.length - 1 - k:Nat):Int))),_,_,_]=_;rw[ec];rfl
     ·rw[<- et];exact⟨rfl,sv4 N _ _ (by show(true&&(true&&(true&&(svN s10&&true))))=true;rw[s10n];rfl),⟨_,rfl,rfl⟩,⟨_,rfl⟩,hq⟩
   have okj:=pre k (by omega);have I2:=cY hN (k+1) (by omega) λi' h=>pre i' (by omega);unfold stOk at okj;rw[fj lk,gr lk]at okj;have hnx:tuAt N (k+1)=(app (app (tuAt N k).1 p.1 (juU ((tuAt N k).1.getD (N.m+(N.js.length - 1 - k)) []) (tuAt N k).2.1 (tuAt N k).2.2).1) p.2 (juU ((tuAt N k).1.getD (N.m+(N.js.length - 1 - k)) []) (tuAt N k).2.1 (tuAt N k).2.2).1,(juU ((tuAt N k).1.getD (N.m+(N.js.length - 1 - k)) []) (tuAt N k).2.1 (tuAt N k).2.2).2.1,(juU ((tuAt N k).1.getD (N.m+(N.js.length - 1 - k)) []) (tuAt N k).2.1 (tuAt N k).2.2).2.2):=by
    have egp:N.js.getD (N.js.length - 1 - k) (0,0)=p:=by rw[li,ep];rfl
    rw[tuAt,egp]
   generalize hus:(tuAt N k).1.getD (N.m+(N.js.length - 1 - k)) []=us at *;obtain⟨u,us',rfl⟩:=wE okj.1;have hj2:=okj.2;rw[hnx]at I2;generalize tuAt N k=S at *;rw[wn]at hU;refine cutS (λρ=>ρ=[.vl (netD N),nv N.m,.vl (.tup (N.js.map L2.pairD)),.vl (.tup (natsD N.os)),.ll (S.1.map natsD),.ow (natsD (juU (u::us') S.2.1 S.2.2).2.1),.ow ((juU (u::us') S.2.1 S.2.2).2.2.map L2.pairD),nv (N.js.length - 1 - k),nv p.1,nv p.2,nv (juU (u::us') S.2.1 S.2.2).1,.un]) (λM3 hM3=>.inr ⟨S.1.map natsD,rfl,sv4 N _ _ ?_,cQ _,?_⟩) ?_
   ·show(true&&(true&&(true&&(svN s10&&true))))=true;rw[s10n];rfl
   ·refine gJ rfl (by rw[ec];exact hat) ⟨rfl,N.m+(N.js.length - 1 - k),u,us',S.2.1,S.2.2,?_,hR,hj2,by omega,by omega,?_⟩
    ·show[Sv.vl (.int ((N.m:Int)+((N.js.length - 1 - k:Nat):Int))),_,_,_]=_;rw[ec];rfl
    ·exact⟨rfl,sv4 N _ _ rfl,hM3 _ rfl⟩
   rintro _ rfl;refine cutS (λρ=>ρ=[.vl (netD N),nv N.m,.vl (.tup (N.js.map L2.pairD)),.vl (.tup (natsD N.os)),.ll ((app S.1 p.1 (juU (u::us') S.2.1 S.2.2).1).map natsD),.ow (natsD (juU (u::us') S.2.1 S.2.2).2.1),.ow ((juU (u::us') S.2.1 S.2.2).2.2.map L2.pairD),nv (N.js.length - 1 - k),nv p.1,nv p.2,nv (juU (u::us') S.2.1 S.2.2).1,.un]) (λM3 hM3=>⟨S.1.map natsD,p.1,_,rfl,rfl,rfl,by rw[db];omega,?_,?_⟩) ?_
   ·rw[i7];have:=I.u _ (bz (show p.1<S.1.length by omega));omega
   ·have:=hM3 _ rfl;rw[<- fb]at this;exact this
   rintro _ rfl;refine cutS (λρ=>ρ=[.vl (netD N),nv N.m,.vl (.tup (N.js.map L2.pairD)),.vl (.tup (natsD N.os)),.ll ((app (app S.1 p.1 (juU (u::us') S.2.1 S.2.2).1) p.2 (juU (u::us') S.2.1 S.2.2).1).map natsD),.ow (natsD (juU (u::us') S.2.1 S.2.2).2.1),.ow ((juU (u::us') S.2.1 S.2.2).2.2.map L2.pairD),nv (N.js.length - 1 - k),nv p.1,nv p.2,nv (juU (u::us') S.2.1 S.2.2).1,.un]) (λM3 hM3=>⟨(app S.1 p.1 (juU (u::us') S.2.1 S.2.2).1).map natsD,p.2,nD (juU (u::us') S.2.1 S.2.2).1,rfl,rfl,rfl,by rw[db,dj];omega,?_,?_⟩) ?_
   ·rw[i7];rcases jZ (bz (show p.2<(app S.1 p.1 (juU (u::us') S.2.1 S.2.2).1).length by rw[dj];omega))with z | ⟨z,e⟩
    ·have:=I.u _ z;omega
    ·have:=I.u _ z;rw[e,wb,wH];omega
   ·have:=hM3 _ rfl;rw[<- fb]at this;exact this
   rintro _ rfl;refine hM2 _ ⟨by omega,by omega,nv (N.js.length - 1 - k),nv p.1,nv p.2,nv (juU (u::us') S.2.1 S.2.2).1,rfl,?_⟩;rw[hnx]
  ·rw[xq,bG,db]at e ki;exact hM ρ ⟨ki,s7,s8,s9,s10,h1,e⟩
 rintro _ ⟨ji,s7,s8,s9,s10,hsv,rfl⟩;have I:=cY hN N.js.length (ms _) λi' h=>pre i' (by omega);obtain⟨j,rfl⟩:∃j,i=N.js.length+j:=⟨i - N.js.length,by omega⟩
 have et:thg N (N.js.length+j)=N.m - 1 - j:=by unfold thg;omega
 rw[fk]at hE;refine⟨_,rfl,sv4 N _ _ ?_,cQ _,?_⟩
 ·show svNs [s7,s8,s9,s10,.un]=true;have h0:=br 0 hsv;have h1:=br 1 hsv;have h2:=br 2 hsv;have h3:=br 3 hsv;show(svN s7&&(svN s8&&(svN s9&&(svN s10&&true))))=true;rw[show svN s7=true from h0,show svN s8=true from h1,show svN s9=true from h2,show svN s10=true from h3];rfl
 refine⟨⟨by omega,by omega⟩,?_⟩;refine⟨by rw[dy];omega,?_⟩;refine ja (λk acc ρ=>k<=j/\acc=natsD (tgAt N k).1/\ρ=[.vl (netD N),nv N.m,.vl (.tup (N.js.map L2.pairD)),.vl (.tup (natsD N.os)),.vl (llD ((tuAt N N.js.length).1.map natsD)),.ow (natsD (tgAt N k).2.1),.ow ((tgAt N k).2.2.map L2.pairD),s7,s8,s9,s10,.un]) (λ_ _ _ _=>trivial) ?_ (λacc ρ ⟨h,_⟩=>by rw[dy]at h;omega) _ ⟨wp _,rfl,rfl⟩;rintro k d acc _ M2 hk ⟨kj,rfl,rfl⟩ hM2;obtain⟨lk,rfl⟩:=gU hk;have lk:k<N.m:=by omega
 obtain⟨g1,g2,g3,g4⟩:=jv hN k (by omega) λi' h=>pre i' (by omega)
 have lt:N.m - 1 - k<(tuAt N N.js.length).1.length:=by rw[I.l];omega
 have hmem:=bz lt;have hat:=nI lt;have hU:=I.u _ hmem;have hR:=I.r _ hmem;have ec:((N.m:Int) - 1 - (k:Int))=((N.m - 1 - k:Nat):Int):=by omega
 refine gaN1 ?_;rw[ec];by_cases kc:k=j
 ·subst kc;unfold stOk at hno;rw[fk,fE]at hno;obtain⟨u,us',hus⟩:=wE hE;rw[hus]at hno hR hU;rw[wn]at hU;refine .inr (gJ rfl hat ?_);rw[hus];refine⟨rfl,N.m - 1 - k,u,us',(tgAt N k).2.1,(tgAt N k).2.2,rfl,by omega,λx hx=>o0 (hR x hx) g3,λz=>hno ⟨by simp,z⟩,by omega,by omega,λR' M'=>?_⟩;rw[<- et];exact⟨_,rfl,rfl,sv4 N _ _ (by show(svN s7&&(svN s8&&(svN s9&&(svN s10&&true))))=true;rw[show svN s7=true from br 0 hsv,show svN s8=true from br 1 hsv,show svN s9=true from br 2 hsv,show svN s10=true from br 3 hsv];rfl),⟨_,rfl,rfl⟩,⟨_,rfl⟩,hq⟩
 have okg:=pre (N.js.length+k) (by omega);unfold stOk at okg;rw[fk,fE]at okg;have ht:tgAt N (k+1)=((tgAt N k).1++[(juU ((tuAt N N.js.length).1.getD (N.m - 1 - k) []) (tgAt N k).2.1 (tgAt N k).2.2).1],(juU ((tuAt N N.js.length).1.getD (N.m - 1 - k) []) (tgAt N k).2.1 (tgAt N k).2.2).2.1,(juU ((tuAt N N.js.length).1.getD (N.m - 1 - k) []) (tgAt N k).2.1 (tgAt N k).2.2).2.2):=by rw[tgAt]
 generalize hus:(tuAt N N.js.length).1.getD (N.m - 1 - k) []=us at *;obtain⟨u,us',rfl⟩:=wE okg.1;have hj2:=okg.2;rw[wn]at hU;refine .inl (gJ rfl hat ⟨rfl,N.m - 1 - k,u,us',(tgAt N k).2.1,(tgAt N k).2.2,rfl,λx hx=>o0 (hR x hx) g3,hj2,by omega,by omega,?_⟩);refine hM2 _ _ ⟨by omega,?_,?_⟩
 ·rw[ht];show natsD (tgAt N k).1++[nD _]=natsD ((tgAt N k).1++[_]);rw[bP];rfl
 ·rw[ht];rfl
end
noncomputable def okB (N:Net)(i:Nat):Bool:=@decide (stOk N i) (Bc _)
theorem lJ {N:Net}{i:Nat}:okB N i=true↔stOk N i:=by
 unfold okB;exact @decide_eq_true_iff _ (Bc _)
noncomputable def fstT (N:Net):Option Nat:=(wF (N.js.length+N.m)).find? λi=>!okB N i
theorem gS {N:Net}{i:Nat}(h:fstT N=some i):i<N.js.length+N.m/\(∀i',i'<i->stOk N i')/\¬stOk N i:=by
 unfold fstT at h;obtain⟨h1,j,hj,rfl,h2⟩:=List.find?_eq_some_iff_getElem.mp h;rw[yU]at hj;rw[Cy]at h1 ⊢;refine⟨hj,λi' hi=>?_,λz=>?_⟩
 ·have:=h2 i' hi;rw[Cy,Bool.not_not]at this;exact lJ.mp this
 ·rw[lJ.mpr z]at h1;cases h1
theorem mO {N:Net}(h:fstT N=none):∀i,i<N.js.length+N.m->stOk N i:=λi hi=>by
 unfold fstT at h;have:=List.find?_eq_none.mp h i (xT.mpr hi);cases z:okB N i with
 | true=>exact lJ.mp z
 | false=>rw[z]at this;exact absurd rfl this
def refD (a b c:Bool)(d:D):D:=.tup [.str "refused",.lst [.bl a,.bl b,.bl c,.bl true],.bl false,d]
noncomputable def m4 (N:Net):D :=
 if ¬(N.os.length<=12/\N.js.length+N.os.length<=N.m+132)then refD true false false .non
 else match fstT N with
  | some i=>if stU N i=[]then refD false true false (nD (thg N i))else refD false false true (nD (thg N i))
  | none=>.tup [.str "net",netD (qo N)]
def tR:ASp:=λss q=>∃N:Net,ss=[.vl (netD N)]/\dm N/\q (.d (m4 N)) [.vl (netD N)]
def tQ:ASp:=λss q=>∃N:Net,ss=[.vl (netD N)]/\dm N/\∀N':Net,dm N'->q (.d (netD N')) [.vl (netD N)]
def SDue:ASp:=λss q=>∃N:Net,ss=[.vl (netD N)]/\dm N/\q (.d (m4 N)) [.vl (netD N)]
section
variable {P:v3}{w:wz}{K:ac}{mg:Str->Option bi}{base:Heap}
def XF (K:ac)(mg:Str->Option bi):Prop:=∃v6 gA1 v4 gA0 gB0 gA6 gA2 gA7 gA4 gA8 gA5 gA3 f_Loose f_Nought:Addr,mg "Loose" = some (.ref v6)/\mg "JoinError" = some (.ref gA1)/\mg "Nought" = some (.ref v4)/\mg "TooMany" = some (.ref gA0)/\mg "Bare" = some (.ref gB0)/\mg "Leans" = some (.ref gA6)/\mg "NoAnswer" = some (.ref gA2)/\mg "NoFit" = some (.ref gA7)/\mg "NoName" = some (.ref gA4)/\mg "NoRow" = some (.ref gA8)/\mg "NoText" = some (.ref gA5)/\mg "NoWidth" = some (.ref gA3)/\mg "ValueError" = none/\j0 K v6 f_Loose "thing" "Loose.__init__" du ["self", "thing"]/\k7 K gA1/\j0 K v4 f_Nought "at" "Nought.__init__" cO ["self", "at"]/\yz K gA0 bmV "ValueError.__new__" = true/\di K v6=true/\wA K (.ref gA0) (.ref v6)=some false/\di K v4=true/\wA K (.ref gA0) (.ref v4)=some false/\di K gA1=true/\wA K (.ref gA0) (.ref gA1)=some true/\wA K (.ref v6) (.ref v6)=some true/\wA K (.ref v4) (.ref v6)=some false/\wA K (.ref v4) (.ref v4)=some true/\ExG K v6 "thing" /\ ExG K v4 "at" /\ ExIs K gA0/\xP K (.ref gA0) [.ref gB0,.ref gA6,.ref gA2,.ref gA7,.ref gA4,.ref gA8,.ref gA5,.ref gA3]=some false/\sK K (.ref gA0) (.ref gA0)=some true/\sK K (.ref gA0) (.ref v6)=some false/\sK K (.ref gA0) (.ref v4)=some false/\sK K (.ref gA0) (.type "ValueError")=some true/\ExIs K v6/\xP K (.ref v6) [.ref gB0,.ref gA6,.ref gA2,.ref gA7,.ref gA4,.ref gA8,.ref gA5,.ref gA3]=some false/\sK K (.ref v6) (.ref gA0)=some false/\sK K (.ref v6) (.ref v6)=some true/\sK K (.ref v6) (.ref v4)=some false/\sK K (.ref v6) (.type "ValueError")=some true/\ExIs K v4/\xP K (.ref v4) [.ref gB0,.ref gA6,.ref gA2,.ref gA7,.ref gA4,.ref gA8,.ref gA5,.ref gA3]=some false/\sK K (.ref v4) (.ref gA0)=some false/\sK K (.ref v4) (.ref v6)=some false/\sK K (.ref v4) (.ref v4)=some true/\sK K (.ref v4) (.type "ValueError")=some true
theorem XF.mk {K:ac}{mg:Str->Option bi}{h:Heap}{v6 gA1 v4 gA0 gB0 gA6 gA2 gA7 gA4 gA8 gA5 gA3 f_Loose f_Nought:Addr}{gD0 kV_Loose doc_Loose pm_Loose cdv_Loose ct_Loose:bi}{od_Loose an_Loose:Option Addr}{osl_Loose:Array (Option bi)}{gC8 kV_Nought doc_Nought pm_Nought cdv_Nought ct_Nought:bi}{od_Nought an_Nought:Option Addr}{osl_Nought:Array (Option bi)}(KX:K.In h)(G:h.Ns vZ mg)(f0:wd K vZ "Loose" = some (some (.ref v6)))(f1:wd K vZ "JoinError" = some (some (.ref gA1)))(f2:wd K vZ "Nought" = some (some (.ref v4)))(f3:wd K vZ "TooMany" = some (some (.ref gA0)))(f4:wd K vZ "Bare" = some (some (.ref gB0)))(f5:wd K vZ "Leans" = some (some (.ref gA6)))(f6:wd K vZ "NoAnswer" = some (some (.ref gA2)))(f7:wd K vZ "NoFit" = some (some (.ref gA7)))(f8:wd K vZ "NoName" = some (some (.ref gA4)))(f9:wd K vZ "NoRow" = some (some (.ref gA8)))(f10:wd K vZ "NoText" = some (some (.ref gA5)))(f11:wd K vZ "NoWidth" = some (some (.ref gA3)))(f12:wd K vZ "ValueError" = some none)(f13_0:wB K (.ref v6) "__init__" = some (some (.ref f_Loose)))(f13_1:K.lookup f_Loose=some ⟨gD0,od_Loose,.func (xN "__init__" "Loose.__init__" (dN du) (cf du) (aK du) .none kV_Loose doc_Loose pm_Loose an_Loose cdv_Loose ct_Loose),osl_Loose⟩)(f13_2:yj K cdv_Loose "Loose.__init__" = true)(f13_3:xQ K (.ref f_Loose)=true)(f13_4:fq K v6 f_Loose=true)(f13_5:CM K (.ref f_Loose)=some (.type "function"))(f13_6:wB K (.ref v6) "__setattr__" = some (some (.builtin "object.__setattr__")))(f13_7:wB K (.ref v6) "thing" = some none)(f14_0:ya K (.ref gA1) "__getattribute__" = some (some (.builtin "type.__getattribute__")))(f14_1:PySem.W.readsIn K gA1 (.type "type")=true)(f14_2:PySem.W.findCls K (.ref gA1) (.type "type") "__init__" = some (.val (.builtin "ValueError.__init__")))(f15_0:wB K (.ref v4) "__init__" = some (some (.ref f_Nought)))(f15_1:K.lookup f_Nought=some ⟨gC8,od_Nought,.func (xN "__init__" "Nought.__init__" (dN cO) (cf cO) (aK cO) .none kV_Nought doc_Nought pm_Nought an_Nought cdv_Nought ct_Nought),osl_Nought⟩)(f15_2:yj K cdv_Nought "Nought.__init__" = true)(f15_3:xQ K (.ref f_Nought)=true)(f15_4:fq K v4 f_Nought=true)(f15_5:CM K (.ref f_Nought)=some (.type "function"))(f15_6:wB K (.ref v4) "__setattr__" = some (some (.builtin "object.__setattr__")))(f15_7:wB K (.ref v4) "at" = some none)(f16:yz K gA0 bmV "ValueError.__new__" = true)(f17:fq K v6 f_Loose=true)(f18:wA K (.ref gA0) (.ref v6)=some false)(f19:fq K v4 f_Nought=true)(f20:wA K (.ref gA0) (.ref v4)=some false)(f21:yz K gA1 bmV "ValueError.__new__" = true)(f22:wA K (.ref gA0) (.ref gA1)=some true)(f23:wA K (.ref v6) (.ref v6)=some true)(f24:wA K (.ref v4) (.ref v6)=some false)(f25:wA K (.ref v4) (.ref v4)=some true)(f26_0:wB K (.ref v6) "__getattribute__" = some (some (.builtin "BaseException.__getattribute__")))(f26_1:wB K (.ref v6) "__getattr__" = some none)(f26_2:xW K v6=true)(f26_3:wB K (.ref v6) "__class__" = some (some (.builtin "object.__class__")))(f26_4:ya K (.builtin "object.__class__") "__get__" = some (some (.builtin "getset_descriptor.__get__")))(f26_5:y6 K (.builtin "object.__class__")=some true)(f26_6:zB K v6 (.type "object")=some true)(f26_7:wA K (.ref v6) (.type "BaseException")=some true)(f26_8:wB K (.ref v6) "thing" = some none)(f26_9:xW K v6=true)(f27_0:wB K (.ref v4) "__getattribute__" = some (some (.builtin "BaseException.__getattribute__")))(f27_1:wB K (.ref v4) "__getattr__" = some none)(f27_2:xW K v4=true)(f27_3:wB K (.ref v4) "__class__" = some (some (.builtin "object.__class__")))(f27_4:ya K (.builtin "object.__class__") "__get__" = some (some (.builtin "getset_descriptor.__get__")))(f27_5:y6 K (.builtin "object.__class__")=some true)(f27_6:zB K v4 (.type "object")=some true)(f27_7:wA K (.ref v4) (.type "BaseException")=some true)(f27_8:wB K (.ref v4) "at" = some none)(f27_9:xW K v4=true)(f28_0:wB K (.ref gA0) "__getattribute__" = some (some (.builtin "BaseException.__getattribute__")))(f28_1:wB K (.ref gA0) "__getattr__" = some none)(f28_2:xW K gA0=true)(f28_3:wB K (.ref gA0) "__class__" = some (some (.builtin "object.__class__")))(f28_4:ya K (.builtin "object.__class__") "__get__" = some (some (.builtin "getset_descriptor.__get__")))(f28_5:y6 K (.builtin "object.__class__")=some true)(f28_6:zB K gA0 (.type "object")=some true)(f28_7:wA K (.ref gA0) (.type "BaseException")=some true)(f29:xP K (.ref gA0) [.ref gB0,.ref gA6,.ref gA2,.ref gA7,.ref gA4,.ref gA8,.ref gA5,.ref gA3]=some false)(f30:sK K (.ref gA0) (.ref gA0)=some true)(f31:sK K (.ref gA0) (.ref v6)=some false)(f32:sK K (.ref gA0) (.ref v4)=some false)(f33:sK K (.ref gA0) (.type "ValueError")=some true)(f34_0:wB K (.ref v6) "__getattribute__" = some (some (.builtin "BaseException.__getattribute__")))(f34_1:wB K (.ref v6) "__getattr__" = some none)(f34_2:xW K v6=true)(f34_3:wB K (.ref v6) "__class__" = some (some (.builtin "object.__class__")))(f34_4:ya K (.builtin "object.__class__") "__get__" = some (some (.builtin "getset_descriptor.__get__")))(f34_5:y6 K (.builtin "object.__class__")=some true)(f34_6:zB K v6 (.type "object")=some true)(f34_7:wA K (.ref v6) (.type "BaseException")=some true)(f35:xP K (.ref v6) [.ref gB0,.ref gA6,.ref gA2,.ref gA7,.ref gA4,.ref gA8,.ref gA5,.ref gA3]=some false)(f36:sK K (.ref v6) (.ref gA0)=some false)(f37:sK K (.ref v6) (.ref v6)=some true)(f38:sK K (.ref v6) (.ref v4)=some false)(f39:sK K (.ref v6) (.type "ValueError")=some true)(f40_0:wB K (.ref v4) "__getattribute__" = some (some (.builtin "BaseException.__getattribute__")))(f40_1:wB K (.ref v4) "__getattr__" = some none)(f40_2:xW K v4=true)(f40_3:wB K (.ref v4) "__class__" = some (some (.builtin "object.__class__")))(f40_4:ya K (.builtin "object.__class__") "__get__" = some (some (.builtin "getset_descriptor.__get__")))(f40_5:y6 K (.builtin "object.__class__")=some true)(f40_6:zB K v4 (.type "object")=some true)(f40_7:wA K (.ref v4) (.type "BaseException")=some true)(f41:xP K (.ref v4) [.ref gB0,.ref gA6,.ref gA2,.ref gA7,.ref gA4,.ref gA8,.ref gA5,.ref gA3]=some false)(f42:sK K (.ref v4) (.ref gA0)=some false)(f43:sK K (.ref v4) (.ref v6)=some false)(f44:sK K (.ref v4) (.ref v4)=some true)(f45:sK K (.ref v4) (.type "ValueError")=some true):XF K mg:=⟨v6,gA1,v4,gA0,gB0,gA6,gA2,gA7,gA4,gA8,gA5,gA3,f_Loose,f_Nought,xk KX G f0,xk KX G f1,xk KX G f2,xk KX G f3,xk KX G f4,xk KX G f5,xk KX G f6,xk KX G f7,xk KX G f8,xk KX G f9,xk KX G f10,xk KX G f11,wj KX G f12,mJ f13_0 f13_1 f13_2 f13_3 f13_4 f13_5 f13_6 f13_7 (λ_ _ _ _ _ _ us hl=>match us,hl with | [_,_],_=>rfl),⟨f14_0,f14_1,f14_2⟩,mJ f15_0 f15_1 f15_2 f15_3 f15_4 f15_5 f15_6 f15_7 (λ_ _ _ _ _ _ us hl=>match us,hl with | [_,_],_=>rfl),f16,e8 f17,f18,e8 f19,f20,pQ f21,f22,f23,f24,f25,{toExIs:=ExIs.of f26_0 f26_1 f26_2 f26_3 f26_4 f26_5 f26_6 f26_7,na:=f26_8,hd:=f26_9},{toExIs:=ExIs.of f27_0 f27_1 f27_2 f27_3 f27_4 f27_5 f27_6 f27_7,na:=f27_8,hd:=f27_9},ExIs.of f28_0 f28_1 f28_2 f28_3 f28_4 f28_5 f28_6 f28_7,f29,f30,f31,f32,f33,ExIs.of f34_0 f34_1 f34_2 f34_3 f34_4 f34_5 f34_6 f34_7,f35,f36,f37,f38,f39,ExIs.of f40_0 f40_1 f40_2 f40_3 f40_4 f40_5 f40_6 f40_7,f41,f42,f43,f44,f45⟩
theorem nz (dn:DefN K mg "_law_net" d_ ["_law_tape_here", "_law_most", "_law_joins_most"])(B:BI mg)(gB1:OkN P w K mg base 1 "_law_draw" ["_law_tape_here", "_law_many"] (spA K qX)):OkN P w K mg base 2 "_law_net" ["_law_tape_here", "_law_most", "_law_joins_most"] (spA K l6):=by
 refine dn.aok2 (k:=1) bJ (λj=>j==0||j==1||j==2) [.un,.un,.un,.un,.un,.un,.un,.un] l6 rfl (λf cdv A outer s H E hr=>have hu:=eK hr;⟨_,(aA (a_ (i:=3) bJ.nd rfl (by first | exact Or.inl rfl | exact Or.inr rfl) (bf bN aG (b_ gB1 (hr.mono (by decide)) (af (pv 0) (af (pv 1) ar)))))
  (aA (a_ (i:=4) bJ.nd rfl (by first | exact Or.inl rfl | exact Or.inr rfl) (hZ ["_law_k"] [] rfl (Blk.of (aK d_) gm) (cn rfl B.range_ (af (pv 3) ar)) (λ_ _ _ _ nd=>(aS (i:=0) nd rfl (by first | exact Or.inl rfl | exact Or.inr rfl))) (λ_ _ _ _=>fu) (λ_ _ _ _=>(bf o8 aG (pv 0)))))
  (aA (a_ (i:=5) bJ.nd rfl (by first | exact Or.inl rfl | exact Or.inr rfl) (dv ar))
  (aA (a_ (i:=6) bJ.nd rfl (by first | exact Or.inl rfl | exact Or.inr rfl) (b_ gB1 (hr.mono (by decide)) (af (pv 0) (af aG ar))))
  (aA (fm xz rfl (cn rfl B.range_ (af (b_ gB1 (hr.mono (by decide)) (af (pv 0) (af (bf bN (pv 2) aG) ar))) ar)) (aS (i:=7) bJ.nd rfl (by first | exact Or.inl rfl | exact Or.inr rfl))
  (aA (a_ (i:=8) bJ.nd rfl (by first | exact Or.inl rfl | exact Or.inr rfl) (b_ gB1 (hr.mono (by decide)) (af (pv 0) (af (aJ (aN K) rfl B.len_ bu (af (pv 4) ar)) ar))))
  (aA (a_ (i:=9) bJ.nd rfl (by first | exact Or.inl rfl | exact Or.inr rfl) (b_ gB1 (hr.mono (by decide)) (af (pv 0) (af (aJ (aN K) rfl B.len_ bu (af (pv 4) ar)) ar))))
  (aA (eh (bw (gw K hr.units) (pv 6) aG (bO _))
  (aV (a_ (i:=9) bJ.nd rfl (by first | exact Or.inl rfl | exact Or.inr rfl) (bf cF (aJ (aN K) rfl B.len_ bu (af (pv 4) ar)) aG)))
  bY)
  (aA (eh (bw (gw K hr.units) (pv 6) aG (bO _))
  (aA (a_ (i:=8) bJ.nd rfl (by first | exact Or.inl rfl | exact Or.inr rfl) (aJ (dF rfl) rfl B.max_ jj (af aG (af (bf cF (bf cF (aJ (aN K) rfl B.len_ bu (af (pv 4) ar)) aG) (bf fJ (pv 8) aG)) ar))))
  (aV (a_ (i:=9) bJ.nd rfl (by first | exact Or.inl rfl | exact Or.inr rfl) (aJ (dF rfl) rfl B.max_ jj (af aG (af (bf cF (bf cF (aJ (aN K) rfl B.len_ bu (af (pv 4) ar)) aG) (bf fJ (pv 9) aG)) ar))))))
  bY)
  (aV (eh (bw (o_ K hr.units) (bA (aO K) (pv 4) (pv 8) (λ_ _=>rfl)) (bA (aO K) (pv 4) (pv 9) (λ_ _=>rfl)) (bO _))
  (aA (bM (cH K wc v_ v9 bx (pv 5) (af (cx (af (aJ (iF rfl) rfl B.min_ p0 (af (pv 8) (af (pv 9) ar))) (af (aJ (dF rfl) rfl B.max_ jj (af (pv 8) (af (pv 9) ar))) ar))) ar)))
  (aV (bM (cH K wc v_ v9 bx (pv 4) (af (bf o7 (bA (aO K) (pv 4) (pv 8) (λ_ _=>rfl)) (bA (aO K) (pv 4) (pv 9) (λ_ _=>rfl))) ar)))))
  bY)))))))
  (aA (a_ (i:=10) bJ.nd rfl (by first | exact Or.inl rfl | exact Or.inr rfl) (cP (cv K) rfl B.tuple_ dR (af (hZ ["_law_turn"] [0,4] rfl (Blk.of (aK d_) gm) (cn rfl B.range_ (af (bf bN aG (b_ gB1 (hr.mono (by decide)) (af (pv 0) (af aG ar)))) ar)) (λ_ _ _ _ nd=>(aS (i:=0) nd rfl (by first | exact Or.inl rfl | exact Or.inr rfl))) (λ_ _ _ _=>fu) (λ_ _ _ _=>(b_ gB1 (hr.mono (by decide)) (af (pv 1) (af (aJ (aN K) rfl B.len_ bu (af (pv 2) ar)) ar))))) ar)))
  (aV (cm (cx (af (pv 3) (af (cP (cv K) rfl B.tuple_ dR (af (pv 5) ar)) (af (pv 10) ar)))))))))))),(aw (aT (aD aP aE (aU (aa aj (aa aj aq)))) rfl)
  (aw (aT (dr (cg (aa aj aq)) (aF rfl) eU (aD h9 aE aj)) rfl)
  (aw (aT (cI aq) rfl)
  (aw (aT (aU (aa aj (aa aE aq))) rfl)
  (aw (cA (pin:=(λ_=>false)) (cg (aa (aU (aa aj (aa (aD aP aj aE) aq))) aq)) (aF rfl)
  (aw (aT (aU (aa aj (aa (bb aW (aa aj aq)) aq))) rfl)
  (aw (aT (aU (aa aj (aa (bb aW (aa aj aq)) aq))) rfl)
  (aw (ck (bc (aD gy aj aE))
  (aT (aD aP (bb aW (aa aj aq)) aE) rfl)
  ba)
  (aw (ck (bc (aD gy aj aE))
  (aw (aT (bb e_ (aa aE (aa (aD aP (aD aP (bb aW (aa aj aq)) aE) (aD h9 aj aE)) aq))) rfl)
  (aT (bb e_ (aa aE (aa (aD aP (aD aP (bb aW (aa aj aq)) aE) (aD h9 aj aE)) aq))) rfl))
  ba)
  (ck (bc (aD pd (aD bh aj aj) (aD bh aj aj)))
  (aw (cB (c_ aj (aa (bR (aa (bb jU (aa aj (aa aj aq))) (aa (bb e_ (aa aj (aa aj aq))) aq))) aq)))
  (cB (c_ aj (aa (aD aP (aD bh aj aj) (aD bh aj aj)) aq))))
  ba))))))
  (aw (aT (bb cJ (aa (dr (cg (aa (aD aP aE (aU (aa aj (aa aE aq)))) aq)) (aF rfl) eU (aU (aa aj (aa (bb aW (aa aj aq)) aq)))) aq)) rfl)
  (bS (bR (aa aj (aa (bb cJ (aa aj aq)) (aa aj aq)))))))))))⟩) ?_
 rintro ss q ⟨n,most,jm,rfl,hn,h1,h2,h3,hq⟩;refine⟨rfl,rfl,?_⟩;refine⟨rfl,n,_,rfl,by omega,Dv.small (by omega) (by omega),λm hm=>?_⟩;refine⟨⟨by omega,by omega⟩,by rw[cb];omega,fR (λk=>.int (1 <<< k:Nat)) trivial (λk acc N hk hN=>?_) ?_⟩
 ·rw[AM];refine⟨⟨by omega,by omega,by decide⟩,?_⟩;show N (acc++[.int ((1:Int)*2^((k:Int).toNat))]) _;rw[lp];exact hN
 have e:((wF (1+(m:Int)).toNat).map λk=>D.int (1 <<< k:Nat))=natsD (aZ (1+m)):=by
  rw[show(1+(m:Int)).toNat=1+m by omega];unfold aZ natsD;rw[yw];rfl
 rw[e];refine⟨wp _,rfl,n+1,4,rfl,by omega,Dv.small (by decide) (by decide),λway hway=>?_⟩;refine⟨rfl,n+2,_,rfl,by omega,Dv.small (by omega) (by omega),λcnt hcnt=>⟨⟨by omega,by omega⟩,?_⟩⟩;refine mP (λk ρ=>∃js n' s7 s8 s9,ρ=[.tp n',nv most,nv jm,nv (1+m),.ow (natsD (js.foldl bt (aZ (1+m)))),.ow (js.map pairD),nv way,s7,s8,s9,.un]/\okJs (aZ (1+m)) js/\js.length<=k/\n'<=n+3+2*k) (λ_ _ _=>trivial) ?_ ?_ ⟨[],n+3,.un,.un,.un,rfl,trivial,ms _,by omega⟩
 ·rintro k ρ M hk ⟨js,n',s7,s8,s9,rfl,hok,hl,hn'⟩ hM;have hL:(js.foldl bt (aZ (1+m))).length=1+m+js.length:=by rw[mR,df]
  have hk':k<jm+1:=by omega
  refine⟨rfl,n',_,rfl,by omega,Dv.small ?_ ?_,λa ha=>?_⟩
  ·rw[lenD,hL];omega
  ·rw[lenD,hL];omega
  refine⟨rfl,n'+1,_,rfl,by omega,Dv.small ?_ ?_,λb hb=>?_⟩
  ·rw[lenD,hL];omega
  ·rw[lenD,hL];omega
  rw[lenD,hL]at ha hb;have ha':a<1+m+js.length:=by omega
  have hb':b<1+m+js.length:=by omega
  have eL:(((natsD (js.foldl bt (aZ (1+m)))).length:Nat):Int)=((1+m+js.length:Nat):Int):=by rw[lenD,hL]
  dsimp only[stS,pt,back,R.frz];refine cutS (λρ=>∃s7 b',ρ=[.tp (n'+1+1),nv most,nv jm,nv (1+m),.ow (natsD (js.foldl bt (aZ (1+m)))),.ow (js.map pairD),nv way,s7,nv a,nv b',.un]/\b'<1+m+js.length) (λN hN=>?_) ?_
  ·refine dX rfl rfl (by simp[D.depth]) rfl (ite2 (λ_=>?_) λ_=>?_)
   ·have eb:(((natsD (js.foldl bt (aZ (1+m)))).length:Nat):Int) - 1=((m+js.length:Nat):Int):=by rw[eL];omega
    exact hN _ ⟨.vl (.int (0+(k:Nat))),m+js.length,by rw[<- sR eb];rfl,by omega⟩
   ·exact hN _ ⟨.vl (.int (0+(k:Nat))),b,rfl,hb'⟩
  rintro _ ⟨s7,b',rfl,hb'⟩;refine cutS (λρ=>∃s7 a' b',ρ=[.tp (n'+1+1),nv most,nv jm,nv (1+m),.ow (natsD (js.foldl bt (aZ (1+m)))),.ow (js.map pairD),nv way,s7,nv a',nv b',.un]/\a'<1+m+js.length/\b'<1+m+js.length) (λN hN=>?_) ?_
  ·refine dX rfl rfl (by simp[D.depth]) rfl (ite2 (λ_=>?_) λ_=>?_)
   ·have em:∀x:Nat,(if(((natsD (js.foldl bt (aZ (1+m)))).length:Nat):Int) - 1 - (x:Int) % 4 > 0 then(((natsD (js.foldl bt (aZ (1+m)))).length:Nat):Int) - 1 - (x:Int) % 4 else 0)=((m+js.length - x % 4:Nat):Int):=λx=>by
     rw[eL];split <;> omega
    exact⟨(show(0:Int)<4 by decide),(show(0:Int)<4 by decide),hN _ ⟨s7,m+js.length - a % 4,m+js.length - b' % 4,by rw[<- sR (em a),<- sR (em b')];rfl,by omega,by omega⟩⟩
   ·exact hN _ ⟨s7,a,b',rfl,ha',hb'⟩
  rintro _ ⟨s7,a,b,rfl,ha,hb⟩;refine bD rfl (by omega) (bD rfl (by omega) (dX rfl rfl (by simp[D.depth]) rfl (ite2 (λhne=>?_) λhne=>?_)))
  ·have hne':(js.foldl bt (aZ (1+m))).getD a 0≠(js.foldl bt (aZ (1+m))).getD b 0:=λe=>by
    rw[e]at hne;simp[eqD]at hne
   refine⟨by simp,by rw[db];omega,bD rfl (by omega) (bD rfl (by omega) ⟨by rw[db,hL];omega,hM _ ⟨js++[(min a b,max a b)],n'+1+1,s7,nv a,nv b,?_,?_,?_,by omega⟩⟩)⟩
   ·rw[List.foldl_append,zY,Dm,r_,bP,wJ,wv,yu];show _=[_,_,_,_,_,Sv.ow (_++[D.tup [.int ((min a b:Nat):Int),.int ((max a b:Nat):Int)]]),_,_,_,_,_]
    rw[<- minI,<- maxI,<- xorD];rfl
   ·have hab:a≠b:=λe=>hne' (by rw[e]);refine kz hok (by show min a b<max a b;omega) (by rw[df];show max a b<_;omega) ?_;show(js.foldl bt (aZ (1+m))).getD (min a b) 0≠(js.foldl bt (aZ (1+m))).getD (max a b) 0;rcases zW a b with h | h
    ·rw[yf h,De h];exact hne'
    ·rw[yB h,Dk h];exact hne'.symm
   ·rw[wb];simp;omega
  ·exact hM _ ⟨js,n'+1+1,s7,nv a,nv b,rfl,hok,by omega,by omega⟩
 ·rintro ρ ⟨js,n',s7,s8,s9,rfl,hok,hl,hn'⟩;have hL:(js.foldl bt (aZ (1+m))).length=1+m+js.length:=by rw[mR,df]
  have hl':js.length<=jm:=by omega
  refine⟨rfl,n',24,rfl,by omega,Dv.small (by decide) (by decide),λoc hoc=>⟨⟨by omega,by omega⟩,by rw[cb];omega,?_⟩⟩;refine fS (λk acc ρ=>∃os,acc=natsD os/\os.length=k/\(∀o∈os,o<1+m+js.length)/\ρ=[.tp (n'+1+k),nv most,nv jm,nv (1+m),.ow (natsD (js.foldl bt (aZ (1+m)))),.ow (js.map pairD),nv way,s7,s8,s9,.un]) (λ_ _ _ _ _=>trivial) ?_ ?_ _ ⟨[],rfl,rfl,λ_ h=>(nomatch h),rfl⟩
  ·rintro k d acc _ N hk ⟨os,rfl,ho,hos,rfl⟩ hN;obtain⟨lt,rfl⟩:=jB hk;refine⟨rfl,n'+1+k,_,rfl,by omega,Dv.small ?_ ?_,λo ho'=>?_⟩
   ·rw[lenD,hL];omega
   ·rw[lenD,hL];omega
   rw[lenD,hL]at ho';refine hN _ _ ⟨os++[o],by rw[bP],by rw[wb,ho];rfl,λx hx=>?_,rfl⟩;rcases xM.mp hx with h | h
   ·exact hos x h
   ·rw[w9.mp h];omega
  ·rintro acc _ ⟨os,rfl,ho,hos,rfl⟩;rw[cb]at ho;refine⟨by simp,hq ⟨1+m,js,os⟩ (n'+1+_) ⟨by show 1<=1+m;omega,by show 1+m<=12;omega,by show js.length<=132;omega,hok,?_,?_,hos⟩ (by show 1+m<=most;omega) hl' ?_⟩
   ·show 1<=os.length;omega
   ·show os.length<=24;omega
   ·rw[cb];omega
theorem lG {v6 gA1 v4 gA0 gB0 gA6 gA2 gA7 gA4 gA8 gA5 gA3:Addr}(m_TooMany:mg "TooMany" = some (.ref gA0))(m_Loose:mg "Loose" = some (.ref v6))(m_Nought:mg "Nought" = some (.ref v4))(m_JoinError:mg "JoinError" = some (.ref gA1))(ea_Loose:di K v6=true)(s_TooMany_Loose:wA K (.ref gA0) (.ref v6)=some false)(ea_Nought:di K v4=true)(s_TooMany_Nought:wA K (.ref gA0) (.ref v4)=some false)(ea_JoinError:di K gA1=true)(s_TooMany_JoinError:wA K (.ref gA0) (.ref gA1)=some true)(s_Loose_Loose:wA K (.ref v6) (.ref v6)=some true)(s_Nought_Loose:wA K (.ref v4) (.ref v6)=some false)(s_Nought_Nought:wA K (.ref v4) (.ref v4)=some true)(m_Bare:mg "Bare" = some (.ref gB0))(m_Leans:mg "Leans" = some (.ref gA6))(m_NoAnswer:mg "NoAnswer" = some (.ref gA2))(m_NoFit:mg "NoFit" = some (.ref gA7))(m_NoName:mg "NoName" = some (.ref gA4))(m_NoRow:mg "NoRow" = some (.ref gA8))(m_NoText:mg "NoText" = some (.ref gA5))(m_NoWidth:mg "NoWidth" = some (.ref gA3))(n_ValueError:mg "ValueError" = none)(gD3:ExG K v6 "thing")(gD2:ExG K v4 "at")(i_TooMany:ExIs K gA0)(ka_law_told_0_TooMany:xP K (.ref gA0) [.ref gB0,.ref gA6,.ref gA2,.ref gA7,.ref gA4,.ref gA8,.ref gA5,.ref gA3]=some false)(k_TooMany_TooMany:sK K (.ref gA0) (.ref gA0)=some true)(k_TooMany_Loose:sK K (.ref gA0) (.ref v6)=some false)(k_TooMany_Nought:sK K (.ref gA0) (.ref v4)=some false)(k_TooMany_ValueError:sK K (.ref gA0) (.type "ValueError")=some true)(i_Loose:ExIs K v6)(ka_law_told_0_Loose:xP K (.ref v6) [.ref gB0,.ref gA6,.ref gA2,.ref gA7,.ref gA4,.ref gA8,.ref gA5,.ref gA3]=some false)(k_Loose_TooMany:sK K (.ref v6) (.ref gA0)=some false)(k_Loose_Loose:sK K (.ref v6) (.ref v6)=some true)(k_Loose_Nought:sK K (.ref v6) (.ref v4)=some false)(k_Loose_ValueError:sK K (.ref v6) (.type "ValueError")=some true)(i_Nought:ExIs K v4)(ka_law_told_0_Nought:xP K (.ref v4) [.ref gB0,.ref gA6,.ref gA2,.ref gA7,.ref gA4,.ref gA8,.ref gA5,.ref gA3]=some false)(k_Nought_TooMany:sK K (.ref v4) (.ref gA0)=some false)(k_Nought_Loose:sK K (.ref v4) (.ref v6)=some false)(k_Nought_Nought:sK K (.ref v4) (.ref v4)=some true)(k_Nought_ValueError:sK K (.ref v4) (.type "ValueError")=some true)(dn:DefN K mg "_law_told" gb ["_law_net_here"])(B:BI mg)(gC5:OkN P w K mg base 3 "turned_net" ["net"] (spA K l5))(gC0:OkX P w K mg base 1 "turned_net" ["net"] gA0 none (spA K qb))(gC2:OkX P w K mg base 4 "turned_net" ["net"] v6 (some "thing") (spA K qc))(gC1:OkX P w K mg base 4 "turned_net" ["net"] v4 (some "at") (spA K qa)):OkN P w K mg base 5 "_law_told" ["_law_net_here"] (spA K tR):=by
 refine dn.aok2 (k:=4) bo (λj=>j==0) [.un,.un,.un,.un,.un,.un] tR rfl (λf cdv A outer s H E hr=>have hu:=eK hr;⟨_,(aA (a_ (i:=1) bo.nd rfl (by first | exact Or.inl rfl | exact Or.inr rfl) kr)
  (aA (a_ (i:=2) bo.nd rfl (by first | exact Or.inl rfl | exact Or.inr rfl) kr)
  (aA (a_ (i:=3) bo.nd rfl (by first | exact Or.inl rfl | exact Or.inr rfl) kr)
  (aA (sE (sE (sE (sD (aV (a_ (i:=3) bo.nd rfl (by first | exact Or.inl rfl | exact Or.inr rfl) (b_ gC5 (hr.mono (by decide)) (af (pv 0) ar)))))
  (ly gC0 (hr.mono (by decide)) rfl rfl rfl rfl (af (pv 0) ar) lC (λod=>(tj m_Loose ea_Loose s_TooMany_Loose (tj m_Nought ea_Nought s_TooMany_Nought (pG (i:=4) rfl m_JoinError ea_JoinError s_TooMany_JoinError bo.nd rfl rfl (λa =>
  (aV (a_ (i:=1) bo.nd rfl (by first | exact Or.inl rfl | exact Or.inr rfl) (pv 4))))))))))
  (ly gC2 (hr.mono (by decide)) rfl rfl rfl rfl (af (pv 0) ar) lC (λod=>(pG (i:=4) rfl m_Loose ea_Loose s_Loose_Loose bo.nd rfl rfl (λa =>
  (aA (a_ (i:=1) bo.nd rfl (by first | exact Or.inl rfl | exact Or.inr rfl) (pv 4))
  (aV (a_ (i:=2) bo.nd rfl (by first | exact Or.inl rfl | exact Or.inr rfl) (oX (pv 4))))))))))
  (ly gC1 (hr.mono (by decide)) rfl rfl rfl rfl (af (pv 0) ar) lC (λod=>(tj m_Loose ea_Loose s_Nought_Loose (pG (i:=4) rfl m_Nought ea_Nought s_Nought_Nought bo.nd rfl rfl (λa =>
  (aA (a_ (i:=1) bo.nd rfl (by first | exact Or.inl rfl | exact Or.inr rfl) (pv 4))
  (aV (a_ (i:=2) bo.nd rfl (by first | exact Or.inl rfl | exact Or.inr rfl) (oX (pv 4)))))))))))
  (aA (eh (bw uG (pv 1) kr (bO _))
  (aV (cm (cx (af cp (af (pv 3) ar)))))
  bY)
  (aA (a_ (i:=5) bo.nd rfl (by first | exact Or.inl rfl | exact Or.inr rfl) (dv (af (aJ (fU K (c:=.ref gA0) (u:=.ref gA0) (λ_ h=>h)) rfl B.isinstance_ cG (af (pv 1) (af (cT (v:=.ref gA0) rfl m_TooMany rfl) ar))) (af (aJ (fU K (c:=.ref v6) (u:=.ref v6) (λ_ h=>h)) rfl B.isinstance_ cG (af (pv 1) (af (cT (v:=.ref v6) rfl m_Loose rfl) ar))) (af (aJ (fU K (c:=.ref v4) (u:=.ref v4) (λ_ h=>h)) rfl B.isinstance_ cG (af (pv 1) (af (cT (v:=.ref v4) rfl m_Nought rfl) ar))) (af (aJ (fU K (c:=.ty "ValueError") (u:=.type "ValueError") (λ_ h=>h)) rfl B.isinstance_ cG (af (pv 1) (af (vC (T := "ValueError") rfl n_ValueError (by decide +kernel)) ar))) ar))))))
  (aA (a_ (i:=6) bo.nd rfl (by first | exact Or.inl rfl | exact Or.inr rfl) (aJ (nX K (ds:=[gB0,gA6,gA2,gA7,gA4,gA8,gA5,gA3])) rfl B.isinstance_ cG (af (pv 1) (af (cx (af (cT (v:=.ref gB0) rfl m_Bare rfl) (af (cT (v:=.ref gA6) rfl m_Leans rfl) (af (cT (v:=.ref gA2) rfl m_NoAnswer rfl) (af (cT (v:=.ref gA7) rfl m_NoFit rfl) (af (cT (v:=.ref gA4) rfl m_NoName rfl) (af (cT (v:=.ref gA8) rfl m_NoRow rfl) (af (cT (v:=.ref gA5) rfl m_NoText rfl) (af (cT (v:=.ref gA3) rfl m_NoWidth rfl) ar))))))))) ar))))
  (aV (cm (cx (af cp (af (pv 5) (af (pv 6) (af (pv 2) ar)))))))))))))),(aw (aT fZ rfl)
  (aw (aT fZ rfl)
  (aw (aT fZ rfl)
  (aw (kf (kf (kf (aT (aU (aa aj aq)) rfl)
  (jw (aa aj aq)
  (jV rfl (aT aj rfl))))
  (jw (aa aj aq)
  (jV rfl (aw (aT aj rfl)
  (aT l9 rfl)))))
  (jw (aa aj aq)
  (jV rfl (aw (aT aj rfl)
  (aT l9 rfl)))))
  (aw (ck (bc (aD sO aj fZ))
  (bS (bR (aa fY (aa aj aq))))
  ba)
  (aw (aT (cI (aa jt (aa jt (aa jt (aa jt aq))))) rfl)
  (aw (aT (qp (by simp[xV])) rfl)
  (bS (bR (aa fY (aa aj (aa aj (aa aj aq)))))))))))))⟩) ?_
 rintro ss q ⟨N,rfl,hN,hq⟩;refine⟨rfl,rfl,?_⟩;refine cutS (λρ=>ρ=[.vl (netD N),.vl .non,.un,.un,.un,.un,.un]) (λM hM=>hM _ rfl) ?_;rintro _ rfl;refine cutS (λρ=>ρ=[.vl (netD N),.vl .non,.vl .non,.un,.un,.un,.un]) (λM hM=>hM _ rfl) ?_;rintro _ rfl;refine cutS (λρ=>ρ=[.vl (netD N),.vl .non,.vl .non,.vl .non,.un,.un,.un]) (λM hM=>hM _ rfl) ?_;rintro _ rfl;unfold m4 at hq;have fin:∀a b c d,q (.d (refD a b c d)) [.vl (netD N)]->q (.d (refD a b c d)) [.vl (netD N)]:=λ_ _ _ _ h=>h;by_cases hs:N.os.length<=12/\N.js.length+N.os.length<=N.m+132
 ·rw[if_neg (not_not_intro hs)]at hq;split at hq
  ·rename_i i hf;obtain⟨hi,pre,hno⟩:=gS hf;by_cases hE:stU N i=[]
   ·rw[if_pos hE]at hq;refine .inl (.inr ⟨rfl,N,i,rfl,hN,hs.1,hs.2,hi,pre,hE,?_⟩);refine⟨nD (thg N i),rfl,gD3,rfl,false,i_Loose,k_Loose_TooMany,true,i_Loose,k_Loose_Loose,false,i_Loose,k_Loose_Nought,true,i_Loose,k_Loose_ValueError,by simp,false,i_Loose,ka_law_told_0_Loose,by simp,?_⟩;exact hq
   ·rw[if_neg hE]at hq;refine .inr ⟨rfl,N,i,rfl,hN,hs.1,hs.2,hi,pre,hE,hno,?_⟩;refine⟨nD (thg N i),rfl,gD2,rfl,false,i_Nought,k_Nought_TooMany,false,i_Nought,k_Nought_Loose,true,i_Nought,k_Nought_Nought,true,i_Nought,k_Nought_ValueError,by simp,false,i_Nought,ka_law_told_0_Nought,by simp,?_⟩;exact hq
  ·rename_i hf;refine .inl (.inl (.inl ⟨rfl,N,rfl,hN,hs.1,hs.2,rS (mO hf),?_⟩));exact⟨by simp,hq⟩
 ·rw[if_pos hs]at hq;refine .inl (.inl (.inr ⟨rfl,N,rfl,hN,hs,?_⟩));refine⟨rfl,true,i_TooMany,k_TooMany_TooMany,false,i_TooMany,k_TooMany_Loose,false,i_TooMany,k_TooMany_Nought,true,i_TooMany,k_TooMany_ValueError,by simp,false,i_TooMany,ka_law_told_0_TooMany,by simp,?_⟩;exact hq
end
theorem fB:∀xs:List Nat,depths (natsD xs)<=1
 | []=>by simp[natsD,depths]
 | x::xs=>by
  have:=fB xs;unfold natsD at this ⊢;rw[wv];simp only[depths,D.depth];omega
theorem qH (n:Nat)(xs:List Nat):inD (nD n) (natsD xs)=xs.contains n:=by
 unfold inD natsD;rw[BM];induction xs with
 | nil=>rfl
 | cons x xs ih =>
  rw[xR,xU,ih];congr 1;show eqD (nD x) (nD n)=(n==x)
  unfold eqD;show decide ((x:Int)=(n:Int))=(n==x)
  by_cases h:n=x
  ·subst h;simp
  ·have:¬((x:Int)=(n:Int)):=by omega
   simp[h,this]
def kvs (f:Nat->Int)(g:Nat->Nat)(c:Nat):List (Key×D):=(wF c).map λj=>(.inl (f j),nD (g j))
theorem n5 {f:Nat->Int}{g:Nat->Nat}{i:Nat}:∀(l:List Nat),i∈l->(∀j∈l,f j=f i->j=i)->valD (l.map λj=>((.inl (f j):Key),nD (g j))) (.inl (f i))=some (nD (g i))
 | [],h,_=>(nomatch h)
 | j::l,h,hi=>by
  by_cases e:f j=f i
  ·have:=hi j (.head _) e;subst this;simp[valD]
  ·have h':i∈l:=by
    rcases we.mp h with q | q
    ·rw[q]at e;exact(e rfl).elim
    ·exact q
   have:=n5 (f:=f) (g:=g) l h' λz hz=>hi z (.tail _ hz);unfold valD at this ⊢;rw[wv,xv];have ne:decide ((Sum.inl (f j):Key) = .inl (f i))=false:=by
    apply decide_eq_false;intro q;injection q with q;exact e q
   simp only[ne];exact this
theorem n4 {f:Nat->Int}{g:Nat->Nat}{c i:Nat}{z:Int}(h:i<c)(hz:z=f i)(hi:∀j,j<c->f j=f i->j=i):valD (kvs f g c) (.inl z)=some (nD (g i)):=by
 subst hz;exact n5 (wF c) (xT.mpr h) λj hj=>hi j (xT.mp hj)
theorem sA {f:Nat->Int}{g:Nat->Nat}{c:Nat}{z:Int}(hz:z=f c)(hi:∀j,j<c->f j≠f c):putD (kvs f g c) (.inl z) (nD (g c))=kvs f g (c+1):=by
 subst hz;unfold putD;rw[if_neg]
 ·unfold kvs;rw[yI,wJ];rfl
 ·intro h;rw[C5]at h;obtain⟨p,hp,hq⟩:=h;obtain⟨j,hj,rfl⟩:=zq.mp hp;have hq':=of_decide_eq_true hq;injection hq' with hq';exact hi j (xT.mp hj) hq'
section
variable {n:Nat}{js:List Nat}{c:En->Prop}{g:AG}{tc:AT}{te:AE}{q:List D->En->Prop}
theorem kO {α:Type}(h:α->D)(p:α->Bool)(f:α->D){xs:List α}{ρ:En}(hc:c ρ)(hs:∀x acc (N:List D->En->Prop),x∈xs->N (if p x=true then acc++[f x]else acc) ρ->t5 n js g tc te ρ (h x) acc N)
  (hd:q ((xs.filter p).map f) ρ):fh n js c g tc te q (xs.map h) [] ρ:=by
 refine fS (λk acc ρ'=>ρ'=ρ/\acc=((xs.take k).filter p).map f) (λk acc ρ' _ h=>h.1▸hc) ?_ ?_ ρ ⟨rfl,rfl⟩
 ·rintro k d acc _ N hk ⟨rfl,rfl⟩ hN;rw[sB]at hk;obtain⟨x,e1,rfl⟩:=wt.mp hk;refine hs x _ N (wr e1) (hN _ _ ⟨rfl,?_⟩);rw[zG,e1,Option.toList_some,zy,wJ];cases hp:p x <;> simp[hp]
 ·rintro acc _ ⟨rfl,rfl⟩;rw[db,yZ];exact hd
end
def stM (N:Net)(i:Nat):List (Nat×Nat):=if i<N.js.length then(tuAt N i).2.2 else(tgAt N (i - N.js.length)).2.2
def stJ (N:Net)(i:Nat):Nat×List Nat×List (Nat×Nat):=juU (stU N i) (stR N i) (stM N i)
def stG (N:Net)(i:Nat):Nat:=(stJ N i).1
theorem mj {N:Net}{i:Nat}(h:i<N.js.length):stM N i=(tuAt N i).2.2:=if_pos h
theorem iW {N:Net}(k:Nat):stM N (N.js.length+k)=(tgAt N k).2.2:=by
 unfold stM;rw[if_neg (by omega),zR]
theorem ri {N:Net}{i:Nat}(h:i<N.js.length):stJ N i=juU ((tuAt N i).1.getD (N.m+(N.js.length - 1 - i)) []) (tuAt N i).2.1 (tuAt N i).2.2:=by
 unfold stJ;rw[fj h,gr h,mj h]
theorem ro {N:Net}(k:Nat):stJ N (N.js.length+k)=juU ((tuAt N N.js.length).1.getD (N.m - 1 - k) []) (tgAt N k).2.1 (tgAt N k).2.2:=by
 unfold stJ;rw[fk,fE,iW]
theorem sd {N:Net}(i:Nat):stR N (i+1)=(stJ N i).2.1/\stM N (i+1)=(stJ N i).2.2:=by
 rcases wu i N.js.length with h | h
 ·rw[ri h];rcases wu (i+1) N.js.length with h2 | h2
  ·rw[gr h2,mj h2];exact⟨rfl,rfl⟩
  ·have e:i+1=N.js.length+0:=by omega
   have e2:N.js.length=i+1:=by omega
   constructor
   ·rw[e,fE];show(tuAt N N.js.length).2.1=_;conv=>lhs;rw[e2]
    rfl
   ·rw[e,iW];show(tuAt N N.js.length).2.2=_;conv=>lhs;rw[e2]
    rfl
 ·obtain⟨k,rfl⟩:∃k,i=N.js.length+k:=⟨i - N.js.length,by omega⟩
  rw[ro,Nat.add_assoc,fE,iW];exact⟨rfl,rfl⟩
theorem oz {N:Net}:stR N 0=aZ N.os.length/\stM N 0=[]:=by
 rcases wu 0 N.js.length with h | h
 ·rw[gr h,mj h];exact⟨rfl,rfl⟩
 ·have e:N.js.length=0:=by omega
  have e2:(0:Nat)=N.js.length+0:=by omega
  constructor
  ·conv=>lhs;rw[e2]
   rw[fE];show(tuAt N N.js.length).2.1=_;rw[e];rfl
  ·conv=>lhs;rw[e2]
   rw[iW];show(tuAt N N.js.length).2.2=_;rw[e];rfl
theorem rM {U:List (List Nat)}{a g t:Nat}(h:t<U.length):(app U a g).getD t []=if t=a then U.getD t []++[g]else U.getD t []:=by
 unfold app;rw[li];by_cases e:t=a
 ·subst e;rw[wO h,if_pos rfl];rfl
 ·rw[pc (xc e),if_neg e,li]
def inJ (N:Net)(t k:Nat):Bool:=t==(N.js.getD (N.js.length - 1 - k) (0,0)).1||t==(N.js.getD (N.js.length - 1 - k) (0,0)).2
theorem jo (N:Net):∀k,(tuAt N k).1.length=N.m+N.js.length
 | 0=>by show(dH N).length=_;simp[dH]
 | k+1=>by
  show(app (app _ _ _) _ _).length=_;rw[dj,dj];exact jo N k
theorem rR {N:Net}(hN:dm N){t:Nat}(ht:t<N.m+N.js.length):∀k,k<=N.js.length->(tuAt N k).1.getD t []=usO N.os t++((wF k).filter (inJ N t)).map (stG N)
 | 0,_=>by
  show(dH N).getD t []=_;unfold dH;rw[li,sB,xg ht];show _=usO N.os t++[]
  rw[yb];rfl
 | k+1,hk=>by
  have ih:=rR hN ht k (by omega);have lt:N.js.length - 1 - k<N.js.length:=by omega
  have ep:N.js[N.js.length - 1 - k]? = some (N.js.getD (N.js.length - 1 - k) (0,0)):=by rw[li,dL lt];rfl
  have ix:=(fK (h_ hN.js) ep).1;have eg:stG N k=(juU ((tuAt N k).1.getD (N.m+(N.js.length - 1 - k)) []) (tuAt N k).2.1 (tuAt N k).2.2).1:=by unfold stG;rw[ri (by omega)]
  rw[yI,zy,wJ,<- AJ,<- ih];show(app (app _ _ _) _ _).getD t []=_;rw[rM (by rw[dj,jo];exact ht),rM (by rw[jo];exact ht),<- eg,AV,zZ];unfold inJ;generalize N.js.getD (N.js.length - 1 - k) (0,0)=p at *;by_cases e1:t=p.1
  ·have e2:t≠p.2:=by omega
   rw[if_neg e2,if_pos e1,show(t==p.1)=true from beq_iff_eq.mpr e1];rfl
  ·by_cases e2:t=p.2
   ·rw[if_pos e2,if_neg e1,show(t==p.1)=false from beq_eq_false_iff_ne.mpr e1,show(t==p.2)=true from beq_iff_eq.mpr e2];rfl
   ·rw[if_neg e2,if_neg e1,show(t==p.1)=false from beq_eq_false_iff_ne.mpr e1,show(t==p.2)=false from beq_eq_false_iff_ne.mpr e2];show _=_++[]
    rw[yb]
theorem se {N:Net}(hN:dm N){i:Nat}(h:i<N.js.length+N.m):stU N i=usO N.os (thg N i)++((wF (min i N.js.length)).filter (inJ N (thg N i))).map (stG N):=by
 have ht:thg N i<N.m+N.js.length:=by unfold thg;omega
 rcases wu i N.js.length with q | q
 ·have e:N.m+(N.js.length - 1 - i)=thg N i:=by unfold thg;omega
  rw[fj q,e,rR hN ht i (by omega),yf (wT q)]
 ·obtain⟨k,rfl⟩:∃k,i=N.js.length+k:=⟨i - N.js.length,by omega⟩
  have e:N.m - 1 - k=thg N (N.js.length+k):=by unfold thg;omega
  rw[fk,e,rR hN ht _ (ms _),yB (by omega)]
theorem q_ (N:Net):∀k,(tgAt N k).1=(wF k).map λj=>stG N (N.js.length+j)
 | 0=>rfl
 | k+1=>by
  rw[yI,wJ,<- q_ N k];show _++[_]=_++[stG N (N.js.length+k)]
  unfold stG;rw[ro]
theorem t8 (N:Net):(tgAt N N.m).1.reverse=(wF N.m).map λt=>stG N (N.m+N.js.length - 1 - t):=by
 apply zI;intro t;rw[q_];rcases wu t N.m with h | h
 ·rw[yi (by simpa using h),sB,sB,xg h,db,yU,xg (by omega)];show some (stG N (N.js.length+(N.m - 1 - t)))=some (stG N (N.m+N.js.length - 1 - t));rw[show N.js.length+(N.m - 1 - t)=N.m+N.js.length - 1 - t by omega]
 ·rw[xh (by simpa using h),xh (by simpa using h)]
theorem kE:∀(xs:List Nat) {y g:Nat} {R:List Nat} (M:List (Nat×Nat)),juOk xs g R->(juS xs g R M).2.1.getD (juS xs g R M).1 0≠(juS xs g R M).2.1.getD y 0->juOk (xs++[y]) g R
 | [],_,_,_,_,_,h=>⟨h,trivial⟩
 | x::xs,_,_,_,M,h,h2=>⟨h.1,kE xs _ h.2 h2⟩
theorem u9 {N:Net}{i:Nat}(hi:i<N.js.length+N.m)(pre:∀i',i'<i->stOk N i')(no:¬stOk N i):fstT N=some i:=by
 cases h:fstT N with
 | none=>exact absurd (mO h i hi) no
 | some j =>
  obtain⟨h1,h2,h3⟩:=gS h;congr 1;rcases C3 j i with q | q | q
  ·exact absurd (pre j q) h3
  ·exact q
  ·exact absurd (h2 i q) no
theorem u7 {N:Net}(h:∀i,i<N.js.length+N.m->stOk N i):fstT N=none:=by
 cases e:fstT N with
 | none=>rfl
 | some j=>exact absurd (h j (gS e).1) (gS e).2.2
theorem mh {N:Net}(hN:dm N){i:Nat}(hi:i<N.js.length+N.m)(pre:∀i',i'<i->stOk N i'):(∀x∈stU N i,x<(stR N i).length)/\(stR N i).length=N.os.length+(stM N i).length/\(stM N i).length<=300*i/\(stU N i).length<=300:=by
 have jl:=hN.jl;rcases wu i N.js.length with h | h
 ·have I:=cY hN i (wT h) pre;have lt:N.m+(N.js.length - 1 - i)<(tuAt N i).1.length:=by rw[I.l];omega
  have hm:=bz lt;rw[fj h,gr h,mj h];exact⟨I.r _ hm,I.rl,I.ml,by have:=I.u _ hm;omega⟩
 ·obtain⟨k,rfl⟩:∃k,i=N.js.length+k:=⟨i - N.js.length,by omega⟩
  have I:=cY hN N.js.length (ms _) λi' h'=>pre i' (by omega);obtain⟨a,b,c,d⟩:=jv hN k (by omega) λi' h'=>pre i' h'
  have lt:N.m - 1 - k<(tuAt N N.js.length).1.length:=by rw[I.l];omega
  have hm:=bz lt;rw[fk,fE,iW];exact⟨λx hx=>o0 (I.r _ hm x hx) c,a,b,by have:=I.u _ hm;omega⟩
theorem qK {t:Nat}{p:Nat×Nat}{ρ:En}{q:Ko}(h:q (.d (.bl (t==p.1||t==p.2))) ρ):gIn false (.d (nD t)) (.d (L2.pairD p)) ρ q:=by
 unfold gIn;have e:inD (nD t) [nD p.1,nD p.2]=(t==p.1||t==p.2):=by
  have:=qH t [p.1,p.2];rw[show natsD [p.1,p.2]=[nD p.1,nD p.2]from rfl]at this;rw[this,xU,xU,List.contains_nil,BE]
 show(_/\_)/\q (.d (.bl (if false=true then !inD (nD t) [nD p.1,nD p.2]else inD (nD t) [nD p.1,nD p.2]))) ρ;refine⟨⟨rfl,rfl⟩,?_⟩;rw[e];exact h
section
variable {P:v3}{w:wz}{K:ac}{mg:Str->Option bi}{base:Heap}
theorem lF (dn:DefN K mg "_law_used" eZ ["_law_net_here"])(B:BI mg):OkN P w K mg base 1 "_law_used" ["_law_net_here"] (spA K tQ):=by
 refine dn.aok2 (k:=0) dc (λj=>j==0) [.un,.un,.un,.un] tQ rfl (λf cdv A outer s H E hr=>have hu:=eK hr;⟨_,(aA (a_ (i:=1) dc.nd rfl (by first | exact Or.inl rfl | exact Or.inr rfl) my)
  (aA (fm xz rfl (gj K (bA (aO K) (pv 0) aG (λ_ _=>rfl))) (cE K (n:=2) rfl (aY (aS (i:=2) dc.nd rfl (by first | exact Or.inl rfl | exact Or.inr rfl)) (aY (aS (i:=3) dc.nd rfl (by first | exact Or.inl rfl | exact Or.inr rfl)) cD)))
  (aA (gi hu (pv 1) (pv 2) dB rfl)
  (aV (gi hu (pv 1) (pv 3) dB rfl))))
  (aA (a_ (i:=4) dc.nd rfl (by first | exact Or.inl rfl | exact Or.inr rfl) (bf (sN K) (hZ ["_law_thing"] [1] rfl (Blk.of (aK eZ) ie) (cn rfl B.range_ (af (bf bN (bA (aO K) (pv 0) aG (λ_ _=>rfl)) (aJ (aN K) rfl B.len_ bu (af (bA (aO K) (pv 0) aG (λ_ _=>rfl)) ar))) ar)) (λ_ _ _ _ nd=>(aS (i:=0) nd rfl (by first | exact Or.inl rfl | exact Or.inr rfl))) (λ_ _ _ _=>(oP (uy (o5 hu (pv 0) (pv 1))))) (λ_ _ _ _=>(pv 0))) (cP (nW K) rfl B.list_ p6 (af (bA (aO K) (pv 0) aG (λ_ _=>rfl)) ar))))
  (aV (cm (cx (af (bA (aO K) (pv 0) aG (λ_ _=>rfl)) (af (bA (aO K) (pv 0) aG (λ_ _=>rfl)) (af (cP (cv K) rfl B.tuple_ dR (af (dJ (eW K) (pv 4) fv (eA aG)) ar)) ar))))))))),(aw (aT l_ rfl)
  (aw (cA (pin:=(λ_=>false)) (eV (aD bh aj aE)) (bW (aM (aF rfl) (aM (aF rfl) bK (λ_ _ _=>bq)) (λ_ _ _=>bq)))
  (aw (jy cw aj aj)
  (jy cw aj aj)))
  (aw (aT (aD sP (dr (cg (aa (aD aP (aD bh aj aE) (bb aW (aa (aD bh aj aE) aq))) aq)) (aF rfl) (bc (m5 aj aj)) aj) (bb pX (aa (aD bh aj aE) aq))) rfl)
  (bS (bR (aa (aD bh aj aE) (aa (aD bh aj aE) (aa (bb cJ (aa (gX aj fX (cZ aE)) aq)) aq))))))))⟩) ?_
 rintro ss q ⟨N,rfl,hN,hq⟩;have jl:=hN.jl;have m12:=hN.m12;have o24:=hN.o24;refine⟨rfl,rfl,?_⟩;refine cutS (λρ=>ρ=[.vl (netD N),.dk [],.un,.un,.un]) (λM hM=>hM _ rfl) ?_;rintro _ rfl;refine cutS (λρ=>∃kvs s2 s3,ρ=[.vl (netD N),.dk kvs,s2,s3,.un]) (λM hM=>?_) ?_
 ·refine iu (i:=1) (d:=.tup (N.js.map L2.pairD)) rfl rfl ?_;refine fQ L2.pairD (λk ρ=>∃kvs s2 s3,kvs.length<=2*k/\ρ=[.vl (netD N),.dk kvs,s2,s3,.un]) (λ_ _ _=>trivial) ?_ (λρ ⟨kvs,s2,s3,_,e⟩=>hM ρ ⟨kvs,s2,s3,e⟩) ⟨[],.un,.un,wp _,rfl⟩;rintro k p _ M2 hp ⟨kvs,s2,s3,hl,rfl⟩ hM2;have hk:=(lm.mp hp).1;refine t4 (d1:=nD p.1) (d2:=nD p.2) ?_;have l1:=mv kvs (.inl ((p.1:Nat):Int)) (.bl true);have l2:=mv (putD kvs (.inl ((p.1:Nat):Int)) (.bl true)) (.inl ((p.2:Nat):Int)) (.bl true);refine⟨by omega,by omega,hM2 _ ⟨_,_,_,by omega,rfl⟩⟩
 rintro _ ⟨kvs,s2,s3,rfl⟩;have er:rngD 0 ((N.m:Int)+(((N.js.map L2.pairD).length:Nat):Int)).toNat=(wF (N.m+N.js.length)).map nD:=by
  rw[db,show((N.m:Int)+((N.js.length:Nat):Int)).toNat=N.m+N.js.length by omega];exact Ch λx _=>congrArg D.int (by show(0:Int)+(x:Int)=_;omega)
 refine cutS (λρ=>∃L:List Nat,(∀t∈L,t<N.m+N.js.length)/\ρ=[.vl (netD N),.dk kvs,s2,s3,.ow (natsD (L++N.os))]) (λM hM=>?_) ?_
 ·refine iu (i:=0) (d:=nD N.m) rfl rfl (iu (i:=1) (d:=.tup (N.js.map L2.pairD)) rfl rfl ⟨⟨by omega,by rw[db];omega⟩,by rw[cb,db];omega,?_⟩);show fh _ _ _ _ _ _ _ (rngD 0 ((N.m:Int)+(((N.js.map L2.pairD).length:Nat):Int)).toNat) [] _;rw[er];refine kO nD (λ(t:Nat)=>!(valD kvs (.inl (t:Int))).isSome) nD trivial (λt acc N2 ht hN2=>?_) ?_
  ·cases h:(valD kvs (.inl (t:Int))).isSome <;> rw[h]at hN2
   ·show if(!(valD kvs (.inl (t:Int))).isSome)=true then _ else _
    rw[h];exact hN2
   ·show if(!(valD kvs (.inl (t:Int))).isSome)=true then _ else _
    rw[h];exact hN2
  refine iu (i:=2) (d:=.tup (natsD N.os)) rfl rfl ⟨?_,?_⟩
  ·have:=z6 (λ(t:Nat)=>!(valD kvs (.inl (t:Int))).isSome) (wF (N.m+N.js.length));rw[yU]at this;rw[db,aQ];omega
  ·refine hM _ ⟨(wF (N.m+N.js.length)).filter λ(t:Nat)=>!(valD kvs (.inl (t:Int))).isSome,λt ht=>xT.mp (y_.mp ht).1,?_⟩;unfold natsD;rw[wJ];rfl
 rintro _ ⟨L,hL,rfl⟩;refine iu (i:=0) (d:=nD N.m) rfl rfl (iu (i:=1) (d:=.tup (N.js.map L2.pairD)) rfl rfl ?_);have e12:L2.cutD (natsD (L++N.os)) none (some ((12:Nat):Int))=natsD ((L++N.os).take 12):=by
  rw[kM];unfold natsD;rw[BC]
 show(3<=1000000)/\q (.d (.tup [nD N.m,.tup (N.js.map L2.pairD),.tup (L2.cutD (natsD (L++N.os)) none (some ((12:Nat):Int)))])) _;rw[e12];refine⟨by omega,hq ⟨N.m,N.js,(L++N.os).take 12⟩ ⟨hN.m1,hN.m12,hN.jl,hN.js,?_,?_,λo ho=>?_⟩⟩
 ·have:=hN.o1;rw[xm,wb];omega
 ·rw[xm];omega
 ·rcases xM.mp (B5 ho)with h | h
  ·exact hL o h
  ·exact hN.os o h
theorem nA (dn:DefN K mg "_law_due" dz ["_law_net_here"])(B:BI mg):OkN P w K mg base 1 "_law_due" ["_law_net_here"] (spA K SDue):=by
 refine dn.aok2 (k:=0) bE (λj=>j==0) [.un,.un,.un,.un,.un,.un,.un,.un,.un,.un,.un] SDue rfl (λf cdv A outer s H E hr=>have hu:=eK hr;⟨_,(aA (i5 (pv 0) (cE K (n:=3) rfl (aY (aS (i:=1) bE.nd rfl (by first | exact Or.inl rfl | exact Or.inr rfl)) (aY (aS (i:=2) bE.nd rfl (by first | exact Or.inl rfl | exact Or.inr rfl)) (aY (aS (i:=3) bE.nd rfl (by first | exact Or.inl rfl | exact Or.inr rfl)) cD)))))
  (aA (eh (PW.pt (oO (bw gk (aJ (aN K) rfl B.len_ bu (af (pv 3) ar)) aG (bO _)) (km (bw gk (bf cF (bf bN (aJ (aN K) rfl B.len_ bu (af (pv 2) ar)) (aJ (aN K) rfl B.len_ bu (af (pv 3) ar))) (pv 1)) aG (bO _)))))
  (aV (cm (cx (af cp (af (dv (af dB (af dB (af dB (af dB ar))))) (af dB (af kr ar)))))))
  bY)
  (aA (jF (i:=4) ["_law_place"] [] bE.nd rfl (by first | exact Or.inl rfl | exact Or.inr rfl) rfl (Blk.of (aK dz) e7) (cn rfl B.range_ (af (aJ (aN K) rfl B.len_ bu (af (pv 3) ar)) ar)) (λ_ _ _ _ nd=>(aS (i:=0) nd rfl (by first | exact Or.inl rfl | exact Or.inr rfl))) (λ_ _ _ _=>fu) (λ_ _ _ _=>(bf o8 aG (pv 0))))
  (aA (a_ (i:=5) bE.nd rfl (by first | exact Or.inl rfl | exact Or.inr rfl) (dv ar))
  (aA (a_ (i:=6) bE.nd rfl (by first | exact Or.inl rfl | exact Or.inr rfl) my)
  (aA (fm xz rfl (kq rfl B.range_ (af (bf cF (bf bN (pv 1) (aJ (aN K) rfl B.len_ bu (af (pv 2) ar))) aG) (af (oY j7 aG) (af (oY j7 aG) ar)))) (aS (i:=7) bE.nd rfl (by first | exact Or.inl rfl | exact Or.inr rfl))
  (aA (jF (i:=8) ["_law_place"] [3,7] bE.nd rfl (by first | exact Or.inl rfl | exact Or.inr rfl) rfl (Blk.of (aK dz) e7) (cn rfl B.range_ (af (aJ (aN K) rfl B.len_ bu (af (pv 3) ar)) ar)) (λ_ _ _ _ nd=>(aS (i:=0) nd rfl (by first | exact Or.inl rfl | exact Or.inr rfl))) (λ_ _ _ _=>(oP (bw (gw K hr.units) (bA (aO K) (pv 1) (pv 0) (λ_ _=>rfl)) (pv 2) (bO _)))) (λ_ _ _ _=>(pv 0)))
  (aA (fm xz rfl (kq rfl B.range_ (af (bf cF (aJ (aN K) rfl B.len_ bu (af (pv 2) ar)) aG) (af (aJ (dF rfl) rfl B.max_ jj (af (oY j7 aG) (af (bf cF (pv 7) (pv 1)) ar))) (af (oY j7 aG) ar)))) (aS (i:=9) bE.nd rfl (by first | exact Or.inl rfl | exact Or.inr rfl))
  (aV (eh (bw (ny K) (pv 7) (bA (aO K) (pv 2) (pv 9) (λ_ _=>rfl)) rfl)
  (aV (bM (cH K wc v_ v9 bx (pv 8) (af (fw hu (pv 6) (bf bN (pv 1) (pv 9)) (λ_ _=>rfl)) ar))))
  bY)))
  (aA (eh (bw (gw K hr.units) (pv 8) (dv ar) (bO _))
  (aV (cm (cx (af cp (af (dv (af dB (af dB (af dB (af dB ar))))) (af dB (af (pv 7) ar)))))))
  bY)
  (aA (a_ (i:=10) bE.nd rfl (by first | exact Or.inl rfl | exact Or.inr rfl) (bA (aO K) (pv 8) aG (λ_ _=>rfl)))
  (aA (fm xz rfl (gj K (dJ (eW K) (pv 8) (eA aG) fv)) (aS (i:=11) bE.nd rfl (by first | exact Or.inl rfl | exact Or.inr rfl))
  (aA (eh (bw (gw K hr.units) (bA (aO K) (pv 4) (pv 11) (λ_ _=>rfl)) (bA (aO K) (pv 4) (pv 10) (λ_ _=>rfl)) (bO _))
  (aV (cm (cx (af cp (af (dv (af dB (af dB (af dB (af dB ar))))) (af dB (af (pv 7) ar)))))))
  bY)
  (aA (bM (cH K wc v_ v9 bx (pv 5) (af (cx (af (aJ (iF rfl) rfl B.min_ p0 (af (pv 10) (af (pv 11) ar))) (af (aJ (dF rfl) rfl B.max_ jj (af (pv 10) (af (pv 11) ar))) ar))) ar)))
  (aA (bM (cH K wc v_ v9 bx (pv 4) (af (bf o7 (bA (aO K) (pv 4) (pv 10) (λ_ _=>rfl)) (bA (aO K) (pv 4) (pv 11) (λ_ _=>rfl))) ar)))
  (aV (a_ (i:=10) bE.nd rfl (by first | exact Or.inl rfl | exact Or.inr rfl) (bf cF (aJ (aN K) rfl B.len_ bu (af (pv 4) ar)) aG)))))))
  (aV (gi hu (pv 6) (pv 7) (pv 10) rfl))))))))
  (aV (cm (cx (af cp (af (cx (af (aJ (aN K) rfl B.len_ bu (af (pv 3) ar)) (af (cP (cv K) rfl B.tuple_ dR (af (pv 5) ar)) (af (cP (cv K) rfl B.tuple_ dR (af (hZ ["_law_k"] [6] rfl (Blk.of (aK dz) e7) (cn rfl B.range_ (af (pv 1) ar)) (λ_ _ _ _ nd=>(aS (i:=0) nd rfl (by first | exact Or.inl rfl | exact Or.inr rfl))) (λ_ _ _ _=>fu) (λ_ _ _ _=>(fw hu (pv 1) (pv 0) (λ_ _=>rfl)))) ar)) ar)))) ar))))))))))),(aw (f_ aj (bW (aM (aF rfl) (aM (aF rfl) (aM (aF rfl) bK (λ_ _ _=>bq)) (λ_ _ _=>bq)) (λ_ _ _=>bq))))
  (aw (ck (gW (bc (aD dg (bb aW (aa aj aq)) aE)) (bc (aD dg (aD aP (aD aP (bb aW (aa aj aq)) (bb aW (aa aj aq))) aj) aE)))
  (bS (bR (aa fY (aa (cI (aa cw (aa cw (aa cw (aa cw aq))))) (aa cw (aa fZ aq))))))
  ba)
  (aw (jx (dr (cg (aa (bb aW (aa aj aq)) aq)) (aF rfl) eU (aD h9 aE aj)) rfl)
  (aw (aT (cI aq) rfl)
  (aw (aT l_ rfl)
  (aw (cA (pin:=(λ_=>false)) (j9 (aa (aD aP (aD aP aj (bb aW (aa aj aq))) aE) (aa (gY aE) (aa (gY aE) aq)))) (aF rfl)
  (aw (jx (dr (cg (aa (bb aW (aa aj aq)) aq)) (aF rfl) (bc (aD gy (aD bh aj aj) aj)) aj) rfl)
  (aw (cA (pin:=(λ_=>false)) (j9 (aa (aD aP (bb aW (aa aj aq)) aE) (aa (bb e_ (aa (gY aE) (aa (aD aP aj aj) aq))) (aa (gY aE) aq)))) (aF rfl)
  (ck (bc (aD (uH false) aj (aD bh aj aj)))
  (cB (c_ aj (aa (md aj (aD aP aj aj)) aq)))
  ba))
  (aw (ck (bc (aD gy aj (cI aq)))
  (bS (bR (aa fY (aa (cI (aa cw (aa cw (aa cw (aa cw aq))))) (aa cw (aa aj aq))))))
  ba)
  (aw (aT (aD bh aj aE) rfl)
  (aw (cA (pin:=(λ_=>false)) (eV (gX aj (cZ aE) fX)) (aF rfl)
  (aw (ck (bc (aD gy (aD bh aj aj) (aD bh aj aj)))
  (bS (bR (aa fY (aa (cI (aa cw (aa cw (aa cw (aa cw aq))))) (aa cw (aa aj aq))))))
  ba)
  (aw (cB (c_ aj (aa (bR (aa (bb jU (aa aj (aa aj aq))) (aa (bb e_ (aa aj (aa aj aq))) aq))) aq)))
  (aw (cB (c_ aj (aa (aD aP (aD bh aj aj) (aD bh aj aj)) aq)))
  (aT (aD aP (bb aW (aa aj aq)) aE) rfl)))))
  (jy aj aj aj)))))))
  (bS (bR (aa fY (aa (bR (aa (bb aW (aa aj aq)) (aa (bb cJ (aa aj aq)) (aa (bb cJ (aa (dr (cg (aa aj aq)) (aF rfl) eU (md aj aj)) aq)) aq)))) aq))))))))))⟩) ?_
 rintro ss q ⟨N,rfl,hN,hq⟩;have jl:=hN.jl;have m12:=hN.m12;have o1:=hN.o1;refine⟨rfl,rfl,?_⟩;refine cutS (λρ=>ρ=[.vl (netD N),nv N.m,.vl (.tup (N.js.map L2.pairD)),.vl (.tup (natsD N.os)),.un,.un,.un,.un,.un,.un,.un,.un]) (λM hM=>hM _ rfl) ?_;rintro _ rfl;unfold m4 at hq;by_cases hs:N.os.length<=12/\N.js.length+N.os.length<=N.m+132
 rotate_left
 ·rw[if_pos hs]at hq;have g:(if decide ((12:Int)<(((natsD N.os).length:Nat):Int))=true then true else decide ((132:Int)<(((N.js.map L2.pairD).length:Nat):Int)+(((natsD N.os).length:Nat):Int) - (N.m:Int)))=true:=by
   rw[aQ,db];by_cases h:12<N.os.length
   ·rw[if_pos (decide_eq_true (by omega))]
   ·rw[if_neg (by rw[decide_eq_true_eq];omega),decide_eq_true_eq];omega
  show if decide ((12:Int)<(((natsD N.os).length:Nat):Int))=true then _ else(if decide ((132:Int)<(((N.js.map L2.pairD).length:Nat):Int)+(((natsD N.os).length:Nat):Int) - (N.m:Int))=true then _ else _)
  by_cases h:decide ((12:Int)<(((natsD N.os).length:Nat):Int))=true
  ·rw[if_pos h];exact⟨by simp,by simp,hq⟩
  ·rw[if_neg h]at g ⊢;rw[if_pos g];exact⟨by simp,by simp,hq⟩
 rw[if_neg (not_not_intro hs)]at hq;obtain⟨ho,hj⟩:=hs;refine cutS (λρ=>ρ=[.vl (netD N),nv N.m,.vl (.tup (N.js.map L2.pairD)),.vl (.tup (natsD N.os)),.un,.un,.un,.un,.un,.un,.un,.un]) (λM hM=>?_) ?_
 ·have g1:decide ((12:Int)<(((natsD N.os).length:Nat):Int))=false:=by rw[aQ,decide_eq_false_iff_not];omega
  have g2:decide ((132:Int)<(((N.js.map L2.pairD).length:Nat):Int)+(((natsD N.os).length:Nat):Int) - (N.m:Int))=false:=by rw[aQ,db,decide_eq_false_iff_not];omega
  show if decide ((12:Int)<(((natsD N.os).length:Nat):Int))=true then _ else(if decide ((132:Int)<(((N.js.map L2.pairD).length:Nat):Int)+(((natsD N.os).length:Nat):Int) - (N.m:Int))=true then _ else _)
  rw[g1,g2];exact hM _ rfl
 rintro _ rfl;refine cutS (λρ=>ρ=[.vl (netD N),nv N.m,.vl (.tup (N.js.map L2.pairD)),.vl (.tup (natsD N.os)),.ow (natsD (aZ N.os.length)),.un,.un,.un,.un,.un,.un,.un]) (λM hM=>?_) ?_
 ·refine⟨⟨by rw[aQ];omega,by rw[aQ];omega⟩,by rw[cb,aQ];omega,fR (λk=>.int (1 <<< k:Nat)) trivial (λk acc N hk hN=>?_) ?_⟩
  ·rw[AM];rw[aQ]at hk;refine⟨⟨by omega,by omega,by decide⟩,?_⟩;show N (acc++[.int ((1:Int)*2^((k:Int).toNat))]) _;rw[lp];exact hN
  ·have e:((wF (((natsD N.os).length:Nat):Int).toNat).map λk=>D.int (1 <<< k:Nat))=natsD (aZ N.os.length):=by
    rw[aQ,show((N.os.length:Nat):Int).toNat=N.os.length by omega];unfold aZ natsD;rw[yw];rfl
   rw[e];exact hM _ rfl
 rintro _ rfl;refine cutS (λρ=>ρ=[.vl (netD N),nv N.m,.vl (.tup (N.js.map L2.pairD)),.vl (.tup (natsD N.os)),.ow (natsD (aZ N.os.length)),.ow (([]:List (Nat×Nat)).map L2.pairD),.un,.un,.un,.un,.un,.un]) (λM hM=>⟨wp _,hM _ rfl⟩) ?_;rintro _ rfl;refine cutS (λρ=>ρ=[.vl (netD N),nv N.m,.vl (.tup (N.js.map L2.pairD)),.vl (.tup (natsD N.os)),.ow (natsD (aZ N.os.length)),.ow (([]:List (Nat×Nat)).map L2.pairD),.dk [],.un,.un,.un,.un,.un]) (λM hM=>hM _ rfl) ?_;rintro _ rfl;have hS:∀(i:Nat),[Sv.vl (netD N),nv N.m,.vl (.tup (N.js.map L2.pairD)),.vl (.tup (natsD N.os)),.ow (natsD (stR N i)),.ow ((stM N i).map L2.pairD)]=[Sv.vl (netD N),nv N.m,.vl (.tup (N.js.map L2.pairD)),.vl (.tup (natsD N.os)),.ow (natsD (stR N i)),.ow ((stM N i).map L2.pairD)]:=λ_=>rfl;clear hS;refine cutS (λρ=>fstT N=none/\∃s7 s8 s9 s10 s11,ρ=[.vl (netD N),nv N.m,.vl (.tup (N.js.map L2.pairD)),.vl (.tup (natsD N.os)),.ow (natsD (stR N (N.m+N.js.length))),.ow ((stM N (N.m+N.js.length)).map L2.pairD),.dk (kvs (λj=>((N.m+N.js.length:Nat):Int) - 1 - (j:Nat)) (stG N) (N.m+N.js.length)),s7,s8,s9,s10,s11]) (λM hM=>?_) ?_
 ·refine⟨⟨by omega,by rw[db];omega⟩,?_⟩;have ed:(((N.m:Int)+(((N.js.map L2.pairD).length:Nat):Int) - 1) - (-1:Int)).toNat=N.m+N.js.length:=by rw[db];omega
  show forA _ _ _ _ (dwnD ((N.m:Int)+(((N.js.map L2.pairD).length:Nat):Int) - 1) (((N.m:Int)+(((N.js.map L2.pairD).length:Nat):Int) - 1) - (-1:Int)).toNat) _;rw[ed];refine mQ (λi ρ=>i<=N.m+N.js.length/\(∀i',i'<i->stOk N i')/\∃s7 s8 s9 s10 s11,ρ=[.vl (netD N),nv N.m,.vl (.tup (N.js.map L2.pairD)),.vl (.tup (natsD N.os)),.ow (natsD (stR N i)),.ow ((stM N i).map L2.pairD),.dk (kvs (λj=>((N.m+N.js.length:Nat):Int) - 1 - (j:Nat)) (stG N) i),s7,s8,s9,s10,s11]) (λ_ _ _=>trivial) ?_ (λρ ⟨_,pre,s7,s8,s9,s10,s11,e⟩=>hM ρ ⟨u7 λi hi=>pre i (by omega),s7,s8,s9,s10,s11,e⟩) ⟨wp _,λi h=>absurd h (Nat.not_lt_zero i),.un,.un,.un,.un,.un,by rw[oz.1,oz.2];rfl⟩;rintro i _ M2 hi ⟨_,pre,s7,s8,s9,s10,s11,rfl⟩ hM2;have ht:thg N i<N.m+N.js.length:=by unfold thg;omega
  have et:(N.m:Int)+(((N.js.map L2.pairD).length:Nat):Int) - 1 - (i:Nat)=((thg N i:Nat):Int):=by rw[db];unfold thg;omega
  rw[et];have hU:=se hN (i:=i) (by omega);have key:=u9 (N:=N) (i:=i) (by omega) pre;have inj:∀j,j<i->((N.m+N.js.length:Nat):Int) - 1 - (j:Nat)≠((N.m+N.js.length:Nat):Int) - 1 - (i:Nat):=λj hj=>by omega
  have etz:((thg N i:Nat):Int)=((N.m+N.js.length:Nat):Int) - 1 - (i:Nat):=by unfold thg;omega
  have hR:∀x∈stU N i,x<(stR N i).length:=(mh hN (by omega) pre).1;have hRl:(stR N i).length<=300*i+12:=by have:=(mh hN (i:=i) (by omega) pre).2;omega
  have hMl:(stM N i).length<=300*i:=(mh hN (by omega) pre).2.2.1;have hUl:(stU N i).length<=300:=(mh hN (by omega) pre).2.2.2;obtain⟨eR,eM⟩:=sd (N:=N) i;have eJ:stJ N i=juU (stU N i) (stR N i) (stM N i):=rfl;have eG:stG N i=(stJ N i).1:=rfl;have eO:stOk N i↔qF (stU N i) (stR N i):=Iff.rfl;show aSeq _ _ _ [.vl (netD N),nv N.m,.vl (.tup (N.js.map L2.pairD)),.vl (.tup (natsD N.os)),.ow (natsD (stR N i)),.ow ((stM N i).map L2.pairD),.dk (kvs (λj=>((N.m+N.js.length:Nat):Int) - 1 - (j:Nat)) (stG N) i),nv (thg N i),s8,s9,s10,s11];have hkv:∀k,k<i->valD (kvs (λj=>((N.m+N.js.length:Nat):Int) - 1 - (j:Nat)) (stG N) i) (.inl (((N.m+N.js.length:Nat):Int) - 1 - (k:Nat)))=some (nD (stG N k)):=λk hk=>n4 hk rfl λj _ e=>by omega
  have hpk:=sA (f:=λj=>((N.m+N.js.length:Nat):Int) - 1 - (j:Nat)) (g:=stG N) (c:=i) (z:=((thg N i:Nat):Int)) etz inj;have hkl:(kvs (λj=>((N.m+N.js.length:Nat):Int) - 1 - (j:Nat)) (stG N) i).length=i:=by unfold kvs;rw[db,yU]
  generalize hKv:kvs (λj=>((N.m+N.js.length:Nat):Int) - 1 - (j:Nat)) (stG N) i=Kv at *;refine cutS (λρ=>ρ=[.vl (netD N),nv N.m,.vl (.tup (N.js.map L2.pairD)),.vl (.tup (natsD N.os)),.ow (natsD (stR N i)),.ow ((stM N i).map L2.pairD),.dk Kv,nv (thg N i),.ow (natsD (usO N.os (thg N i))),s9,s10,s11]) (λM3 hM3=>?_) ?_
  ·have er:rngD 0 (((natsD N.os).length:Nat):Int).toNat=(wF N.os.length).map nD:=by
    rw[aQ,show((N.os.length:Nat):Int).toNat=N.os.length by omega];exact Ch λx _=>congrArg D.int (by show(0:Int)+(x:Int)=_;omega)
   refine⟨⟨by rw[aQ];omega,by rw[aQ];omega⟩,by rw[cb,aQ];omega,?_⟩;show fh _ _ _ _ _ _ _ (rngD 0 (((natsD N.os).length:Nat):Int).toNat) [] _;rw[er];refine kO nD (λp=>N.os.getD p 0==thg N i) nD trivial (λp acc N2 hp hN2=>?_) (hM3 _ rfl);have hp':=xT.mp hp;refine iu (d:=nD (N.os.getD p 0)) rfl (gq (by unfold natsD;rw[sB,dL hp',li,dL hp'];rfl)) ?_;refine dX (b:=N.os.getD p 0==thg N i) rfl rfl (by simp[D.depth]) (by show decide (((N.os.getD p 0:Nat):Int)=((thg N i:Nat):Int))=_;rw[Bool.eq_iff_iff,decide_eq_true_iff,beq_iff_eq];omega) ?_;cases h:(N.os.getD p 0==thg N i) <;> rw[h]at hN2 <;> exact hN2
  rintro _ rfl;refine cutS (λρ=>∃s9,ρ=[.vl (netD N),nv N.m,.vl (.tup (N.js.map L2.pairD)),.vl (.tup (natsD N.os)),.ow (natsD (stR N i)),.ow ((stM N i).map L2.pairD),.dk Kv,nv (thg N i),.ow (natsD (stU N i)),s9,s10,s11]) (λM3 hM3=>?_) ?_
  ·have emx:(if((thg N i:Nat):Int) - (N.m:Int) > -1 then((thg N i:Nat):Int) - (N.m:Int)else -1)=((N.js.length:Nat):Int) - 1 - ((min i N.js.length:Nat):Int):=by unfold thg;split <;> omega
   have ed:((((N.js.map L2.pairD).length:Nat):Int) - 1 - (if((thg N i:Nat):Int) - (N.m:Int) > -1 then((thg N i:Nat):Int) - (N.m:Int)else -1)).toNat=min i N.js.length:=by rw[emx,db];omega
   refine⟨⟨by rw[db];omega,by rw[db];omega,by show _<=(if((thg N i:Nat):Int) - (N.m:Int) > -1 then((thg N i:Nat):Int) - (N.m:Int)else -1);rw[emx];omega,by show(if((thg N i:Nat):Int) - (N.m:Int) > -1 then((thg N i:Nat):Int) - (N.m:Int)else -1)<=_;rw[emx];omega⟩,?_⟩;show forA _ _ _ _ (dwnD ((((N.js.map L2.pairD).length:Nat):Int) - 1) ((((N.js.map L2.pairD).length:Nat):Int) - 1 - (if((thg N i:Nat):Int) - (N.m:Int) > -1 then((thg N i:Nat):Int) - (N.m:Int)else -1)).toNat) _;rw[ed];refine mQ (λk ρ=>∃s9,ρ=[.vl (netD N),nv N.m,.vl (.tup (N.js.map L2.pairD)),.vl (.tup (natsD N.os)),.ow (natsD (stR N i)),.ow ((stM N i).map L2.pairD),.dk Kv,nv (thg N i),.ow (natsD (usO N.os (thg N i)++((wF k).filter (inJ N (thg N i))).map (stG N))),s9,s10,s11]) (λ_ _ _=>trivial) ?_ (λρ ⟨s9,e⟩=>hM3 ρ ⟨s9,by rw[e,hU]⟩) ⟨s9,by rw[List.range_zero,zZ,yu,yb]⟩;rintro k _ M4 hk ⟨s9,rfl⟩ hM4;have hkJ:N.js.length - 1 - k<N.js.length:=by omega
   have ez:(((N.js.map L2.pairD).length:Nat):Int) - 1 - (k:Nat)=((N.js.length - 1 - k:Nat):Int):=by rw[db];omega
   rw[ez];show aIfS _ _ _ _ [.vl (netD N),nv N.m,.vl (.tup (N.js.map L2.pairD)),.vl (.tup (natsD N.os)),.ow (natsD (stR N i)),.ow ((stM N i).map L2.pairD),.dk Kv,nv (thg N i),.ow (natsD (usO N.os (thg N i)++((wF k).filter (inJ N (thg N i))).map (stG N))),nv (N.js.length - 1 - k),s10,s11];have hst:(wF (k+1)).filter (inJ N (thg N i))=(wF k).filter (inJ N (thg N i))++if inJ N (thg N i) k=true then[k]else[]:=by rw[yI,zy,AV,zZ]
   refine iu (d:=L2.pairD (N.js.getD (N.js.length - 1 - k) (0,0))) rfl (gq (by rw[sB,dL hkJ,li,dL hkJ];rfl)) (qK ?_);show if inJ N (thg N i) k=true then _ else _
   by_cases hc:inJ N (thg N i) k=true
   ·rw[if_pos hc]at hst ⊢;have ek:(N.m:Int)+((N.js.length - 1 - k:Nat):Int)=((N.m+N.js.length:Nat):Int) - 1 - (k:Nat):=by omega
    refine mM rfl (by rw[ek];exact hkv k (by omega)) ⟨?_,hM4 _ ⟨nv (N.js.length - 1 - k),?_⟩⟩
    ·rw[aQ,wb,db];have h1:=jk N.os N.os.length (thg N i);have h2:=z6 (inJ N (thg N i)) (wF k);rw[yU]at h2;unfold usO;unfold usP at h1;omega
    ·rw[hst,wJ,show(Dl (stG N) [k])=[stG N k]from rfl,<- AJ,bP];rfl
   ·rw[if_neg hc]at hst ⊢;rw[yb]at hst;exact hM4 _ ⟨nv (N.js.length - 1 - k),by rw[hst]⟩
  rintro _ ⟨s9,rfl⟩;have dE:(D.lst (natsD (stU N i))).depth<=60:=by have:=fB (stU N i);simp only[D.depth];omega
  have eqE:∀xs:List Nat,eqD (.lst (natsD xs)) (.lst [])=xs.isEmpty:=λxs=>by cases xs <;> rfl
  refine cutS (λρ=>stU N i≠[]/\ρ=[.vl (netD N),nv N.m,.vl (.tup (N.js.map L2.pairD)),.vl (.tup (natsD N.os)),.ow (natsD (stR N i)),.ow ((stM N i).map L2.pairD),.dk Kv,nv (thg N i),.ow (natsD (stU N i)),s9,s10,s11]) (λM3 hM3=>?_) ?_
  ·by_cases hz:stU N i=[]
   ·rw[key λz=>z.1 hz]at hq;dsimp only at hq;rw[if_pos hz]at hq;exact⟨wp _,dX (b:=true) rfl rfl dE (by rw[hz];rfl) ⟨by simp,by simp,hq⟩⟩
   ·exact⟨wp _,dX (b:=false) rfl rfl dE ((eqE _).trans (zJ.mpr λz=>hz (List.isEmpty_iff.mp z))) (hM3 _ ⟨hz,rfl⟩)⟩
  rintro _ ⟨hz,rfl⟩;obtain⟨u,us,hu⟩:=wE hz;have hE:stU N i≠[]:=hz;rw[hu]at hR hUl eJ eO ⊢;rw[wn]at hUl;have eJ:stJ N i=juS us u (stR N i) (stM N i):=eJ;refine cutS (λρ=>ρ=[.vl (netD N),nv N.m,.vl (.tup (N.js.map L2.pairD)),.vl (.tup (natsD N.os)),.ow (natsD (stR N i)),.ow ((stM N i).map L2.pairD),.dk Kv,nv (thg N i),.ow (natsD (u::us)),s9,nv u,s11]) (λM3 hM3=>bD rfl (A7 _) (hM3 _ rfl)) ?_;rintro _ rfl;refine cutS (λρ=>juOk us u (stR N i)/\∃s11,ρ=[.vl (netD N),nv N.m,.vl (.tup (N.js.map L2.pairD)),.vl (.tup (natsD N.os)),.ow (natsD (juS us u (stR N i) (stM N i)).2.1),.ow ((juS us u (stR N i) (stM N i)).2.2.map L2.pairD),.dk Kv,nv (thg N i),.ow (natsD (u::us)),s9,nv (juS us u (stR N i) (stM N i)).1,s11]) (λM3 hM3=>?_) ?_
  ·have e1:L2.cutD (natsD (u::us)) (some 1) none=natsD us:=by
    show L2.cutD (natsD (u::us)) (some ((1:Nat):Int)) none=_;rw[iB];rfl
   show forA _ _ _ _ (L2.cutD (natsD (u::us)) (some 1) none) _;rw[e1];refine fQ nD (λk ρ=>juOk (us.take k) u (stR N i)/\∃s11,ρ=[.vl (netD N),nv N.m,.vl (.tup (N.js.map L2.pairD)),.vl (.tup (natsD N.os)),.ow (natsD (juS (us.take k) u (stR N i) (stM N i)).2.1),.ow ((juS (us.take k) u (stR N i) (stM N i)).2.2.map L2.pairD),.dk Kv,nv (thg N i),.ow (natsD (u::us)),s9,nv (juS (us.take k) u (stR N i) (stM N i)).1,s11]) (λ_ _ _=>trivial) ?_ (λρ ⟨h,s11,e⟩=>hM3 ρ ⟨by rwa [yZ]at h,s11,by rw[e,yZ]⟩) ⟨trivial,s11,rfl⟩;rintro k x _ M4 hx ⟨hok,s11,rfl⟩ hM4;have hk:=(lm.mp hx).1;have hxu:=hR x (wQ _ (wr hx));have hsn:us.take (k+1)=us.take k++[x]:=by rw[zG,hx];rfl
   have hsp:=iV hx hk;rw[yZ]at hsp;have hno:(juS (us.take k) u (stR N i) (stM N i)).2.1.getD (juS (us.take k) u (stR N i) (stM N i)).1 0=(juS (us.take k) u (stR N i) (stM N i)).2.1.getD x 0->¬stOk N i:=λe z=>jN (us.take k) (y:=x) (ys:=us.drop (k+1)) (stM N i) (by rw[<- hsp];exact(eO.mp z).2) e;have hyes:=kE (us.take k) (y:=x) (stM N i) hok;rw[<- hsn]at hyes;have ln:=eI (us.take k) u (stR N i) (stM N i);have lt:=kD (us.take k) (g:=u) (R:=stR N i) (M:=stM N i) (hR u (wV ..));have tk:(us.take k).length<=us.length:=by rw[xm];omega
   have hnext:=gQ (us.take k) x u (stR N i) (stM N i);rw[<- hsn]at hnext;have dI:∀ {i:Int},D.depth (.int i)<=60:=λ{i}=>by simp[D.depth]
   generalize juS (us.take k) u (stR N i) (stM N i)=J at *;obtain⟨g,R1,M1⟩:=J;dsimp only at ln lt hno hyes hnext ⊢;refine gaN1 ?_;show aSeq _ _ _ [.vl (netD N),nv N.m,.vl (.tup (N.js.map L2.pairD)),.vl (.tup (natsD N.os)),.ow (natsD R1),.ow (M1.map L2.pairD),.dk Kv,nv (thg N i),.ow (natsD (u::us)),s9,nv g,nv x];refine cutS (λρ=>R1.getD g 0≠R1.getD x 0/\ρ=[.vl (netD N),nv N.m,.vl (.tup (N.js.map L2.pairD)),.vl (.tup (natsD N.os)),.ow (natsD R1),.ow (M1.map L2.pairD),.dk Kv,nv (thg N i),.ow (natsD (u::us)),s9,nv g,nv x]) (λM5 hM5=>?_) ?_
   ·refine bD rfl (by omega) (bD rfl lt (dX rfl rfl dI rfl (ite2 (λz=>?_) λz=>?_)))
    ·have z:=of_decide_eq_true (p:=((R1.getD x 0:Nat):Int)=((R1.getD g 0:Nat):Int)) z;rw[key (hno (by omega))]at hq;dsimp only at hq;rw[if_neg hE]at hq;exact⟨by simp,by simp,hq⟩
    ·have z:=of_decide_eq_false (p:=((R1.getD x 0:Nat):Int)=((R1.getD g 0:Nat):Int)) (zJ.mpr z);exact hM5 _ ⟨λe=>z (by rw[e]),rfl⟩
   rintro _ ⟨hne,rfl⟩;have em:D.tup [.int (if(x:Int)<(g:Int)then(x:Int)else(g:Int)),.int (if(x:Int) > (g:Int)then(x:Int)else(g:Int))]=L2.pairD (min g x,max g x):=by rw[minI,maxI];all_goals rfl
   refine cutS (λρ=>ρ=[.vl (netD N),nv N.m,.vl (.tup (N.js.map L2.pairD)),.vl (.tup (natsD N.os)),.ow (natsD R1),.ow ((M1++[(min g x,max g x)]).map L2.pairD),.dk Kv,nv (thg N i),.ow (natsD (u::us)),s9,nv g,nv x]) (λM5 hM5=>⟨by simp,by rw[db];omega,?_⟩) ?_
   ·have h:=hM5 _ rfl;rw[wJ,wv,yu,<- em]at h;exact h
   rintro _ rfl;refine cutS (λρ=>ρ=[.vl (netD N),nv N.m,.vl (.tup (N.js.map L2.pairD)),.vl (.tup (natsD N.os)),.ow (natsD (R1++[R1.getD g 0 ^^^ R1.getD x 0])),.ow ((M1++[(min g x,max g x)]).map L2.pairD),.dk Kv,nv (thg N i),.ow (natsD (u::us)),s9,nv g,nv x]) (λM5 hM5=>bD rfl lt (bD rfl (by omega) ⟨by rw[aQ];omega,?_⟩)) ?_
   ·have h:=hM5 _ rfl;rw[bP,<- xorD]at h;exact h
   rintro _ rfl;refine hM4 _ ⟨hyes hne,nv x,?_⟩;rw[hnext];have eg:((((natsD (R1++[R1.getD g 0 ^^^ R1.getD x 0])).length:Nat):Int) - 1)=((R1.length:Nat):Int):=by rw[aQ,wb,wH];omega
   show[.vl (netD N),nv N.m,.vl (.tup (N.js.map L2.pairD)),.vl (.tup (natsD N.os)),.ow (natsD (R1++[R1.getD g 0 ^^^ R1.getD x 0])),.ow ((M1++[(min g x,max g x)]).map L2.pairD),.dk Kv,nv (thg N i),.ow (natsD (u::us)),s9,Sv.vl (D.int ((((natsD (R1++[R1.getD g 0 ^^^ R1.getD x 0])).length:Nat):Int) - 1)),nv x]=_;rw[eg]
  rintro _ ⟨hok,s11,rfl⟩;refine⟨by omega,hM2 _ ⟨hi,λi' h=>?_,nv (thg N i),.ow (natsD (u::us)),s9,nv (juS us u (stR N i) (stM N i)).1,s11,?_⟩⟩
  ·rcases wu i' i with z | z
   ·exact pre i' z
   ·rw[show i'=i by omega];exact eO.mpr ⟨by simp,hok⟩
  ·rw[<- hpk,eR,eM,eG,eJ];rfl
 rintro _ ⟨hf,s7,s8,s9,s10,s11,rfl⟩;rw[hf]at hq;dsimp only at hq;refine⟨⟨by omega,by omega⟩,by rw[cb];omega,fR (λk=>nD (stG N (N.m+N.js.length - 1 - k))) trivial (λk acc N2 hk hN2=>?_) ?_⟩
 ·have hk':k<N.m:=by omega
  exact mM rfl (n4 (i:=N.m+N.js.length - 1 - k) (by omega) (by omega) λj _ e=>by omega) hN2
 have e1:(wF ((N.m:Nat):Int).toNat).map (λk=>nD (stG N (N.m+N.js.length - 1 - k)))=natsD (tgAt N N.m).1.reverse:=by
  rw[show((N.m:Nat):Int).toNat=N.m by omega,t8];unfold natsD;rw[yw];rfl
 have e2:stM N (N.m+N.js.length)=(tgAt N N.m).2.2:=by rw[Nat.add_comm,iW]
 rw[e1,e2];refine⟨by simp,by simp,?_⟩;have e3:D.int ((natsD N.os).length:Nat)=nD N.os.length:=by rw[aQ]
 rw[e3];exact hq
end
theorem mT:∀js:List (Nat×Nat),depths (js.map L2.pairD)<=1
 | []=>by simp[depths]
 | p::js=>by
  have:=mT js;simp only[wv,depths,L2.pairD,D.depth];omega
theorem i9 (N:Net):(m4 N).depth<=60:=by
 unfold m4;split
 ·simp[refD,D.depth,depths]
 ·split
  ·split
   ·simp[refD,D.depth,depths]
   ·simp[refD,D.depth,depths]
  ·have:=mT (qo N).js;have h2:=fB (qo N).os;simp only[netD,D.depth,depths];omega
def cutT (N:Net)(t:Nat):Net:=⟨N.m,N.js,N.os.take t⟩
theorem qS {N:Net}{t:Nat}(ht:1<=t)(h:dm N):dm (cutT N t):=⟨h.m1,h.m12,h.jl,h.js,by unfold cutT;rw[xm];have:=h.o1;omega,by unfold cutT;rw[xm];have:=h.o24;omega,λo ho=>h.os o (B5 ho)⟩
theorem ve (xs:List Nat)(t:Nat):L2.cutD (natsD xs) none (some ((t:Nat):Int))=natsD (xs.take t):=by
 rw[kM];unfold natsD;rw[BC]
theorem uV:∀(n:Nat) (rows:List Nat),2<=rows.length->rows.getD 0 0≠rows.getD 1 0->okJs rows (im n (0,1))
 | 0,_,_,_=>trivial
 | n+1,rows,h,h2=>by
  refine⟨by show 0<1;omega,by show 1<_;omega,h2,uV n _ (by rw[gO];omega) ?_⟩;unfold bt;have e:∀(x i:Nat),i<2->(rows++[x]).getD i 0=rows.getD i 0:=λx i hi=>by rw[li,wU (by omega),<- li]
  rw[e _ _ (by omega),e _ _ (by omega)];exact h2
def bigN (os:List Nat):Net:=⟨2,im 132 (0,1),os⟩
theorem tM {os:List Nat}(h1:1<=os.length)(h2:os.length<=24)(h3:∀o∈os,o<134):dm (bigN os) :=
 ⟨by show 1<=2;omega,by show 2<=12;omega,by show(im 132 _).length<=132;rw[xH];omega,uV 132 _ (by rw[df];exact ms 2) (by show(aZ 2).getD 0 0≠(aZ 2).getD 1 0;decide),h1,h2,λo ho=>by show o<2+(im 132 _).length;rw[xH];exact h3 o ho⟩
theorem vK (os:List Nat):D.tup [.int 2,.tup (im (132:Int).toNat [D.tup [.int 0,.int 1]]).flatten,.tup (natsD os)]=netD (bigN os):=by
 have e:(im (132:Int).toNat [D.tup [.int 0,.int 1]]).flatten=(im 132 ((0:Nat),(1:Nat))).map L2.pairD:=by
  rw[show(132:Int).toNat=132 from rfl,As];generalize 132=n;induction n with
  | zero=>rfl
  | succ n ih=>rw[xD,ym,ih];rfl
 rw[e];rfl
section
variable {P:v3}{w:wz}{K:ac}{mg:Str->Option bi}{base:Heap}
theorem uI (dn:DefN K mg "law" sr ["_law_script"])(B:BI mg)(gC6:OkN P w K mg base 1 "_law_tape" ["_law_script"] (spA K tS))(gC9:OkN P w K mg base 2 "_law_net" ["_law_tape_here", "_law_most", "_law_joins_most"] (spA K l6))(gB1:OkN P w K mg base 1 "_law_draw" ["_law_tape_here", "_law_many"] (spA K qX))(gC7:OkN P w K mg base 1 "_law_used" ["_law_net_here"] (spA K tQ))(gC3:OkN P w K mg base 5 "_law_told" ["_law_net_here"] (spA K tR))(gC4:OkN P w K mg base 1 "_law_due" ["_law_net_here"] (spA K SDue)):OkN P w K mg base 6 "law" ["_law_script"] (spA K SLaw):=by
 refine dn.aok2 (k:=5) gu (λj=>j==0) [.un,.un,.un,.un] SLaw rfl (λf cdv A outer s H E hr=>have hu:=eK hr;⟨_,(aA (a_ (i:=1) gu.nd rfl (by first | exact Or.inl rfl | exact Or.inr rfl) (b_ gC6 (hr.mono (by decide)) (af (pv 0) ar)))
  (aA (fm xz rfl (cn rfl B.range_ (af aG ar)) (aS (i:=2) gu.nd rfl (by first | exact Or.inl rfl | exact Or.inr rfl))
  (aA (a_ (i:=3) gu.nd rfl (by first | exact Or.inl rfl | exact Or.inr rfl) (b_ gC9 (hr.mono (by decide)) (af (pv 1) (af aG (af (bA (aO K) (dv (af aG (af aG (af aG ar)))) (pv 2) (λ_ _=>rfl)) ar)))))
  (aA (a_ (i:=3) gu.nd rfl (by first | exact Or.inl rfl | exact Or.inr rfl) (cx (af (bA (aO K) (pv 3) aG (λ_ _=>rfl)) (af (bA (aO K) (pv 3) aG (λ_ _=>rfl)) (af (dJ (sg K) (bA (aO K) (pv 3) aG (λ_ _=>rfl)) fv (eA (bA (aO K) (dv (af aG (af aG (af aG (af aG ar))))) (b_ gB1 (hr.mono (by decide)) (af (pv 1) (af aG ar))) (λ_ _=>rfl)))) ar)))))
  (aA (eh (bw gk (b_ gB1 (hr.mono (by decide)) (af (pv 1) (af aG ar))) aG (bO _))
  (aV (a_ (i:=3) gu.nd rfl (by first | exact Or.inl rfl | exact Or.inr rfl) (b_ gC7 (hr.mono (by decide)) (af (pv 3) ar))))
  bY)
  (aV (eh (bw (o_ K hr.units) (b_ gC3 (hr.mono (by decide)) (af (pv 3) ar)) (b_ gC4 (hr.mono (by decide)) (af (pv 3) ar)) (bO _))
  (aV (cm dB))
  bY))))))
  (aA (fm xz rfl (gj K (dv (af (cx (af aG (af aG ar))) (af (cx (af aG (af aG (af aG ar)))) ar)))) (aS (i:=4) gu.nd rfl (by first | exact Or.inl rfl | exact Or.inr rfl))
  (aA (a_ (i:=3) gu.nd rfl (by first | exact Or.inl rfl | exact Or.inr rfl) (cx (af aG (af (bf (sM K) (cx (af (cx (af aG (af aG ar))) ar)) aG) (af (pv 4) ar)))))
  (aV (eh (bw (o_ K hr.units) (b_ gC3 (hr.mono (by decide)) (af (pv 3) ar)) (b_ gC4 (hr.mono (by decide)) (af (pv 3) ar)) (bO _))
  (aV (cm dB))
  bY))))
  (aV (cm dB))))),(aw (aT (aU (aa aj aq)) rfl)
  (aw (cA (pin:=(λ_=>false)) (cg (aa aE aq)) (aF rfl)
  (aw (aT (aU (aa aj (aa aE (aa (aD bh (cI (aa aE (aa aE (aa aE aq)))) aj) aq)))) rfl)
  (aw (aT (bR (aa (aD bh aj aE) (aa (aD bh aj aE) (aa (rV (aD bh aj aE) fX (cZ (aD bh (cI (aa aE (aa aE (aa aE (aa aE aq))))) (aU (aa aj (aa aE aq)))))) aq)))) rfl)
  (aw (ck (bc (aD dg (aU (aa aj (aa aE aq))) aE))
  (aT (aU (aa aj aq)) rfl)
  ba)
  (ck (bc (aD pd (aU (aa aj aq)) (aU (aa aj aq))))
  (bS cw)
  ba)))))
  (aw (cA (pin:=(λ_=>false)) (eV (cI (aa (bR (aa aE (aa aE aq))) (aa (bR (aa aE (aa aE (aa aE aq)))) aq)))) (aF rfl)
  (aw (aT (bR (aa aE (aa (aD qB (bR (aa (bR (aa aE (aa aE aq))) aq)) aE) (aa aj aq)))) rfl)
  (ck (bc (aD pd (aU (aa aj aq)) (aU (aa aj aq))))
  (bS cw)
  ba)))
  (bS cw))))⟩) ?_
 rintro ss q ⟨ns,hl,rfl,hq⟩;refine⟨rfl,rfl,rfl,ns,rfl,?_⟩;dsimp only[stS,pt,back,R.frz];refine cutS (λρ=>∃s1 s2 s3 s4,ρ=[.sc ns,s1,s2,s3,s4]) (λM hM=>⟨⟨by omega,by omega⟩,?_⟩) ?_
 ·refine mP (λk ρ=>∃n s2 s3 s4,n<=5000*k/\ρ=[.sc ns,.tp n,s2,s3,s4]) (λ_ _ _=>trivial) ?_ (λρ ⟨n,s2,s3,s4,_,e⟩=>hM ρ ⟨_,s2,s3,s4,e⟩) ⟨0,.un,.un,.un,by omega,rfl⟩;rintro k _ M1 hk ⟨n,s2,s3,s4,hn,rfl⟩ hM1;have hk3:k<3:=hk;rw[AM];refine cutS (λρ=>∃N n1,dm N/\n1<=5000*k+1000/\ρ=[.sc ns,.tp n1,nv k,.vl (netD N),s4]) (λM2 hM2=>?_) ?_
  ·have hat:atI [D.int 132,.int 20,.int 6] ((k:Nat):Int)=some (nD ([132,20,6].getD k 0)):=jY (xs:=[132,20,6]) hk3;refine⟨by simp,gJ rfl hat ⟨rfl,n,12,[132,20,6].getD k 0,rfl,by omega,by omega,by omega,?_,λN n1 h1 h2 h3 h4=>hM2 _ ⟨N,n1,h1,by omega,rfl⟩⟩⟩;rcases k with _ | _ | _ | k
   ·decide
   ·decide
   ·decide
   ·omega
  rintro _ ⟨N,n1,hN,hn1,rfl⟩;refine cutS (λρ=>∃N n1,dm N/\n1<=5000*k+1001/\ρ=[.sc ns,.tp n1,nv k,.vl (netD N),s4]) (λM2 hM2=>iu (i:=0) (d:=nD N.m) rfl rfl (iu (i:=1) (d:=.tup (N.js.map L2.pairD)) rfl rfl (iu (i:=2) (d:=.tup (natsD N.os)) rfl rfl ⟨by simp,rfl,n1,4,rfl,by omega,Dv.small (by decide) (by decide),λr hr=>?_⟩))) ?_
  ·have hr4:r<4:=by omega
   have hat:atI [D.int 14,.int 14,.int 14,.int 24] ((r:Nat):Int)=some (nD ([14,14,14,24].getD r 0)):=jY (xs:=[14,14,14,24]) hr4;have h1:1<=[14,14,14,24].getD r 0:=by
    rcases r with _ | _ | _ | _ | r
    ·decide
    ·decide
    ·decide
    ·decide
    ·omega
   refine gJ rfl hat ⟨by simp,hM2 _ ⟨cutT N ([14,14,14,24].getD r 0),n1+1,qS h1 hN,by omega,?_⟩⟩;dsimp only[stS,pt,back,R.frz];rw[ve];rfl
  clear hN hn1;clear N n1;rintro _ ⟨N,n1,hN,hn1,rfl⟩;refine cutS (λρ=>∃N n1,dm N/\n1<=5000*k+1002/\ρ=[.sc ns,.tp n1,nv k,.vl (netD N),s4]) (λM2 hM2=>⟨rfl,n1,3,rfl,by omega,Dv.small (by decide) (by decide),λr hr=>ite2 (λ_=>⟨rfl,N,rfl,hN,λN' hN'=>hM2 _ ⟨N',n1+1,hN',by omega,rfl⟩⟩) λ_=>hM2 _ ⟨N,n1+1,hN,by omega,rfl⟩⟩) ?_;clear hN hn1;clear N n1;rintro _ ⟨N,n1,hN,hn1,rfl⟩;exact⟨rfl,N,rfl,hN,rfl,N,rfl,hN,dX rfl rfl (i9 N) (b:=true) (e9 _) (hM1 _ ⟨n1,_,_,_,by omega,rfl⟩)⟩
 rintro _ ⟨s1,s2,s3,s4,rfl⟩;refine cutS (λρ=>∃s1 s2 s3 s4,ρ=[.sc ns,s1,s2,s3,s4]) (λM hM=>⟨by simp,by simp,by simp,?_⟩) ?_
 ·refine fQ (λxs:List Nat=>.tup (natsD xs)) (xs:=[[133,132],[133,132,131]]) (λk ρ=>∃s1 s2 s3 s4,ρ=[.sc ns,s1,s2,s3,s4]) (λ_ _ _=>trivial) ?_ (λρ h=>hM ρ h) ⟨_,_,_,_,rfl⟩;rintro k xs _ M1 hx ⟨s1,s2,s3,s4,rfl⟩ hM1;have hx:=wr hx;have hxs:1<=xs.length/\xs.length<=24/\∀o∈xs,o<134:=by
   rcases we.mp hx with rfl | h
   ·decide
   ·rcases we.mp h with rfl | h
    ·decide
    ·cases h
  have hN:=tM hxs.1 hxs.2.1 hxs.2.2;refine gaN1 ?_;show aSeq _ _ _ [.sc ns,s1,s2,s3,.vl (.tup (natsD xs))];refine cutS (λρ=>ρ=[.sc ns,s1,s2,.vl (netD (bigN xs)),.vl (.tup (natsD xs))]) (λM2 hM2=>⟨by simp,by simp,⟨by decide,by decide,by simp,by simp⟩,by simp,?_⟩) ?_
  ·have h:=hM2 _ rfl;rw[<- vK]at h;exact h
  rintro _ rfl;exact⟨rfl,_,rfl,hN,rfl,_,rfl,hN,dX rfl rfl (i9 _) (b:=true) (e9 _) (hM1 _ ⟨_,_,_,_,rfl⟩)⟩
 rintro _ ⟨s1,s2,s3,s4,rfl⟩;exact hq _
abbrev DS (K:ac)(mg:Str->Option bi):Prop:=DefN K mg "joined" jA ["one", "other"]/\DefN K mg "own_rows" eX ["many"]/\DefN K mg "joining" g7 ["one", "other"]/\DefN K mg "turned_net" bL ["net"]/\DefN K mg "out_uses" eY ["net"]/\DefN K mg "joined_uses" cC ["thing", "uses", "rows", "made"]/\DefN K mg "_law_tape" gg ["_law_script"]/\DefN K mg "_law_draw" gh ["_law_tape_here", "_law_many"]/\DefN K mg "_law_net" d_ ["_law_tape_here", "_law_most", "_law_joins_most"]/\DefN K mg "_law_used" eZ ["_law_net_here"]/\DefN K mg "_law_told" gb ["_law_net_here"]/\DefN K mg "_law_due" dz ["_law_net_here"]/\DefN K mg "law" sr ["_law_script"]/\(∃u,mg "MOST_GIVENS" = some u/\RelV (.int 12) u)/\(∃u,mg "MOST_JOINS" = some u/\RelV (.int 132) u)
theorem fin (ds:DS K mg)(xf:XF K mg)(B:BI mg):OkN P w K mg base 6 "law" ["_law_script"] (sf K):=by
 obtain⟨a0,a1,a2,a3,a4,a5,a6,a7,a8,a9,b0,b1,b2,b3,b4⟩:=ds;obtain⟨v6,gA1,v4,gA0,gB0,gA6,gA2,gA7,gA4,gA8,gA5,gA3,f_Loose,f_Nought,m_Loose,m_JoinError,m_Nought,m_TooMany,m_Bare,m_Leans,m_NoAnswer,m_NoFit,m_NoName,m_NoRow,m_NoText,m_NoWidth,n_ValueError,in_Loose,bs_JoinError,in_Nought,e_TooMany,ea_Loose,s_TooMany_Loose,ea_Nought,s_TooMany_Nought,ea_JoinError,s_TooMany_JoinError,s_Loose_Loose,s_Nought_Loose,s_Nought_Nought,b5,b6,i_TooMany,ka_law_told_0_TooMany,k_TooMany_TooMany,k_TooMany_Loose,k_TooMany_Nought,k_TooMany_ValueError,i_Loose,ka_law_told_0_Loose,k_Loose_TooMany,k_Loose_Loose,k_Loose_Nought,k_Loose_ValueError,i_Nought,ka_law_told_0_Nought,k_Nought_TooMany,k_Nought_Loose,k_Nought_Nought,k_Nought_ValueError⟩:=xf
 exact
 have b7:=lH a6 B
 have b8:=lI a7 B
 have b9:=pf a0 B
 have c0:=lD a1 B
 have c1:=nB a2 B
 have c2:=lE a4 B
 have c3:=iN a5 B c1 b9
 have c4:=jL a3 B c2 c0 c3 b3 b4
 have c5:=eC m_Loose m_JoinError in_Loose bs_JoinError a5 B c1 b9
 have c6:=d8 m_Nought m_JoinError in_Nought bs_JoinError a5 B c1 b9
 have c7:=d7 m_TooMany e_TooMany a3 B b3 b4
 have c8:=fg m_Loose m_JoinError in_Loose bs_JoinError a3 B c2 c0 c3 c5 b3 b4
 have c9:=eB m_Nought m_JoinError in_Nought bs_JoinError a3 B c2 c0 c3 c6 b3 b4
 have d0:=nz a8 B b8
 have d1:=lG m_TooMany m_Loose m_Nought m_JoinError ea_Loose s_TooMany_Loose ea_Nought s_TooMany_Nought ea_JoinError s_TooMany_JoinError s_Loose_Loose s_Nought_Loose s_Nought_Nought m_Bare m_Leans m_NoAnswer m_NoFit m_NoName m_NoRow m_NoText m_NoWidth n_ValueError b5 b6 i_TooMany ka_law_told_0_TooMany k_TooMany_TooMany k_TooMany_Loose k_TooMany_Nought k_TooMany_ValueError i_Loose ka_law_told_0_Loose k_Loose_TooMany k_Loose_Loose k_Loose_Nought k_Loose_ValueError i_Nought ka_law_told_0_Nought k_Nought_TooMany k_Nought_Loose k_Nought_Nought k_Nought_ValueError b0 B c4 c7 c8 c9
 have d2:=lF a9 B
 have d3:=nA b1 B
 have d4:=uI b2 B b7 d0 b8 d2 d1 d3
 uP d4
end
end K44
namespace PySem.W.Fast
def tw3249187965737360528:=()
def tw12853909071653157874:=()
def tw13202417390468036925:=()
def tw11448281835876069686:=()
def tw1651236866949765182:=()
def tw14856416946771653749:=()
def tw522178866661219001:=()
def tw886901942924616252:=()
def tw10855373906200549334:=()
def tw3551966385188725308:=()
def tw5701668719544394522:=()
def tw10995788586053215888:=()
def tw11228072756967452186:=()
def tw17637491157684065047:=()
def tw3396905535952758368:=()
def tw5898765222178922726:=()
def tw3407738849954318232:=()
def tw1442005064565235274:=()
def tw6848492054754084669:=()
def tw2375834713351657786:=()
def tw2145502485331753255:=()
def tw15592974708179874419:=()
def tw13535442682675310489:=()
def tw4921709045208325631:=()
def tw9582341598779947167:=()
def tw720913449127576838:=()
def tw6400554922486712004:=()
def tw409670386157880095:=()
def tw13187520068660194674:=()
def tw18160562114489690619:=()
def tw675983184858931480:=()
def tw3036604089932318154:=()
def tw1974862264403909583:=()
def tw8679996518377008677:=()
def tw18175465438285097521:=()
def tw4968741631323722852:=()
def tw16468556374538796859:=()
def tw16189691371185764588:=()
def tw7554820748290006799:=()
def tw3409774482357115718:=()
def tw11938670212855275440:=()
def tw15123185916591902134:=()
def tw12766722081706656489:=()
def tw17145330068326705956:=()
def tw7231771907275893437:=()
def tw14059370360698012701:=()
def tw3417609266510417792:=()
def tw13025207548344527866:=()
def tw13876105425934008752:=()
def tw10436508921962578596:=()
def tw14081215467121877041:=()
def tw11476814409720523000:=()
def tw13606294807212027530:=()
def tw12433568970033864350:=()
def tw9961268490199395402:=()
def tw4012676678503201729:=()
def tw7097295926800571045:=()
def tw5008402689073055323:=()
def tw4241640395558436147:=()
def tw10603924394140607812:=()
def tw18366523973028834811:=()
def tw16747031226561910018:=()
def tw13920112100152119472:=()
def tw843249292658293598:=()
def tw14355819436387614752:=()
def tw9697782668035224123:=()
def tw6420604010467584266:=()
def tw10012259365207749828:=()
def tw17732823802101623921:=()
def tw3867800763775130597:=()
def tw10480286542467050543:=()
def tw6339053596545434391:=()
def tw3350913705401043221:=()
def tw15748662286169049734:=()
def tw9272701230477362123:=()
def tw9423117275663904169:=()
def tw3908630929360869488:=()
def tw1942685957784674975:=()
def tw4686709891609421924:=()
def tw6246007732569525460:=()
def tw2853515447738490985:=()
def tw17884283486361895571:=()
def tw9795530058498371373:=()
def tw2978401218226512038:=()
def tw4775666935957712014:=()
def tw77565725192982881:=()
def tw11298457118918077162:=()
def tw9231028758977158110:=()
def tw8814994979951858103:=()
def tw14593231875376956901:=()
def tw820505771521100660:=()
def tw6978576264917548682:=()
def tw16648809396602831471:=()
def tw17383116722316245383:=()
def tw9812040357562305894:=()
def tw8838325016940245337:=()
def tw4545872943896603286:=()
def tw11551451028371961719:=()
def tw16428858312576544972:=()
def tw5279288698644530164:=()
def tw10930844572958629659:=()
def tw11761441436157672060:=()
def tw13960993958504059174:=()
def tw11273813403224021904:=()
def tw9288220941886693822:=()
def tw1757824699679381845:=()
def tw13704189832930110013:=()
def tw8103511353871770751:=()
def tw10351863888608233545:=()
def tw15319974885495750780:=()
def tw11287622282516588207:=()
def tw2037101362961051420:=()
def tw8301767365075244337:=()
def tw10375939204061123562:=()
def tw11797985607454847743:=()
def tw16191439458541866361:=()
def tw821653669858038828:=()
def tw16064714284154613301:=()
def tw16261839794981510280:=()
def tw5971858511490721222:=()
def tw6222996002312020923:=()
def tw4532731281323044304:=()
def tw5968780760086427635:=()
def tw13175868744989270125:=()
def tw13004082757180897589:=()
def tw13052332910958578486:=()
def tw8908190883024350066:=()
def tw9016267582616251583:=()
def tw9479498238925784970:=()
def tw5453019632263533972:=()
def tw12718577024815171714:=()
def tw4519229863235323168:=()
def tw7809633751199101665:=()
def tw17196318689792964275:=()
def tw12994690404495688045:=()
def tw1244752421444203950:=()
def tw15726624480251976305:=()
def tw13198568142230455646:=()
def tw11947422857971247866:=()
def tw4545451126743085084:=()
def tw15958877171729173967:=()
def tw891863400974554857:=()
def tw8090598485009354201:=()
def tw7449341801514642634:=()
def tw1039884942076831618:=()
def tw12720314507967200877:=()
def tw8062290508501592828:=()
def tw13238745835042062291:=()
def tw4055006201511475400:=()
def tw18285475185656757644:=()
def tw9440949065121294915:=()
def tw2087925439035205270:=()
def tw1376779627518649004:=()
def tw3697675052602739727:=()
def tw2590675156282836572:=()
def tw6520197521728313354:=()
def tw1119427996442249428:=()
def tw5052121975020096913:=()
def tw14151632438397785228:=()
def tw18309329644517382589:=()
def tw3897622346053864126:=()
def tw13319727110180151908:=()
def tw1083707014378069447:=()
def tw8994147442873854454:=()
def tw10483905676212651817:=()
def tw15010740995215936816:=()
def tw14351300804612375256:=()
def tw11657542848721788736:=()
def tw9901792160156789331:=()
def tw3513371231664250308:=()
def tw14180820285508722953:=()
def tw17048345680204920274:=()
def tw9893452339181180198:=()
def tw1842176737064471279:=()
def tw11183103237654183018:=()
def tw5794847916918088914:=()
def tw3710082924116431036:=()
def tw14483717535121147610:=()
def tw4356118454747994656:=()
def tw5701615775413845968:=()
def tw10432182815036781661:=()
def tw901444370759792699:=()
def tw16386161228062810061:=()
def tw17520225086839677806:=()
def tw12787455795971976501:=()
def tw2731317297123816586:=()
def tw12657885984203989936:=()
def tw12919106664642547606:=()
def tw1938474008854726889:=()
def tw13285051662137328367:=()
def tw14435981772777186540:=()
def tw1710211144551623266:=()
def tw11042722631827382710:=()
def tw10330434025892577090:=()
def tw16860811861696132413:=()
def tw1171017875931431151:=()
def tw10787398836562600714:=()
def tw540626447106121485:=()
def tw2625431226928994159:=()
def tw11167002574320608241:=()
def tw17611597226806294268:=()
def tw8324299329791217534:=()
def tw1215731133416921399:=()
def tw15297436768142456649:=()
def tw4935043907657932759:=()
def tw5617493722927066169:=()
def tw10819467440871646469:=()
def tw172861423340872579:=()
def tw4724793837375593988:=()
def tw12648418323849858857:=()
def tw4449976068560399858:=()
def tw13717232258548251339:=()
def tw12481545597581314938:=()
def tw4277118605320424035:=()
def tw16551740420788879664:=()
def tw17617308960452616245:=()
def tw5696104299579788859:=()
def tw1741477132484116225:=()
def tw10371812240864484828:=()
def tw2915212885115109766:=()
def tw8844408134366372908:=()
def tw9686168590214529995:=()
def tw15548613132301090980:=()
def tw13949486576760777484:=()
def tw15118889012620580229:=()
def tw9324847087989712645:=()
def tw3057519671374365833:=()
def tw12308876390948465497:=()
def tw14744204491592408806:=()
def tw14417925528733744271:=()
def tw14175539767163518248:=()
def tw7370096100544380733:=()
def tw9984135461098252310:=()
def tw16143170918654115334:=()
def tw3013223280943997472:=()
def tw12655972418487145444:=()
def tw10018501937166085668:=()
def tw8641132134938663305:=()
def tw5940765300065157858:=()
def tw7673264580398204053:=()
def tw10595215831353191410:=()
def tw3983695105205044068:=()
def tw5449194830635047275:=()
def tw13235801005978971293:=()
def tw1114035174471158627:=()
def tw8646146134946290148:=()
def tw12028031348526402562:=()
def tw17695966226693291741:=()
def tw8251543574909748051:=()
def tw10319823681865441355:=()
def tw8483511946913615:=()
def tw286275104316450811:=()
def tw14152527772847061549:=()
def tw10147619387970730157:=()
def tw17570015565695634212:=()
def tw3514243664532305348:=()
def tw13288898828768789198:=()
def tw3221847122474996505:=()
def tw5605467738148721751:=()
def tw3377065173514328206:=()
def tw15984023124092449121:=()
def tw17710388389356292958:=()
def tw5418185584889331348:=()
def tw9566226699274625310:=()
def tw3591067371546696333:=()
def tw14243181115247686507:=()
def tw14491172929864778282:=()
def tw11074714219559713544:=()
def tw1604369114059415156:=()
def tw18025986323755520293:=()
def tw564322241645515481:=()
def tw5558396563426273941:=()
def tw1780667572960335265:=()
def tw7729002851417716908:=()
def tw8786356348951747642:=()
def tw13123931222987774739:=()
def tw10198927538603184946:=()
def tw7068321947218251888:=()
def tw11805008037004884831:=()
def tw15505706762618231525:=()
def tw3602119377375098972:=()
def tw13484716488056883333:=()
def tw2487637014703434661:=()
def tw2852791917611488204:=()
def tw15809814775859293104:=()
def tw8151526855104700453:=()
def tw15489468072753817321:=()
def tw14805913187327554625:=()
def tw7412114234184193527:=()
def tw3712453146869338509:=()
def tw7705692406116166873:=()
def tw15458653024544090275:=()
def tw14798231783074406093:=()
def tw17430666175284781138:=()
def tw15301016693088656654:=()
def tw9266296475173889722:=()
end PySem.W.Fast
open PySem PySem.W PyProof.Rows
set_option maxRecDepth 100000 in
set_option maxHeartbeats 0 in
theorem PySem.Challenge.cw_fewjoins_k44_nets_turned_about_holds : PySem.Challenge.rw_fewjoins_k44_nets_turned_about.Holds := by
 w_on;o_law;k_head;(case hw=>w_witness2)
 k_fill
 refine L2.qj (l:=PySem.Challenge.rw_fewjoins_k44_nets_turned_about) (n:=63) (k:=6) (x := "_law_script") (CX:=L2.CX0) (sp:=L2.sf) rfl (by decide) rfl ⟨rfl,by decide,by decide,rfl⟩ (λw h Y=>PySem.W.kIn_of Y) ?F ?S ?C;case S=>exact λK H a ns hl hO hS=>⟨a,ns,rfl,hS,hl,λ_=>rfl⟩
 case C=>exact λH s e s' h=>h
 case F =>
  intro w mg fa h KX G hmg;have ds:K44.DS (L2.KOf KX) mg:=by
   dsimp only[L2.KOf];refine' ⟨?_,?_,?_,?_,?_,?_,?_,?_,?_,?_,?_,?_,?_,?_,?_⟩
   iterate 13
    refine' L2.vd KX G ?a ?l ?c ?k ?u
    (case a=>k_is);(case l=>k_is);(case c=>k_is);(case k=>k_is)
    (case u=>first | exact(λ_ _ _ _ _ _ us hl=>match us,hl with | [_],_=>rfl) | exact(λ_ _ _ _ _ _ us hl=>match us,hl with | [_,_],_=>rfl) | exact(λ_ _ _ _ _ _ us hl=>match us,hl with | [_,_,_],_=>rfl) | exact(λ_ _ _ _ _ _ us hl=>match us,hl with | [_,_,_,_],_=>rfl))
   iterate 2
    refine' ⟨_,xk KX G ?a,?b⟩
    (case a=>k_is);(case b=>exact⟨_,rfl⟩)
  have B:L2.BI mg:=by
   refine' L2.vL KX G ?_ ?_ ?_ ?_ ?_ ?_ ?_ ?_ ?_ ?_ ?_ ?_ ?_ ?_ ?_ ?_ ?_ ?_ ?_ ?_ ?_;all_goals k_is
  have xf:K44.XF (L2.KOf KX) mg:=by
   dsimp only[L2.KOf];refine' K44.XF.mk KX G ?f0 ?f1 ?f2 ?f3 ?f4 ?f5 ?f6 ?f7 ?f8 ?f9 ?f10 ?f11 ?f12 ?f13_0 ?f13_1 ?f13_2 ?f13_3 ?f13_4 ?f13_5 ?f13_6 ?f13_7 ?f14_0 ?f14_1 ?f14_2 ?f15_0 ?f15_1 ?f15_2 ?f15_3 ?f15_4 ?f15_5 ?f15_6 ?f15_7 ?f16 ?f17 ?f18 ?f19 ?f20 ?f21 ?f22 ?f23 ?f24 ?f25 ?f26_0 ?f26_1 ?f26_2 ?f26_3 ?f26_4 ?f26_5 ?f26_6 ?f26_7 ?f26_8 ?f26_9 ?f27_0 ?f27_1 ?f27_2 ?f27_3 ?f27_4 ?f27_5 ?f27_6 ?f27_7 ?f27_8 ?f27_9 ?f28_0 ?f28_1 ?f28_2 ?f28_3 ?f28_4 ?f28_5 ?f28_6 ?f28_7 ?f29 ?f30 ?f31 ?f32 ?f33 ?f34_0 ?f34_1 ?f34_2 ?f34_3 ?f34_4 ?f34_5 ?f34_6 ?f34_7 ?f35 ?f36 ?f37 ?f38 ?f39 ?f40_0 ?f40_1 ?f40_2 ?f40_3 ?f40_4 ?f40_5 ?f40_6 ?f40_7 ?f41 ?f42 ?f43 ?f44 ?f45
   (case f0=>k_is);(case f1=>k_is);(case f2=>k_is);(case f3=>k_is);(case f4=>k_is);(case f5=>k_is);(case f6=>k_is);(case f7=>k_is);(case f8=>k_is);(case f9=>k_is);(case f10=>k_is);(case f11=>k_is);(case f12=>k_is);(case f13_0=>k_is);(case f13_1=>k_is);(case f13_2=>k_is);(case f13_3=>k_is);(case f13_4=>kernel_rfl);(case f13_5=>k_is);(case f13_6=>k_is);(case f13_7=>k_is);(case f14_0=>k_is);(case f14_1=>k_is);(case f14_2=>k_is);(case f15_0=>k_is);(case f15_1=>k_is);(case f15_2=>k_is);(case f15_3=>k_is);(case f15_4=>kernel_rfl);(case f15_5=>k_is);(case f15_6=>k_is);(case f15_7=>k_is);(case f16=>k_exc);(case f17=>kernel_rfl);(case f18=>k_is);(case f19=>kernel_rfl);(case f20=>k_is);(case f21=>k_exc);(case f22=>k_is);(case f23=>k_is);(case f24=>k_is);(case f25=>k_is);(case f26_0=>k_is);(case f26_1=>k_is);(case f26_2=>k_is);(case f26_3=>k_is);(case f26_4=>k_is);(case f26_5=>k_is);(case f26_6=>k_is);(case f26_7=>k_is);(case f26_8=>k_is);(case f26_9=>k_is);(case f27_0=>k_is);(case f27_1=>k_is);(case f27_2=>k_is);(case f27_3=>k_is);(case f27_4=>k_is);(case f27_5=>k_is);(case f27_6=>k_is);(case f27_7=>k_is);(case f27_8=>k_is);(case f27_9=>k_is);(case f28_0=>k_is);(case f28_1=>k_is);(case f28_2=>k_is);(case f28_3=>k_is);(case f28_4=>k_is);(case f28_5=>k_is);(case f28_6=>k_is);(case f28_7=>k_is);(case f29=>kit_is);(case f30=>kit_is);(case f31=>kit_is);(case f32=>kit_is);(case f33=>kit_is);(case f34_0=>k_is);(case f34_1=>k_is);(case f34_2=>k_is);(case f34_3=>k_is);(case f34_4=>k_is);(case f34_5=>k_is);(case f34_6=>k_is);(case f34_7=>k_is);(case f35=>kit_is);(case f36=>kit_is);(case f37=>kit_is);(case f38=>kit_is);(case f39=>kit_is);(case f40_0=>k_is);(case f40_1=>k_is);(case f40_2=>k_is);(case f40_3=>k_is);(case f40_4=>k_is);(case f40_5=>k_is);(case f40_6=>k_is);(case f40_7=>k_is);(case f41=>kit_is);(case f42=>kit_is);(case f43=>kit_is);(case f44=>kit_is);(case f45=>kit_is)
  have gD4:=ds.2.2.2.2.2.2.2.2.2.2.2.2.1;refine L2.sY gD4 hmg λbase=>?_;exact K44.fin ds xf B
#print axioms PySem.Challenge.cw_fewjoins_k44_nets_turned_about_holds

