import PyProof.Rows.All
import Wide.All
import OpenK.AllK
import Wide.FinOn
import Lean
import PyProof.EqAt
import PyProof.EqKinds
import PyProof.TupleCall
import PyProof.NeKinds
import PyProof.ListMulAny
import PyProof.Rows.CallKwBuiltin
import PyProof.MinMaxWalk
import PyProof.SeqI3
import PyProof.Rows.TupAdd
import PyProof.MeetsDict
import PyProof.DictList
import PyProof.ZipIter
import PyProof.Rows.ZipGen
import PyProof.ListRange
import PyProof.TupleOfStr
import PyProof.Rows.FStr
import PyProof.Rows.StrJoin2
import PyProof.Rows.Range3
import PyProof.EnumMake
import PyProof.EnumFor
import PyProof.EnumStmt
import KE.KUnpackStar
import KE.KDictList
import PyProof.Rows.SortWalk
import KE.RegKIsAll
import PyProof.NsDelKeeps
import PyProof.Rows.CountFlat
import KE.KRevIter
import PyProof.Draws
import PyProof.ExcInit
import PyProof.InstStoreFacts
import PyProof.DictCompW
import PyProof.DictIter
import PyProof.DictWalks
import PyProof.Rows.SetFrom
import PyProof.SetRoads
import KE.KDictOf
import PyProof.Rows.SortShellK
import PyProof.ReprRoads
import PyProof.CallFns
import PyProof.DictUpdate
import KE.KDictLaws
import PySem.Challenge.RW_fewjoins_k46_whole_turned_behind_one_ano
open Array renaming getElem?_eq_some_iff→yV,length_toList→B3,append_assoc→DT,toList→E4
open Bool renaming and_eq_true→y4,false_ne_true→zS,false_eq_true→zT,not_eq_true'→Ai,or_true→Bd,and_false→BU,or_eq_true→EJ,xor_false→ER,false_and→ES,or_false→E1,false_or→E2,and_true→E3
open Classical renaming propDecidable→CP
open Decidable renaming not_not→B2
open False renaming elim→yD
open Int renaming toNat_natCast→zM,natCast_add→A8,eq_ofNat_of_zero_le→BE,zero_add→Ct,le_of_lt→Cu,ediv_nonneg→C2,toNat_of_nonneg→D4,natCast_nonneg→Ek,emod_lt_of_pos→El,emod_nonneg→EO,ne_of_gt→Fk,mul_one→FC
open List renaming getD_eq_getElem?_getD→bi,getElem?_eq_getElem→bv,length_map→db,getElem?_eq_some_iff→kt,size_toArray→li,getElem?_map→lm,length_append→ms,replicate→pc,mem_cons→wn,mem_append_right→wr,length_cons→wS,getElem?_set_ne→xz,range→ym,map_append→yo,mem_of_getElem?→yp,length_singleton→yr,getElem?_append_left→yx,map_cons→yy,exists_cons_of_ne_nil→yE,getElem?_range→yH,getElem?_append_right→yK,mem_cons_of_mem→yN,getElem?_eq_none→yS,mem_cons_self→yW,not_mem_nil→yY,length_take→yZ,getElem?_set_self→y6,mem_singleton→y7,foldl_cons→y_,mem_range→za,getElem_mem→zc,find?_cons_of_neg→ze,mem_filter→zi,map_congr_left→zj,map_map→zm,foldl_append→zn,find?_cons→zp,drop_eq_getElem_cons→zr,length_reverse→zt,lookup_cons→zz,drop_eq_nil_of_le→zD,range_succ→zF,getElem?_drop→zI,mem_append→zL,take_of_length_le→zP,take_append_drop→zU,length_set→zY,append_nil→zZ,mem_append_left→z5,length_range→z6,getElem?_cons_zero→z_,filter_append→Aa,length_replicate→Ae,getElem?_reverse→Af,take_add_one→Ah,mem_map→Am,getElem?_replicate→Aw,find?_cons_of_pos→AC,filter_cons→AM,length_nil→AW,filter_nil→AX,getElem_of_mem→A6,filterMap_cons→A7,map_nil→Ba,idxOf_lt_length_of_mem→Bb,map→Bi,getElem_range→Bj,contains_cons→Bk,reverse_cons→Br,ext_getElem?→Bs,set_eq_of_length_le→Bu,any_cons→Bv,take_length→BA,all_eq_true→BB,nodup_cons→BM,drop_left'→BN,lookup_append→Cd,find?_eq_none→Ce,append_assoc→Cq,length_drop→Cz,find?_eq_some_iff_getElem→CA,of_mem_zip→CN,foldl_nil→C4,length_filter_le→Dz,lookup→DC,length→DD,getElem_toArray→DE,getElem?_of_mem→DF,drop_eq_nil_iff→DG,mem_filterMap→D3,any_eq_true→Ex,drop_zero→EM,map_take→EZ,map_set→Fc,any_nil→Fd,any_map→Fe
open List.Nodup renaming idxOf_getElem→zG,count→Dj
open List.Pairwise renaming filter→Fj
open List.cons renaming injEq→DH
open Nat renaming le_refl→lw,lt_of_lt_of_le→nw,lt_or_ge→pp,ne_of_lt→yn,le_trans→yt,zero_le→yz,mod_two_eq_zero_or_one→yM,ne_of_gt→yQ,le_of_lt→yR,lt_irrefl→zu,zero_add→zw,min_eq_left→zx,min_eq_right→zJ,testBit_xor→Ab,zero_testBit→Ap,testBit_zero→Aq,lt_trans→Ar,le_total→AF,lt_succ_self→AQ,eq_of_testBit_eq→AV,not_lt_zero→A5,add_zero→Bh,xor_assoc→Bz,max_eq_right→BC,add_sub_cancel_left→BD,not_lt→BL,max_eq_left→BP,testBit_two_pow→Ca,sub_zero→Cs,min_le_right→CL,testBit_and→C0,add_assoc→Dg,zero_mul→Dw,xor_comm→Dx,le_of_eq→Dy,one_mul→DP,lt_of_le_of_lt→Eg,add_sub_cancel→Eh,one_shiftLeft→Ev,lt_succ_of_lt→Ew,zero_lt_succ→EG,succ_ne_self→EH,shiftLeft_eq→EI,zero_xor→Fi,log2_lt→Fw,le_succ→Fx,add_mul→Fy
open Ne renaming symm→zd
open Option renaming map_eq_some_iff→wp,toList_some→B7,isSome_some→DB,isSome_map→DO,getD_none→D2,map_some→Ef
open Option.some renaming injEq→zy,inj→zC
open Prod renaming fst→yX,snd→zk
open Prod.mk renaming injEq→BS
open PyProof.Rows renaming callWith_type1→yU,envOfC→A0,AllBare→BG,subscriptTail→Cw,Subscript_→Ds,Call_→D6,subscriptTail_builtinR→D9,IntsAre→Ej,callWith_builtin1→Fv
open PyProof.Rows.IsTup renaming new→Fz
open PySem renaming Value→bd,wpAny_bind→bn,Shared→dL,wpAny→o0,model→sK,Program→wl,wpAny_pure→wv,sizeLine→ww,mainGlobals→yk,starEach→yu,World→yF,wpAny_field→yG,Around→yI,wpAny_mono→yJ,mem_of_lookup→yL,rawInt→yO,cellsFrom→zh,wpAny_setField→zq,wpAny_loadPart_at→zv,Scope→zA,bootBuiltins→zH,wpAny_newObj_type→zO,NameKind→zX,noteFrame→z7,sizeLine_eq→z8,foldedSetIterable→z9,wpAny_of_eq→Ac,excClassObj→Ad,binaryOp→Aj,backTo→Al,sysModules→At,wpAny_standAt→Ax,FuncData→Ay,wpAny_execs_nil→AB,wpAny_callSpecial?_slot→AH,swapsWith→AJ,setFlight→AK,wpAny_pyIter_enum→AN,wpAny_call_entry→AY,pushCells→AZ,compareOp→A2,assignEach→A3,codeAny→A_,ExceptHandler→Bc,sliceBounds→Be,cLine→Bf,wpAny_passesOwn→Bl,letOwnedTupleGo→Bm,wpAny_isSubtype_exc→Bp,wpAny_pyIter_tuple→Bw,wpAny_Call_Name_kw→Bx,leaving→BF,wpAny_comprehension_free→BH,assign→BJ,wpAny_execs_cons→BR,wpAny_pyIter_rangeiter→BV,codeAny_mono→BW,OwnTail→B0,wpAny_updateSeq→B4,wpAny_specialOf→B5,pushCells_keeps→B6,subscripted→Ci,pyNext→Cj,newFunctionEnv→Ck,list_append→Cm,getItem→Co,callerA→Cp,wpAny_holding→Cv,behindInMarks→Cy,wpAny_setField_rec→CD,wpAny_entryPlaceOf→CF,wpAny_call→CG,typeLookup→CH,tupleKind_room_in1→CI,closureFor→CJ,cameBackBy→CK,wpAny_truthy_bool→CQ,wpAny_frameOf_fun→CS,wpAny_Assign_Name→CT,valueAt→CU,slot_list_getitem→CV,concat_meets→CW,Model→C1,tupleKind→C6,noFill_tuple_add→C7,checkBuiltinCall→C8,IsEnum→C_,IsRangeIter→Dd,codeAny_builtin→Df,relabel→Di,BindsTo→Dl,wpAny_seqItems→Dm,wpAny_letOwnedTupleGo_enum→Dn,setField→Do,evalEach→Dp,bindArgs→Dq,atKey→Dr,Paired→Du,GenState→DA,wpAny_getItem_list_slice→DJ,seq_tuple_add→DK,plainId_quiet→DL,evalPart_none→DM,call→DN,wpAny_pyNext_enum_itemD→DU,updateSeq→DV,newFields→DW,field→DX,bindL→DY,bindC→DZ,wpAny_pyNext_range_end→D7,wpAny_pyNext_enum_endD→D8,isTrue→D_,entryPlaceOf→Ea,codeAny_compStart_list→Eb,Result→Ec,IsRange→Ei,ExcBaseFacts→Ep,wpAny_isTrue_Compare1→Er,exec_Assign_Name_used→Es,builtinLookup_eq_fast→Et,wpAny_pyIter_revIter→Ez,keywordEach→EA,compPost→EB,compEnvC→EC,codeAny_call_builtin→ED,again→EF,codeAny_forLoop_any→EK,wpAny_rule→ET,wpAny_Name→EU,cellOf→EV,call_meets→EW,builtinsNs→EX,wpAny_assign_Name→E5,spliced→E6,operate→E7,notedBy→E8,newList→E9,Keyword→Ff,Draws→Fg,wpAny_Try_except→Fh,wpAny_tests_nil→Fn,typeLookup_type→Fo,theTreesLotGoes→Fp,codeAny_of_tree→Fq
open PySem.Around renaming under_plainId→BQ,under→Cg
open PySem.Builtin renaming bitXor→A9,bitAnd→BO,bitOr→Ey
open PySem.Builtin.List renaming listExtendWith→AL,listSameRef→Cr,listItems→CC,listUpdate→FE,listTouch→FF,listLengthHint→FG
open PySem.Builtin.Range renaming rangeFitsLong→yw,rangeSize→zW,rangeFields→Cf
open PySem.Builtin.SmallTypes renaming ownedTupleIsFree→Bo
open PySem.Calls renaming spliced_cons→Au,spliced_nil→Az,evalArgs_plain→AR,Name_function_global→C3,callWith_builtin→Dh
open PySem.Code renaming isFrame→Dk,quiet_builtin→D5,frames→Fm
open PySem.EntryCells renaming newEntry→z4
open PySem.F renaming type_list_append→wE,slot_list_append→wP,plainAttrs_list→wT,slot_tuple_iterator_next→As,slot_enumerate_next→AU,excBase_ValueError→A4,plain_extend_loop→Bg,args_tuple_add_2→Bn,entry_tuple_add→Bq,slot_tuple_add→By,slot_range_reversed→B1,args_list_append_2→Cb,entry_list_append→Cn,entry_extend_loop→CM,store_ValueError→CZ,args_tuple_iterator_next_1→Db,entry_tuple_iterator_next→De,args_enumerate_next_1→DI,entry_enumerate_next→DR,plain_reversed_new→Eo
open PySem.Heap renaming get?_push_of_some→im,lt_size→lc,get?_update_other→sB,get?_push_size→xL,get?_update_self→yA,SameBut→zf,size_push→zK,get?_none_of_le→Ak,size_update→CB,MadeExcOf→C5,get?_update_ne→DQ,get?_push_at→Em,ExtBut→Fl
open PySem.Heap.IsSliceOf renaming new→CO
open PySem.Heap.Ns renaming new→EQ
open PySem.Heap.SameBut renaming update→zV,refl→FD
open PySem.IsL renaming update→B_
open PySem.IsRange renaming new→EN
open PySem.Obj renaming mapFields→yP,data_mapFields→y8,isFreed_of_fields→y9,mapSeq→zE,cls_mapFields→Bt
open PySem.Paired renaming length→BZ,snoc→EY
open PySem.PassesOwn renaming never→zR
open PySem.SeqAt renaming EqAt→B8,RcAt→CY
open PySem.SeqAt.RcNeAt renaming tuples→Fs,lists_lengths→Ft,lists→Fu
open PySem.Str renaming empty→An,length_append→AD,ofString→BK
open PySem.Value renaming isStrOf→EL,isInt→Fb
open PySem.W renaming Frag→ac,mg_none_of→yq,nsIn→yB,subIn→zg,excIn→zB,fnOf→zN,keepIn→zQ,codeIn→Ag,mg_of→Ao,findIn→Av,tail_of_in→BX,isNs_of_in→BY,methodObj→B9,cellsFrom_some→C9,callWith_K→Dt,OpenLaw→D1,typeIn→Ed,tailIn→Ee,WalkO→Eu
open PySem.W.WShape renaming has→Fa
open PySem.Walks renaming range→E_
set_option Elab.async false
set_option linter.all false
set_option maxRecDepth 100000
namespace L2
open PySem PySem.Spec PyProof.Rows
abbrev Key:=Sum Int Str
def pH:Key->bd->Bool
 | .inl k,v=>Fb k v
 | .inr x,v=>EL x v
def keyH (w:yF):Key->Int
 | .inl k=>hashInt k
 | .inr x=>hashStr w x
theorem cj:∀ {k:Key} {v:bd},pH k v=true->(∃i t,k=Sum.inl i/\v=Value.int i t)∨(∃x t,k=Sum.inr x/\v=Value.str x t)
 | .inl i,v,h=>by
  obtain⟨t,e⟩:=Value.isInt_shape (k:=i) (v:=v) h;exact .inl ⟨i,t,rfl,e⟩
 | .inr x,v,h=>by
  obtain⟨t,e⟩:=Value.isStrOf_shape (x:=x) (v:=v) h;exact .inr ⟨x,t,rfl,e⟩
theorem qR (i:Int)(t:Tok):pH (.inl i) (.int i t)=true:=by simp[pH,Fb]
theorem qQ (x:Str)(t:Tok):pH (.inr x) (.str x t)=true:=by simp[pH,EL]
theorem wY (a b:Int):decide ((Sum.inl a:Key)=Sum.inl b)=(a==b):=by
 by_cases e:a=b
 ·subst e;simp
 ·have h:¬(Sum.inl a:Key)=Sum.inl b:=λq=>e (Sum.inl.inj q);rw[decide_eq_false h];exact(beq_eq_false_iff_ne.mpr e).symm
theorem wV (a b:Str):decide ((Sum.inr a:Key)=Sum.inr b)=decide (a=b):=by
 by_cases e:a=b
 ·subst e;simp
 ·have h:¬(Sum.inr a:Key)=Sum.inr b:=λq=>e (Sum.inr.inj q);rw[decide_eq_false h,decide_eq_false e]
theorem wX (a:Int)(b:Str):decide ((Sum.inl a:Key)=Sum.inr b)=false:=decide_eq_false (λq=>nomatch q)
theorem wW (a:Str)(b:Int):decide ((Sum.inr a:Key)=Sum.inl b)=false:=decide_eq_false (λq=>nomatch q)
def cC (prog:wl)(w:yF):PySem.KeyKind prog w Key where
 is:=pH
 hash:=keyH w
 inj:=λv a b ha hb=>by
  rcases cj ha with⟨i,t,rfl,rfl⟩ | ⟨x,t,rfl,rfl⟩
  ·rcases cj hb with⟨j,u,rfl,e⟩ | ⟨y,u,rfl,e⟩
   ·injection e with e1 _;rw[e1]
   ·exact nomatch e
  ·rcases cj hb with⟨j,u,rfl,e⟩ | ⟨y,u,rfl,e⟩
   ·exact nomatch e
   ·injection e with e1 _;rw[e1]
 byValue:=λk v h=>by
  rcases cj h with⟨i,t,rfl,rfl⟩ | ⟨x,t,rfl,rfl⟩ <;> rfl
 pyHash:=λhv h=>by
  rcases cj hv with⟨i,t,rfl,rfl⟩ | ⟨x,t,rfl,rfl⟩
  ·exact wpAny_pyHash_int h
  ·exact wpAny_pyHash_str h
 eqBool:=λhu hv h=>by
  rcases cj hu with⟨i,t,rfl,rfl⟩ | ⟨x,t,rfl,rfl⟩
  ·rcases cj hv with⟨j,u,rfl,rfl⟩ | ⟨y,u,rfl,rfl⟩
   ·rw[wY]at h;exact wpAny_eqBool_int h
   ·rw[wX]at h;exact SeqAt.EqAt.int_str i t y u _ _ _ _ h
  ·rcases cj hv with⟨j,u,rfl,rfl⟩ | ⟨y,u,rfl,rfl⟩
   ·rw[wW]at h;exact SeqAt.EqAt.str_int x t j u _ _ _ _ h
   ·rw[wV]at h;exact wpAny_eqBool_str h
 «strs»:=λk x t v h=>by
  rcases cj h with⟨i,u,rfl,e⟩ | ⟨y,u,rfl,e⟩
  ·exact nomatch e
  ·injection e with e1 _;subst e1;cases v <;> rfl
theorem m7 (prog:wl)(w:yF)(i:Int)(t:Tok):(cC prog w).is (.inl i) (.int i t)=true:=qR i t
theorem m6 (prog:wl)(w:yF)(x:Str)(t:Tok):(cC prog w).is (.inr x) (.str x t)=true:=qQ x t
inductive V where
 | non | bl (b:Bool) | int (i:Int) | str (x:Str) | byt (b:Array UInt8) | flt (b:UInt64) | ref (a:Addr) | ty (n:String)
 deriving DecidableEq
def RelV:V->bd->Prop
 | .non,u=>u=Value.none
 | .bl b,u=>u=Value.bool b
 | .int i,u=>∃t,u=Value.int i t
 | .str x,u=>∃t,u=Value.str x t
 | .byt b,u=>∃t,u=Value.bytes b t
 | .flt b,u=>∃t,u=Value.float b t
 | .ref a,u=>u=Value.ref a
 | .ty n,u=>u=Value.type n
abbrev Vals:List V->List bd->Prop:=Du RelV
theorem Vals.length {xs:List V}{us:List bd}(r:Vals xs us):xs.length=us.length:=BZ r
theorem Vals.get:∀ {xs:List V} {us:List bd} {i:Nat} {x:V},Vals xs us->xs[i]? = some x->∃u,us[i]? = some u/\RelV x u
 | _,_,_,_,.nil,e=>by simp at e
 | _,_,0,_,.cons r _,e=>by simp at e;subst e;exact⟨_,rfl,r⟩
 | _,_,i+1,x,.cons _ t,e=>by
  obtain⟨u,h1,h2⟩:=Vals.get (i:=i) (x:=x) t (by simpa using e);exact⟨u,by simpa using h1,h2⟩
theorem Vals.append:∀ {xs ys:List V} {us ws:List bd},Vals xs us->Vals ys ws->Vals (xs++ys) (us++ws)
 | _,_,_,_,.nil,s=>s
 | _,_,_,_,.cons r t,s=>.cons r (Vals.append t s)
theorem Vals.take:∀ {xs:List V} {us:List bd} (n:Nat),Vals xs us->Vals (xs.take n) (us.take n)
 | _,_,0,_=>.nil
 | _,_,_+1,.nil=>.nil
 | _,_,n+1,.cons r t=>.cons r (Vals.take n t)
theorem Vals.drop:∀ {xs:List V} {us:List bd} (n:Nat),Vals xs us->Vals (xs.drop n) (us.drop n)
 | _,_,0,r=>r
 | _,_,_+1,.nil=>.nil
 | _,_,n+1,.cons _ t=>Vals.drop n t
def RelO:Option V->Option bd->Prop
 | some v,some u=>RelV v u
 | none,none=>True
 | _,_=>False
def KV {κ:Type}:List (κ×V)->List (κ×bd)->Prop:=Du λ(p:κ×V) (q:κ×bd)=>p.1=q.1/\RelV p.2 q.2
def kV:Key->V
 | .inl i=>.int i
 | .inr x=>.str x
inductive HO where
 | lst (xs:List V)
 | tup (xs:List V)
 | dK (kvs:List (Key×V)) | dT (kvs:List (List Key×V))
 | set (S:Int->Bool) (n:Nat)
 | ins (C dx:Addr) (fs:List (Str×V))
 | own (x:Addr)
 | xd (fs:List (Str×V))
 | met (f x:Addr)
 | rng (lo hi:Int)
 | frz (o:Obj) (u:HO)
 | tbl (ps:Array bd)
 | ext (φ:Heap->Prop)
 | big (ps:List Addr) (φ:wl->yF->Heap->Prop)
abbrev Hp:=Addr->Option HO
def upd (H:Hp)(a:Addr)(o:HO):Hp:=λb=>if b=a then some o else H b
theorem bh {H:Hp}{a:Addr}{o:HO}:upd H a o a=some o:=by unfold upd;rw[if_pos rfl]
theorem aU {H:Hp}{a b:Addr}{o:HO}(h:b≠a):upd H a o b=H b:=by unfold upd;rw[if_neg h]
theorem uE {H:Hp}{a:Addr}{o u:HO}:upd (upd H a o) a u=upd H a u:=by
 funext b;unfold upd;split <;> rfl
theorem vh {H:Hp}{a b:Addr}{o u:HO}(h:H a=some o)(h':H b=some u)(d:o≠u):a≠b:=by
 intro e;subst e;rw[h]at h';exact d (zC h')
theorem bD {H:Hp}{a b:Addr}{o:HO}(h:H a=some o)(h':H b=none):a≠b:=by
 intro e;subst e;rw[h]at h';cases h'
section
variable (P:wl)(w:yF)
def c_ (H:Hp)(h:Heap)(a:Addr):HO->Prop
 | .lst xs=>xs.length<=ww/\∃(its:List bd) (n:Nat),Vals xs its/\h.get? a=some {cls:=.type "list",data:=.seq its.toArray n}
 | .tup xs=>xs.length<=ww/\∃its:List bd,Vals xs its/\IsTup h a its.toArray
 | .dK kvs=>kvs.length<=ww/\(a==At)=false/\∃vs,KV kvs vs/\h.DictOf (cC P w) a vs
 | .dT kvs=>kvs.length<=ww/\(a==At)=false/\∃xs:List (List Key×Addr×bd),
   Du (λ(p:List Key×V) (q:List Key×Addr×bd)=>p.1=q.1/\H q.2.1=some (.tup (p.1.map kV))/\RelV p.2 q.2.2) kvs xs /\
   ∃o es ep,h.get? a=some o/\o.ExactDict/\o.data = .dict es ep/\es.toList=xs.map (entryOfKey (C6 (cC P w)))/\(xs.map (·.1)).Nodup
 | .set S n=>h.SetOf (intKind P w) a S n
 | .ins C dx fs=>H dx=some (.own a)/\fs.length<=1000/\dx≠a/\h.get? a=some (PySem.W.instObj C dx) /\
   ∃mA,h.Ns1 dx mA/\(∀f,RelO (fs.lookup f) (mA f))/\PySem.Within mA (fs.map (·.1))
 | .own _=>∃o,h.get? a=some o
 | .xd fs=>∃mA,h.Ns1 a mA/\∀f,RelO (fs.lookup f) (mA f)
 | .rng lo hi=>∃t u v,h.get? a=some {cls:=.type "range",data:=.fields #[.int lo t,.int hi u,.int 1 v]}
 | .frz o u=>h.get? a=some o/\c_ H h a u
 | .tbl ps=>h.get? a=some {cls:=.none,data:=.fields ps}
 | .met f x=>h.get? a=some (B9 (.ref f) (.ref x))
 | .ext φ=>φ h/\(∃o,h.get? a=some o)/\∀h1 h2:Heap,φ h1->(∀o,h1.get? a=some o->h2.get? a=some o)->φ h2
 | .big ps φ=>(∀p∈ps,p≠a/\H p=some (.own a))/\φ P w h/\(∃o,h.get? a=some o)/\∀h1 h2:Heap,φ P w h1->(∀b o,(b=a∨b∈ps)->h1.get? b=some o->h2.get? b=some o)->φ P w h2
def HOk (H:Hp)(h:Heap):Prop:=∀a o,H a=some o->c_ P w H h a o
end
section
variable {P:wl}{w:yF}{H H':Hp}{h h':Heap}{a:Addr}{o:HO}
theorem c_.lt (x:c_ P w H h a o):a<h.objs.size:=by
 cases o with
 | lst xs=>obtain⟨_,_,_,_,e⟩:=x;exact lc e
 | tup xs=>obtain⟨_,_,_,p⟩:=x;exact p.lt
 | dK kvs=>obtain⟨_,_,_,_,o,_,_,e,_⟩:=x;exact lc e
 | dT kvs=>obtain⟨_,_,_,_,o,_,_,e,_⟩:=x;exact lc e
 | set S n=>obtain⟨o,_,_,_,e,_⟩:=x;exact lc e
 | ins C dx fs=>obtain⟨_,_,_,e,_⟩:=x;exact lc e
 | own y=>obtain⟨_,e⟩:=x;exact lc e
 | xd fs=>obtain⟨_,⟨_,_,_,e,_⟩,_⟩:=x;exact lc e
 | rng lo hi=>obtain⟨_,_,_,e⟩:=x;exact lc e
 | frz ob u=>obtain⟨e,_⟩:=x;exact lc e
 | tbl ps=>exact lc (show h.get? a=some _ from x)
 | met f y=>exact lc (show h.get? a=some _ from x)
 | ext φ=>obtain⟨_,⟨_,e⟩,_⟩:=x;exact lc e
 | big ps φ=>obtain⟨_,_,⟨_,e⟩,_⟩:=x;exact lc e
theorem Paired.mapP {α β:Type}{F G:α->β->Prop}:∀ {l₁:List α} {l₂:List β},Du F l₁ l₂->(∀a b,F a b->G a b)->Du G l₁ l₂
 | _,_,.nil,_=>.nil
 | _,_,.cons r t,f=>.cons (f _ _ r) (Paired.mapP t f)
theorem c_.stay (x:c_ P w H h a o)(k:∀b u,(b=a∨H b=some (.own a))->h.get? b=some u->h'.get? b=some u)
  (ho:∀b,H b=some (.own a)->H' b=some (.own a)) (ht:∀b xs,H b=some (.tup xs)->H' b=some (.tup xs)):c_ P w H' h' a o:=by
 induction o with
 | lst xs=>obtain⟨z,its,n,r,e⟩:=x;exact⟨z,its,n,r,k _ _ (.inl rfl) e⟩
 | tup xs=>obtain⟨z,its,r,ob,e,c⟩:=x;exact⟨z,its,r,ob,k _ _ (.inl rfl) e,c⟩
 | dK kvs=>obtain⟨z,y,vs,r,ob,es,ep,e,c⟩:=x;exact⟨z,y,vs,r,ob,es,ep,k _ _ (.inl rfl) e,c⟩
 | dT kvs =>
  obtain⟨z,y,xs,r,ob,es,ep,e,c⟩:=x;exact⟨z,y,xs,Paired.mapP r λp q z=>⟨z.1,ht _ _ z.2.1,z.2.2⟩,ob,es,ep,k _ _ (.inl rfl) e,c⟩
 | set S n=>obtain⟨ob,es,ep,t,e,c⟩:=x;exact⟨ob,es,ep,t,k _ _ (.inl rfl) e,c⟩
 | ins C dx fs =>
  obtain⟨d,z,ne,e,mA,⟨od,es,ep,e2,c⟩,r⟩:=x;exact⟨ho _ d,z,ne,k _ _ (.inl rfl) e,mA,⟨od,es,ep,k _ _ (.inr d) e2,c⟩,r⟩
 | own y=>obtain⟨ob,e⟩:=x;exact⟨ob,k _ _ (.inl rfl) e⟩
 | xd fs=>obtain⟨mA,⟨od,es,ep,e,c⟩,r⟩:=x;exact⟨mA,⟨od,es,ep,k _ _ (.inl rfl) e,c⟩,r⟩
 | rng lo hi=>obtain⟨t,u,v,e⟩:=x;exact⟨t,u,v,k _ _ (.inl rfl) e⟩
 | frz ob u ih=>obtain⟨e,q⟩:=x;exact⟨k _ _ (.inl rfl) e,ih q⟩
 | tbl ps =>
  have e:h.get? a=some {cls:=.none,data:=.fields ps}:=x;show h'.get? a=some {cls:=.none,data:=.fields ps};exact k a _ (.inl rfl) e
 | met f y =>
  have e:h.get? a=some (B9 (.ref f) (.ref y)):=x;show h'.get? a=some (B9 (.ref f) (.ref y));exact k a _ (.inl rfl) e
 | ext φ=>obtain⟨p,⟨o,e⟩,st⟩:=x;exact⟨st _ _ p λo q=>k _ _ (.inl rfl) q,⟨o,k _ _ (.inl rfl) e⟩,st⟩
 | big ps φ=>obtain⟨ow,p,⟨o,e⟩,st⟩:=x;exact⟨λb hb=>⟨(ow b hb).1,ho _ (ow b hb).2⟩,st _ _ p λb o hb q=>k _ _ (hb.imp id λz=>(ow b z).2) q,⟨o,k _ _ (.inl rfl) e⟩,st⟩
theorem HOk.lt (x:HOk P w H h)(e:H a=some o):a<h.objs.size:=(x a o e).lt
theorem HOk.fresh (x:HOk P w H h)(e:h.objs.size<=a):H a=none:=by
 cases q:H a with
 | none=>rfl
 | some u=>exact absurd (nw (x.lt q) e) (zu _)
theorem HOk.kept (x:HOk P w H h)(k:∀b u,h.get? b=some u->h'.get? b=some u):HOk P w H h':=λa o e =>
 (x a o e).stay (λb u _ q=>k b u q) (λ_ q=>q) λ_ _ q=>q
theorem HOk.laid (x:HOk P w H h)(k:∀b u,h.get? b=some u->h'.get? b=some u)(hp:h.objs.size<=a)(new:c_ P w (upd H a o) h' a o):HOk P w (upd H a o) h':=λb u e=>by
 have hn:=x.fresh hp;by_cases hb:b=a
 ·subst hb;rw[bh]at e;cases e;exact new
 ·rw[aU hb]at e;exact(x b u e).stay (λc v _ q=>k c v q) (λc q=>by rw[aU (bD q hn)];exact q) λc xs q=>by rw[aU (bD q hn)];exact q
end
def Rd (H:Hp)(a:Addr)(u:HO):Prop:=H a=some u ∨ ∃o,H a=some (.frz o u)
theorem Rd.ok {P:wl}{w:yF}{H:Hp}{h:Heap}{a:Addr}{u:HO}(r:Rd H a u)(x:HOk P w H h):c_ P w H h a u:=by
 rcases r with r | ⟨o,r⟩
 ·exact x a u r
 ·obtain⟨_,q⟩:=x a _ r;exact q
def Mut:Option HO->Prop
 | some (.lst _)=>True
 | some (.dK _)=>True
 | some (.dT _)=>True
 | some (.set _ _)=>True
 | some (.ins _ _ _)=>True
 | some (.ext _)=>True
 | some (.big _ _)=>True
 | _=>False
section
variable {P:wl}{w:yF}{H:Hp}{h h':Heap}{x e:Addr}{o':HO}
theorem HOk.write (ok:HOk P w H h)(mu:Mut (H x))(he:e=x∨H e=some (.own x))(k:∀b u,b≠e->h.get? b=some u->h'.get? b=some u)(heo:∃u,h'.get? e=some u)
  (new:c_ P w (upd H x o') h' x o'):HOk P w (upd H x o') h':=λb u q=>by
 have nown:∀c y,H c=some (.own y)->c≠x:=λc y r z=>by subst z;rw[r]at mu;exact mu
 have ntup:∀c xs,H c=some (.tup xs)->c≠x:=λc xs r z=>by subst z;rw[r]at mu;exact mu
 by_cases hb:b=x
 ·subst hb;rw[bh]at q;cases q;exact new
 ·rw[aU hb]at q;by_cases hbe:b=e
  ·have q':H b=some (.own x):=by
    rcases he with z | z
    ·exact absurd (hbe.trans z) hb
    ·rw[hbe];exact z
   rw[q]at q';cases q';obtain⟨v,hv⟩:=heo;exact⟨v,by rw[hbe];exact hv⟩
  ·refine(ok b u q).stay (λc v hc r=>k c v ?_ r) (λc r=>by rw[aU (nown c b r)];exact r) λc xs r=>by rw[aU (ntup c xs r)];exact r
   rcases hc with rfl | hc
   ·exact hbe
   ·rintro rfl;rcases he with z | z
    ·exact nown c b hc z
    ·rw[hc]at z;cases z;exact hb rfl
end
structure Un (fs ex:List Addr)(H H':Hp)(h h':Heap):Prop where
 keep:∀b o,h.get? b=some o->H b=none->b∉fs->b∉ex->h'.get? b=some o
 slot:∀b o,h.get? b=some o->H b=none->b∈fs->b∉ex->∃sl,h'.get? b=some {o with slots:=sl}
 free:∀b o,h.get? b=some o->H b=none->b∉ex->H' b=none
 there:∀b o,h.get? b=some o->b∉ex->∃o',h'.get? b=some o'
 tups:∀b xs,H b=some (.tup xs)->H' b=some (.tup xs)
 frzs:∀b o u,H b=some (.frz o u)->H' b=some (.frz o u)
 tbls:∀b ps,H b=some (.tbl ps)->∃more,H' b=some (.tbl (ps++more))
section
variable {fs fs' ex ex':List Addr}{H H1 H2:Hp}{h h1 h2 h':Heap}{a x e:Addr}{o:HO}
theorem Un.any (u:Un fs ex H H1 h h1){b:Addr}{ob:Obj}(q:h.get? b=some ob)(n:H b=none)(hx:b∉ex):∃sl,h1.get? b=some {ob with slots:=sl}:=by
 by_cases hb:b∈fs
 ·exact u.slot b ob q n hb hx
 ·exact⟨ob.slots,u.keep b ob q n hb hx⟩
theorem Un.trans (a:Un fs ex H H1 h h1)(b:Un fs ex H1 H2 h1 h2):Un fs ex H H2 h h2 where
 keep:=λc ob q n hc hx=>b.keep c ob (a.keep c ob q n hc hx) (a.free c ob q n hx) hc hx
 slot:=λc ob q n hc hx=>by
  obtain⟨sl,e1⟩:=a.slot c ob q n hc hx;obtain⟨sl',e2⟩:=b.slot c _ e1 (a.free c ob q n hx) hc hx;exact⟨sl',e2⟩
 free:=λc ob q n hx=>by
  obtain⟨o',e1⟩:=a.there c ob q hx;exact b.free c o' e1 (a.free c ob q n hx) hx
 there:=λc ob q hx=>by
  obtain⟨o',e1⟩:=a.there c ob q hx;exact b.there c o' e1 hx
 tups:=λc xs q=>b.tups c xs (a.tups c xs q)
 frzs:=λc ob xs q=>b.frzs c ob xs (a.frzs c ob xs q)
 tbls:=λc ps q=>by
  obtain⟨m1,e1⟩:=a.tbls c ps q;obtain⟨m2,e2⟩:=b.tbls c _ e1;exact⟨m1++m2,by rw[e2,DT]⟩
theorem Un.kept (k:∀b u,h.get? b=some u->h'.get? b=some u):Un fs ex H H h h' :=
 ⟨λb ob q _ _ _=>k b ob q,λb ob q _ _ _=>⟨ob.slots,k b ob q⟩,λ_ _ _ n _=>n,λb ob q _=>⟨ob,k b ob q⟩,λ_ _ q=>q,λ_ _ _ q=>q,λ_ ps q=>⟨#[],by rw[q];simp⟩⟩
theorem Un.refl:Un fs ex H H h h:=Un.kept λ_ _ q=>q
theorem Un.laid (k:∀b u,h.get? b=some u->h'.get? b=some u)(hp:h.objs.size<=a)(hn:H a=none):Un fs ex H (upd H a o) h h' where
 keep:=λb u q _ _ _=>k b u q
 slot:=λb u q _ _ _=>⟨u.slots,k b u q⟩
 free:=λb u q n _=>by rw[aU (yn (nw (lc q) hp))];exact n
 there:=λb u q _=>⟨u,k b u q⟩
 tups:=λb xs q=>by rw[aU (bD q hn)];exact q
 frzs:=λb u xs q=>by rw[aU (bD q hn)];exact q
 tbls:=λb ps q=>⟨#[],by rw[aU (bD q hn),q];simp⟩
theorem Un.write (mu:Mut (H x))(he:e=x∨H e=some (.own x))(k:∀b u,b≠e->h.get? b=some u->h'.get? b=some u)(heo:∃u,h'.get? e=some u):Un fs ex H (upd H x o) h h':=by
 have hx:∀b,H b=none->b≠x:=λb n z=>by subst z;rw[n]at mu;exact mu
 have hb:∀b,H b=none->b≠e:=λb n z=>by
  subst z;rcases he with r | r
  ·exact hx b n r
  ·rw[n]at r;cases r
 have hm:∀b u,H b=some u->¬Mut (some u)->b≠x:=λb u q nm z=>by subst z;rw[q]at mu;exact nm mu
 refine⟨λb u q n _ _=>k b u (hb b n) q,λb u q n _ _=>⟨u.slots,k b u (hb b n) q⟩,λb u q n _=>by rw[aU (hx b n)];exact n,λb u q _=>?_,
  λb xs q=>by rw[aU (hm b _ q λz=>z)];exact q,λb u xs q=>by rw[aU (hm b _ q λz=>z)];exact q,λb ps q=>⟨#[],by rw[aU (hm b _ q λz=>z),q];simp⟩⟩
 by_cases hbe:b=e
 ·subst hbe;exact heo
 ·exact⟨u,k b u hbe q⟩
end
def trk (h:Heap)(H:Hp):List Addr:=(ym h.objs.size).filter λa=>(H a).isSome
def hidT (h:Heap)(H:Hp):Heap:=PySem.W.hideAll h (trk h H)
theorem qY (h:Heap)(H:Hp):(hidT h H).objs.size=h.objs.size:=PySem.W.hideAll_size _ _
theorem sZ {h:Heap}{H:Hp}{b:Addr}{o:Obj}(e:h.get? b=some o)(n:H b=none):(hidT h H).get? b=some o :=
 PySem.W.hideAll_get _ e λhm=>by
  have q:(H b).isSome=true:=(zi.mp hm).2;rw[n]at q;simp at q
theorem vf {h:Heap}{H:Hp}{b:Addr}{o:Obj}(e:(hidT h H).get? b=some o):h.get? b=some o/\H b=none:=by
 have e':h.get? b=some o:=PySem.W.of_hideAll (trk h H) e;refine⟨e',?_⟩;cases q:H b with
 | none=>rfl
 | some x =>
  have hm:b∈trk h H:=zi.mpr ⟨za.mpr (lc e'),by simp[q]⟩;have z:(hidT h H).get? b=none:=PySem.W.hideAll_none (trk h H) hm;rw[z]at e;cases e
structure Mod (K:ac)(mg:Str->Option bd)(base:Heap):Prop where
 kin:K.In base
 glob:base.Ns yk mg
 blt:∃mb,base.Ns EX mb/\∀x:Str,x ≠ "__name__" -> mb x=zH x
 nolimit:base.NoLimit
structure Cx where
 prog:wl
 w:yF
 K:ac
 mg:Str->Option bd
 base:Heap
 A:yI
 N:List Str
 s₀:dL
 H₀:Hp
 env:Env
 outer:List Env
 stack:List Env
 ex:List Addr
 fn:Str->Bool
 calm:Bool
 pn:List (Addr×Obj)
 xe:bd->dL->Prop
def frs (l:List Env):List Addr:=l.filterMap (·.frame)
abbrev Cx.fs (X:Cx):List Addr:=frs X.outer
def Vis (sc:zA)(x:Str):Prop:=sc.names.lookup x=some .local∨sc.names.lookup x=some .cell∨sc.names.lookup x=some .free
def Loc (sc:zA)(x:Str):Prop:=sc.names.lookup x=some .local∨sc.names.lookup x=some .cell
def Look (env:Env)(h:Heap)(m:Str->Option bd)(x:Str)(u:bd):Prop :=
 (env.kindOf x=some .local/\m x=some u)∨((env.kindOf x=some .cell∨env.kindOf x=some .free)/\∃c,env.cells.lookup x=some c/\h.IsCell c (some u))
structure Cx.Ok (X:Cx):Prop where
 mod:Mod X.K X.mg X.base
 kind:X.env.scope.kind = .function
 glob:X.env.globals=yk
 blt:X.env.builtins=EX
 above:X.s₀.heap.objs.size<=X.env.locals
 inj:∀x y c,X.env.cells.lookup x=some c->X.env.cells.lookup y=some c->x=y
 has:∀x,(X.env.kindOf x=some .cell∨X.env.kindOf x=some .free)->∃c,X.env.cells.lookup x=some c
 cab:∀x c,X.fn x=true->X.env.cells.lookup x=some c->X.s₀.heap.objs.size<=c
 hd:X.calm=true->X.A.handled=none
 frames:X.A.frames=some X.stack
 stk:X.stack=X.outer∨(X.stack=X.env::X.outer/\X.env.frame=some X.env.locals)
 exf:∀b∈X.ex,b≠X.env.locals/\∀x c,X.env.cells.lookup x=some c->c≠b
 bs:∀b o,X.base.get? b=some o->X.s₀.heap.get? b=some o/\X.H₀ b=none
 bsz:X.base.objs.size<=X.s₀.heap.objs.size
 noex:∀b o,X.base.get? b=some o->b∉X.ex
 exfs:∀b∈X.ex,b∉X.fs
 funs:X.s₀.heap.FunFrames X.base X.outer
 frf:∀b∈X.fs,X.H₀ b=none
structure Inv (X:Cx)(pins:List (Addr×Obj))(σ:List (Option V))(H:Hp)(s:dL):Prop where
 ok:X.Ok
 os:s.os=X.s₀.os
 bare:BG s.gens
 base:Un X.fs X.ex X.H₀ H X.s₀.heap s.heap
 loc:∃m,s.heap.Ns X.env.locals m/\∀(i:Nat) (x:Str) (v:V),X.N[i]? = some x->σ[i]? = some (some v)->Vis X.env.scope x->∃u,RelV v u/\Look X.env s.heap m x u
 cell:∀x c,X.env.cells.lookup x=some c->∃v,s.heap.IsCell c v
 free:H X.env.locals=none
 freeC:∀x c,X.env.cells.lookup x=some c->H c=none
 pin:∀p∈X.pn++pins,s.heap.get? p.1=some p.2/\H p.1=none/\p.1≠X.env.locals/\p.1∉X.fs/\∀v,p.2.data ≠ .cell v
 hok:HOk X.prog X.w H s.heap
 len:σ.length=X.N.length
section
variable {X:Cx}{pins:List (Addr×Obj)}{σ:List (Option V)}{H H':Hp}{s:dL}{h':Heap}
theorem Cx.Ok.nofr (ok:X.Ok){b:Addr}{o:Obj}(e:X.base.get? b=some o):b∉X.fs:=λhb=>by
 have:=(ok.funs.mem hb).1;rw[e]at this;cases this
theorem Inv.bs (I:Inv X pins σ H s):∀b o,X.base.get? b=some o->s.heap.get? b=some o/\H b=none:=λb o e =>
 ⟨I.base.keep b o (I.ok.bs b o e).1 (I.ok.bs b o e).2 (I.ok.nofr e) (I.ok.noex b o e),I.base.free b o (I.ok.bs b o e).1 (I.ok.bs b o e).2 (I.ok.noex b o e)⟩
theorem Inv.bk (I:Inv X pins σ H s):∀b o,X.base.get? b=some o->s.heap.get? b=some o:=λb o e=>(I.bs b o e).1
theorem Inv.mod (I:Inv X pins σ H s):Mod X.K X.mg X.base:=I.ok.mod
theorem Inv.kIn (I:Inv X pins σ H s):X.K.In s.heap:=I.ok.mod.kin.keeps I.bk
theorem Inv.fr (I:Inv X pins σ H s):∃m,Fr X.base X.env.locals s.heap m :=
 let ⟨m,hn,_⟩:=I.loc
 ⟨m,hn,I.bk,yt I.ok.bsz I.ok.above⟩
theorem Inv.lt (I:Inv X pins σ H s):X.env.locals<s.heap.objs.size:=let ⟨_,hn,_⟩:=I.loc;hn.lt
theorem Inv.sz (I:Inv X pins σ H s):X.s₀.heap.objs.size<=s.heap.objs.size:=yt I.ok.above (yR I.lt)
theorem Inv.nofs (I:Inv X pins σ H s){a:Addr}(h:s.heap.objs.size<=a):a∉X.fs:=λhb=>by
 obtain⟨_,o,ho,_⟩:=I.ok.funs.mem hb;exact absurd (nw (lc ho) (yt I.sz h)) (zu _)
theorem Inv.cne (I:Inv X pins σ H s):∀x c,X.env.cells.lookup x=some c->c≠X.env.locals:=λx c e z=>by
 obtain⟨v,o,ho,hd⟩:=I.cell x c e;obtain⟨m,⟨o',es,ep,ho',hd',_⟩,_⟩:=I.loc;rw[z,ho']at ho;cases ho;rw[hd']at hd;cases hd
theorem Inv.funs (I:Inv X pins σ H s):s.heap.FunFrames X.base X.outer:=by
 have all:∀(l:List Env),(∀b∈frs l,b∈X.fs)->X.s₀.heap.FunFrames X.base l->s.heap.FunFrames X.base l:=by
  intro l;induction l with
  | nil=>intro _ _;trivial
  | cons env r ih =>
   intro hs hl;obtain⟨hk,⟨L,o,hf,hn,ho,hd⟩,hr⟩:=hl;have hL:L∈X.fs:=hs L (by unfold frs;rw[A7,hf];exact yW);obtain⟨sl,e⟩:=I.base.slot L o ho (I.ok.frf L hL) hL λz=>I.ok.exfs L z hL
   exact⟨hk,⟨L,_,hf,hn,e,hd⟩,ih (λb hb=>hs b (by unfold frs;rw[A7,hf];exact yN _ hb)) hr⟩
 exact all X.outer (λ_ hb=>hb) I.ok.funs
theorem Inv.stack (I:Inv X pins σ H s):s.heap.FunFrames X.base X.stack:=by
 rcases I.ok.stk with e | ⟨e,hf⟩
 ·rw[e];exact I.funs
 ·rw[e];obtain⟨m,hn,_⟩:=I.loc;refine .cons (by rw[I.ok.kind];decide) hf hn ?_ I.funs;exact Ak (yt I.ok.bsz I.ok.above)
theorem Inv.stkSub (I:Inv X pins σ H s):∀b∈frs X.stack,b∈X.env.locals::X.fs:=λb hb=>by
 rcases I.ok.stk with e | ⟨e,hf⟩
 ·rw[e]at hb;exact yN _ hb
 ·rw[e]at hb;unfold frs at hb;rw[A7,hf]at hb;exact hb
theorem Inv.stkFree (I:Inv X pins σ H s):∀b∈frs X.stack,H b=none:=λb hb=>by
 rcases wn.mp (I.stkSub b hb)with e | hb
 ·rw[e];exact I.free
 ·obtain⟨_,o,ho,_⟩:=I.ok.funs.mem hb;exact I.base.free b o ho (I.ok.frf b hb) λz=>I.ok.exfs b z hb
theorem Inv.step {g':Array DA}{t':Nat}{d':Drawn}{ch:List Addr}(I:Inv X pins σ H s)
  (hch:∀b∈ch,(b∈X.ex∨X.s₀.heap.objs.size<=b)/\b≠X.env.locals/\(∀x c,X.env.cells.lookup x=some c->c≠b)/\∀p∈X.pn++pins,p.1≠b)
  (keep:∀b o,b≠X.env.locals->b∉X.fs->b∉ch->s.heap.get? b=some o->H b=none->h'.get? b=some o)
  (slot:∀b o,b≠X.env.locals->b∈X.fs->b∉ch->s.heap.get? b=some o->H b=none->∃sl,h'.get? b=some {o with slots:=sl}) (free:∀b o,b∉ch->s.heap.get? b=some o->H b=none->H' b=none)
  (there:∀b o,b∉ch->s.heap.get? b=some o->∃o',h'.get? b=some o')
  (tups:∀b xs,H b=some (.tup xs)->H' b=some (.tup xs)) (frzs:∀b o u,H b=some (.frz o u)->H' b=some (.frz o u)) (tbls:∀b ps,H b=some (.tbl ps)->∃more,H' b=some (.tbl (ps++more)))
  (ns:∀m,s.heap.Ns X.env.locals m->h'.Ns X.env.locals m) (hok:HOk X.prog X.w H' h') (hg:BG g') :
  Inv X pins σ H' {s with heap:=h',gens:=g',drawn:=d',toks:=t'}:=by
 have neL:∀b o,X.s₀.heap.get? b=some o->b≠X.env.locals:=λb o e=>yn (nw (lc e) I.ok.above);have neC:∀b o,X.s₀.heap.get? b=some o->b∉X.ex->b∉ch:=λb o e hx hb=>by
  rcases(hch b hb).1 with z | z
  ·exact hx z
  ·exact absurd (nw (lc e) z) (zu _)
 have cellK:∀x c,X.env.cells.lookup x=some c->∀v,s.heap.IsCell c v->h'.IsCell c v:=λx c e v ⟨o,ho,hd⟩=>by
  have nch:c∉ch:=λz=>(hch c z).2.2.1 x c e rfl;by_cases hc:c∈X.fs
  ·obtain⟨sl,q⟩:=slot c o (I.cne x c e) hc nch ho (I.freeC x c e);exact⟨_,q,hd⟩
  ·exact⟨o,keep c o (I.cne x c e) hc nch ho (I.freeC x c e),hd⟩
 refine⟨I.ok,I.os,hg,⟨λb o e n hb hx=>?_,λb o e n hb hx=>?_,λb o e n hx=>?_,λb o e hx=>?_,λb xs e=>tups b xs (I.base.tups b xs e),λb o xs e=>frzs b o xs (I.base.frzs b o xs e),λb ps e=>?_⟩,?_,λx c e=>?_,?_,λx c e=>?_,λp hp=>?_,hok,I.len⟩
 ·exact keep b o (neL b o e) hb (neC b o e hx) (I.base.keep b o e n hb hx) (I.base.free b o e n hx)
 ·obtain⟨sl,e1⟩:=I.base.slot b o e n hb hx;obtain⟨sl',e2⟩:=slot b _ (neL b o e) hb (neC b o e hx) e1 (I.base.free b o e n hx);exact⟨sl',e2⟩
 ·obtain⟨o',e1⟩:=I.base.there b o e hx;exact free b o' (neC b o e hx) e1 (I.base.free b o e n hx)
 ·obtain⟨o',e1⟩:=I.base.there b o e hx;exact there b o' (neC b o e hx) e1
 ·obtain⟨m1,e1⟩:=I.base.tbls b ps e;obtain⟨m2,e2⟩:=tbls b _ e1;exact⟨m1++m2,by rw[e2,DT]⟩
 ·obtain⟨m,hn,hl⟩:=I.loc;refine⟨m,ns m hn,λi x v e1 e2 e3=>?_⟩;obtain⟨u,r,l⟩:=hl i x v e1 e2 e3;refine⟨u,r,?_⟩;rcases l with l | ⟨k,c,e,z⟩
  ·exact .inl l
  ·exact .inr ⟨k,c,e,cellK x c e _ z⟩
 ·obtain⟨v,z⟩:=I.cell x c e;exact⟨v,cellK x c e v z⟩
 ·obtain⟨m,⟨o,_,_,ho,_⟩,_⟩:=I.loc;exact free _ o (λz=>(hch _ z).2.1 rfl) ho I.free
 ·obtain⟨v,o,ho,hd⟩:=I.cell x c e;exact free c o (λz=>(hch c z).2.2.1 x c e rfl) ho (I.freeC x c e)
 ·obtain⟨e,n,ne,nf,d⟩:=I.pin p hp;have nch:p.1∉ch:=λz=>(hch p.1 z).2.2.2 p hp rfl;exact⟨keep p.1 p.2 ne nf nch e n,free p.1 p.2 nch e n,ne,nf,d⟩
theorem Inv.un {t':Nat}(I:Inv X pins σ H s)(u:Un X.fs [] H H' s.heap h')(hok:HOk X.prog X.w H' h'):Inv X pins σ H' {s with heap:=h',toks:=t'}:=by
 obtain⟨m,⟨o,es,ep,ho,r⟩,_⟩:=id I.loc;obtain⟨sl,hL⟩:=u.any ho I.free (by simp);exact I.step (g':=s.gens) (d':=s.drawn) (ch:=[]) (λ_ z=>nomatch z) (λb o _ hb _ e n=>u.keep b o e n hb (by simp)) (λb o _ hb _ e n=>u.slot b o e n hb (by simp)) (λb o _ e n=>u.free b o e n (by simp)) (λb o _ e=>u.there b o e (by simp)) u.tups u.frzs u.tbls (λm' hm=>by
  obtain⟨o',es',ep',ho',r'⟩:=hm;rw[ho]at ho';cases ho';exact⟨_,es',ep',hL,r'⟩) hok I.bare
theorem Inv.call {g':Array DA}{t':Nat}{d':Drawn}{ch:List Addr}(I:Inv X pins σ H s)(u:Un (frs X.stack) ch H H' s.heap h')(hok:HOk X.prog X.w H' h')(hg:BG g')
  (hch:∀b∈ch,(b∈X.ex∨X.s₀.heap.objs.size<=b)/\b≠X.env.locals/\(∀x c,X.env.cells.lookup x=some c->c≠b)/\∀p∈X.pn++pins,p.1≠b) :
  Inv X pins σ H' {s with heap:=h',gens:=g',drawn:=d',toks:=t'}:=by
 obtain⟨m,⟨o,es,ep,ho,r⟩,_⟩:=id I.loc;obtain⟨sl,hL⟩:=u.any ho I.free λz=>(hch _ z).2.1 rfl
 exact I.step (ch:=ch) hch (λb o hL hb hc e n=>u.keep b o e n (λz=>(wn.mp (I.stkSub b z)).elim hL hb) hc) (λb o _ _ hc e n=>u.any e n hc) (λb o hc e n=>u.free b o e n hc) (λb o hc e=>u.there b o e hc) u.tups u.frzs u.tbls (λm' hm=>by
  obtain⟨o',es',ep',ho',r'⟩:=hm;rw[ho]at ho';cases ho';exact⟨_,es',ep',hL,r'⟩) hok hg
theorem Inv.turned {t':Nat}{it:Addr}(I:Inv X pins σ H s)(k:∀b o,b≠it->s.heap.get? b=some o->h'.get? b=some o)(hn:H it=none)(hL:it≠X.env.locals)
  (h1:it∈X.ex∨X.s₀.heap.objs.size<=it) (h2:∀x c,X.env.cells.lookup x=some c->c≠it) (h3:∀p∈X.pn++pins,p.1≠it):Inv X pins σ H {s with heap:=h',toks:=t'}:=by
 have nit:∀b u,H b=some u->b≠it:=λb u e z=>by rw[z,hn]at e;cases e
 refine I.step (g':=s.gens) (d':=s.drawn) (ch:=[it]) (λb hb=>?_) (λb o _ _ hc e _=>k b o (λz=>hc (by simp[z])) e) (λb o _ _ hc e _=>⟨o.slots,k b o (λz=>hc (by simp[z])) e⟩) (λ_ _ _ _ n=>n)
  (λb o hc e=>⟨o,k b o (λz=>hc (by simp[z])) e⟩) (λ_ _ e=>e) (λ_ _ _ e=>e) (λb ps e=>⟨#[],by rw[e];simp⟩) (λm hm=>?_) (λb u e=>?_) I.bare
 ·have e:b=it:=by simpa using hb
  subst e;exact⟨h1,hL,h2,h3⟩
 ·obtain⟨o,es,ep,ho,r⟩:=hm;exact⟨o,es,ep,k _ o (zd hL) ho,r⟩
 ·refine(I.hok b u e).stay (λc v hc q=>k c v ?_ q) (λ_ q=>q) λ_ _ q=>q;rcases hc with z | z
  ·rw[z];exact nit b u e
  ·exact nit c _ z
theorem Inv.tok (I:Inv X pins σ H s)(t:Nat):Inv X pins σ H {s with toks:=t}:=I.un (h':=s.heap) (t':=t) Un.refl I.hok
theorem Inv.kept {t':Nat}(I:Inv X pins σ H s)(k:∀b u,s.heap.get? b=some u->h'.get? b=some u):Inv X pins σ H {s with heap:=h',toks:=t'}:=I.un (Un.kept k) (I.hok.kept k)
theorem Inv.laid {a:Addr}{o:HO}{t':Nat}(I:Inv X pins σ H s)(k:∀b u,s.heap.get? b=some u->h'.get? b=some u)(hp:s.heap.objs.size<=a)(new:c_ X.prog X.w (upd H a o) h' a o) :
  Inv X pins σ (upd H a o) {s with heap:=h',toks:=t'}:=I.un (Un.laid k hp (I.hok.fresh hp)) (I.hok.laid k hp new)
theorem Inv.write {x e:Addr}{o:HO}{t':Nat}(I:Inv X pins σ H s)(mu:Mut (H x))(he:e=x∨H e=some (.own x))(k:∀b u,b≠e->s.heap.get? b=some u->h'.get? b=some u)(heo:∃u,h'.get? e=some u)
  (new:c_ X.prog X.w (upd H x o) h' x o):Inv X pins σ (upd H x o) {s with heap:=h',toks:=t'}:=I.un (Un.write mu he k heo) (I.hok.write mu he k heo new)
theorem Inv.weak {σ':List (Option V)}(I:Inv X pins σ H s)(hl:σ'.length=σ.length)(w:∀(i:Nat) v,σ'[i]? = some (some v)->σ[i]? = some (some v)):Inv X pins σ' H s :=
 ⟨I.ok,I.os,I.bare,I.base,let ⟨m,hn,hl'⟩:=I.loc;⟨m,hn,λi x v e1 e2 e3=>hl' i x v e1 (w i v e2) e3⟩,I.cell,I.free,I.freeC,I.pin,I.hok,hl.trans I.len⟩
theorem Inv.pins_of {pins':List (Addr×Obj)}(I:Inv X pins σ H s)(h:∀p∈pins',s.heap.get? p.1=some p.2/\H p.1=none/\p.1≠X.env.locals/\p.1∉X.fs/\∀v,p.2.data ≠ .cell v):Inv X pins' σ H s :=
 ⟨I.ok,I.os,I.bare,I.base,I.loc,I.cell,I.free,I.freeC,λp hp=>(zL.mp hp).elim (λz=>I.pin p (z5 _ z)) (h p),I.hok,I.len⟩
theorem oq {N:List Str}(hN:N.Nodup){i j:Nat}{x:Str}(a:N[i]? = some x)(b:N[j]? = some x):i=j:=by
 obtain⟨h1,e1⟩:=kt.mp a;obtain⟨h2,e2⟩:=kt.mp b;exact(List.getElem_inj hN).mp (e1.trans e2.symm)
theorem lF {M:C1}{A:yI}{E:bd->dL->Prop}{i:Nat}{x:Str}{v:V}{u:bd}{Q:Unit->dL->Prop}(I:Inv X pins σ H s)(hN:X.N.Nodup)(hi:X.N[i]? = some x)(hx:Loc X.env.scope x)(r:RelV v u)
  (h:∀s',Inv X pins (σ.set i (some v)) H s'->(∃a,zf a s.heap s'.heap/\(a=X.env.locals∨X.env.cells.lookup x=some a))->Q () s') (hf:X.fn x=true∨X.env.scope.names.lookup x=some .local:=by first | exact .inl rfl | exact .inr rfl | assumption):o0 M A (storeName X.env x u) Q E s:=by
 obtain⟨m,hn,hl⟩:=id I.loc;have hcls:(X.env.scope.kind == .class||(X.env.scope.kind == .module&&X.env.locals != X.env.globals))=false:=by rw[I.ok.kind];rfl
 have hiσ:i<σ.length:=by rw[I.len];exact(kt.mp hi).1
 have cne:=I.cne;have tracked:∀ {a:Addr} {h':Heap},(∃o,s.heap.get? a=some o/\H a=none)->zf a s.heap h'->HOk X.prog X.w H h':=λ{a h'} ha hs b ob e=>by
  obtain⟨_,_,hfree⟩:=ha;refine(I.hok b ob e).stay (λc w' hc q=>(hs.2 c ?_).trans q) (λ_ q=>q) λ_ _ q=>q;rintro rfl;rcases hc with rfl | hc
  ·rw[hfree]at e;cases e
  ·rw[hfree]at hc;cases hc
 rcases hx with hk | hk
 ·refine wpAny_storeName_local hk hn (λh' hn' hs=>?_) hcls;obtain⟨oL,_,_,hoL,_⟩:=id hn;refine h _ ⟨I.ok,I.os,I.bare,⟨λb o e n hb hx=>?_,λb o e n hb hx=>?_,I.base.free,λb o e hx=>?_,I.base.tups,I.base.frzs,I.base.tbls⟩,⟨_,hn',λj y v' e1 e2 e3=>?_⟩,λy c e=>?_,I.free,I.freeC,λp hp=>?_,tracked ⟨oL,hoL,I.free⟩ hs,by simpa using I.len⟩ ⟨_,hs,.inl rfl⟩
  ·exact(hs.2 b (yn (nw (lc e) I.ok.above))).trans (I.base.keep b o e n hb hx)
  ·obtain⟨sl,e1⟩:=I.base.slot b o e n hb hx;exact⟨sl,(hs.2 b (yn (nw (lc e) I.ok.above))).trans e1⟩
  ·obtain⟨o',e1⟩:=I.base.there b o e hx;exact⟨o',(hs.2 b (yn (nw (lc e) I.ok.above))).trans e1⟩
  ·by_cases hj:j=i
   ·subst hj;rw[hi]at e1;cases e1;rw[y6 hiσ]at e2;cases e2
    exact⟨u,r,.inl ⟨hk,by simp⟩⟩
   ·rw[xz (zd hj)]at e2;obtain⟨u',r',q⟩:=hl j y v' e1 e2 e3;refine⟨u',r',?_⟩;rcases q with⟨k,e⟩ | ⟨k,c,e,z⟩
    ·refine .inl ⟨k,?_⟩;have:y≠x:=λe=>hj (oq hN e1 (e▸hi));simp[this,e]
    ·exact .inr ⟨k,c,e,z.sameBut hs (cne y c e)⟩
  ·obtain⟨w',z⟩:=I.cell y c e;exact⟨w',z.sameBut hs (cne y c e)⟩
  ·obtain⟨e,n,ne,nf,d⟩:=I.pin p hp;exact⟨(hs.2 p.1 ne).trans e,n,ne,nf,d⟩
 ·have hfn:X.fn x=true:=by
   rcases hf with z | z
   ·exact z
   ·rw[z]at hk;cases hk
  obtain⟨c,hc⟩:=I.ok.has x (.inl hk);obtain⟨w',z⟩:=I.cell x c hc;refine wpAny_storeName_cell I.ok.kind hk hc z (λh' hc' hs=>?_);obtain⟨oc,hoc,hocd⟩:=id z;refine h {s with heap:=h'} ⟨I.ok,I.os,I.bare,⟨λb o e n hb hx=>?_,λb o e n hb hx=>?_,I.base.free,λb o e hx=>?_,I.base.tups,I.base.frzs,I.base.tbls⟩,⟨m,hn.sameBut hs (zd (cne x c hc)),λj y v' e1 e2 e3=>?_⟩,λy c' e=>?_,I.free,I.freeC,λp hp=>?_,tracked ⟨oc,hoc,I.freeC x c hc⟩ hs,by simpa using I.len⟩ ⟨c,hs,.inr hc⟩
  ·exact(hs.2 b (yn (nw (lc e) (I.ok.cab x c hfn hc)))).trans (I.base.keep b o e n hb hx)
  ·obtain⟨sl,e1⟩:=I.base.slot b o e n hb hx;exact⟨sl,(hs.2 b (yn (nw (lc e) (I.ok.cab x c hfn hc)))).trans e1⟩
  ·obtain⟨o',e1⟩:=I.base.there b o e hx;exact⟨o',(hs.2 b (yn (nw (lc e) (I.ok.cab x c hfn hc)))).trans e1⟩
  ·by_cases hj:j=i
   ·subst hj;rw[hi]at e1;cases e1;rw[y6 hiσ]at e2;cases e2
    exact⟨u,r,.inr ⟨.inl hk,c,hc,hc'⟩⟩
   ·rw[xz (zd hj)]at e2;obtain⟨u',r',q⟩:=hl j y v' e1 e2 e3;refine⟨u',r',?_⟩;rcases q with q | ⟨k,c',e,z'⟩
    ·exact .inl q
    ·refine .inr ⟨k,c',e,z'.sameBut hs ?_⟩;rintro rfl;exact hj (oq hN e1 (I.ok.inj _ _ _ e hc▸hi))
  ·by_cases hcc:c'=c
   ·subst hcc;exact⟨_,hc'⟩
   ·obtain⟨w2,z2⟩:=I.cell y c' e;exact⟨w2,z2.sameBut hs hcc⟩
  ·obtain⟨e,n,ne,nf,d⟩:=I.pin p hp;refine⟨(hs.2 p.1 ?_).trans e,n,ne,nf,d⟩;intro q;rw[q,hoc]at e;have q':oc=p.2:=zC e;exact d w' (by rw[<- q'];exact hocd)
theorem nV {M:C1}{A:yI}{E:bd->dL->Prop}{i:Nat}{x:Str}{v:V}{u:bd}{Q:Unit->dL->Prop}(I:Inv X pins σ H s)(hN:X.N.Nodup)(hi:X.N[i]? = some x)(hx:Loc X.env.scope x)(r:RelV v u)
  (h:∀s',Inv X pins (σ.set i (some v)) H s'->Q () s') (hf:X.fn x=true∨X.env.scope.names.lookup x=some .local:=by first | exact .inl rfl | exact .inr rfl | assumption):o0 M A (storeName X.env x u) Q E s :=
 lF I hN hi hx r (λs' I' _=>h s' I') hf
theorem Inv.call' {s':dL}{ch:List Addr}(I:Inv X pins σ H s)(ho:s'.os=s.os)(u:Un (frs X.stack) ch H H' s.heap s'.heap)(hok:HOk X.prog X.w H' s'.heap)(hg:BG s'.gens)
  (hch:∀b∈ch,(b∈X.ex∨X.s₀.heap.objs.size<=b)/\b≠X.env.locals/\(∀x c,X.env.cells.lookup x=some c->c≠b)/\∀p∈X.pn++pins,p.1≠b):Inv X pins σ H' s':=by
 obtain⟨h',g',d',t',o'⟩:=s';have e:o'=s.os:=ho;subst e;exact I.call (g':=g') (t':=t') (d':=d') u hok hg hch
end
abbrev XK:=bd->Option Addr->Hp->Prop
abbrev St:=List (Option V)
abbrev VK:=V->Hp->Prop
abbrev TE:=St->Hp->VK->Prop
abbrev TT:=St->Hp->(Bool->Hp->Prop)->Prop
abbrev TA:=St->Hp->(List V->Hp->Prop)->Prop
structure Ends where
 nx:St->Hp->Prop
 rt:VK
 bk:St->Hp->Prop:=λ_ _=>False
 ct:St->Hp->Prop:=λ_ _=>False
abbrev TS:=Ends->St->Hp->Prop
def EP (X:Cx)(pins:List (Addr×Obj))(σ:St)(Q:VK)(u:bd)(s':dL):Prop:=∃v H',Inv X pins σ H' s'/\RelV v u/\Q v H'
def TP (X:Cx)(pins:List (Addr×Obj))(σ:St)(Q:Bool->Hp->Prop)(b:Bool)(s':dL):Prop:=∃H',Inv X pins σ H' s'/\Q b H'
def AP (X:Cx)(pins:List (Addr×Obj))(σ:St)(Q:List V->Hp->Prop)(us:List bd)(s':dL):Prop:=∃vs H',Inv X pins σ H' s'/\Vals vs us/\Q vs H'
def SP (X:Cx)(pins:List (Addr×Obj))(D:Ends)(f:Flow)(s':dL):Prop :=
 match f with
 | .next=>∃ σ' H',Inv X pins σ' H' s'/\D.nx σ' H'
 | .brk=>∃ σ' H',Inv X pins σ' H' s'/\D.bk σ' H'
 | .cont=>∃ σ' H',Inv X pins σ' H' s'/\D.ct σ' H'
 | .ret u=>∃v σ' H',Inv X pins σ' H' s'/\RelV v u/\D.rt v H'
def PE (X:Cx)(e:Expr)(t:TE):Prop :=
 ∀(pins:List (Addr×Obj)) (s:dL) (σ:St) (H:Hp) (Q:VK),Inv X pins σ H s->t σ H Q->o0 (sK X.prog X.w) X.A (eval e X.env) (EP X pins σ Q) X.xe s
def PT (X:Cx)(e:Expr)(t:TT):Prop :=
 ∀(pins:List (Addr×Obj)) (s:dL) (σ:St) (H:Hp) (Q:Bool->Hp->Prop),Inv X pins σ H s->t σ H Q->o0 (sK X.prog X.w) X.A (D_ e X.env (eval e X.env)) (TP X pins σ Q) X.xe s
def PW (X:Cx)(e:Expr)(t:TT):Prop :=
 ∀(whole:Sem bd) (pins:List (Addr×Obj)) (s:dL) (σ:St) (H:Hp) (Q:Bool->Hp->Prop),Inv X pins σ H s->t σ H Q->o0 (sK X.prog X.w) X.A (D_ e X.env whole) (TP X pins σ Q) X.xe s
theorem PW.pt {X:Cx}{e:Expr}{t:TT}(h:PW X e t):PT X e t:=h _
def PA (X:Cx)(es:List Expr)(t:TA):Prop :=
 ∀(pos:Pos) (pins:List (Addr×Obj)) (s:dL) (σ:St) (H:Hp) (Q:List V->Hp->Prop),Inv X pins σ H s->t σ H Q->o0 (sK X.prog X.w) X.A (E6 (Al pos (yu es X.env))) (AP X pins σ Q) X.xe s
def PS (X:Cx)(st:Stmt)(t:TS):Prop :=
 ∀(pins:List (Addr×Obj)) (s:dL) (σ:St) (H:Hp) (D:Ends),Inv X pins σ H s->t D σ H->o0 (sK X.prog X.w) X.A (exec st X.env) (SP X pins D) X.xe s
def PSs (X:Cx)(st:List Stmt)(t:TS):Prop :=
 ∀(pins:List (Addr×Obj)) (s:dL) (σ:St) (H:Hp) (D:Ends),Inv X pins σ H s->t D σ H->o0 (sK X.prog X.w) X.A (execs st X.env) (SP X pins D) X.xe s
theorem thn {α:Type}{t:Sem α}{Q Q':α->dL->Prop}{M:C1}{A:yI}{E:bd->dL->Prop}{s:dL}(h:o0 M A t Q E s)(hQ:∀a s,Q a s->Q' a s):o0 M A t Q' E s:=yJ h hQ λ_ _ x=>x
section
variable {X:Cx}
def tVar (i:Nat):TE:=λσ H Q=>∃v,σ[i]? = some (some v)/\Q v H
def tC (v:V):TE:=λ_ H Q=>Q v H
theorem wF {i:Nat}{x:Str}{pos:Pos}(hN:X.N[i]? = some x)(hv:Vis X.env.scope x)(hd:(x==("__debug__" : Str))=false:=by decide)(hcd:(x==("__classdict__" : Str))=false:=by decide):PE X (.Name x pos) (tVar i):=by
 intro pins s σ H Q I h;obtain⟨v,e,h⟩:=h;obtain⟨m,hn,hl⟩:=I.loc;obtain⟨u,r,l⟩:=hl i x v hN e hv;have fin:EP X pins σ Q u s:=⟨v,H,I,r,h⟩
 rcases l with⟨hk,hm⟩ | ⟨hk,c,hc,hcell⟩
 ·exact EU (wpAny_loadName_local I.ok.kind hk hn hm fin) hd
 ·rcases hk with hk | hk
  ·exact EU (wpAny_loadName_cell I.ok.kind hk hc hcell fin) hd
  ·exact EU (wpAny_loadName_free I.ok.kind hk hc hcell fin hcd) hd
theorem bt {i j pos}:PE X (.Constant (.int i) j pos) (tC (.int i)):=λ_ _ _ H _ I h=>wpAny_Constant_int ⟨.int i,H,I.tok _,⟨_,rfl⟩,h⟩
theorem qI {b j pos}:PE X (.Constant (.bool b) j pos) (tC (.bl b)):=λ_ _ _ H _ I h=>Constant_bool ⟨.bl b,H,I,rfl,h⟩
theorem d_ {j pos}:PE X (.Constant .none j pos) (tC .non):=λ_ _ _ H _ I h=>Constant_none ⟨.non,H,I,rfl,h⟩
theorem dj {x j pos}:PE X (.Constant (.str x) j pos) (tC (.str x)):=λ_ _ _ H _ I h=>Calls.Constant_str ⟨.str x,H,I.tok _,⟨_,rfl⟩,h⟩
def Gl (X:Cx)(x:Str):Prop:=X.env.kindOf x=some .globalImplicit
theorem gk {E:bd->dL->Prop}{pins:List (Addr×Obj)}{s:dL}{σ:St}{H:Hp}{x:Str}{u:bd}{pos:Pos}{Q:bd->dL->Prop}(I:Inv X pins σ H s)(hg:Gl X x)(hm:X.mg x=some u)(h:Q u s)
  (hd:(x==("__debug__" : Str))=false:=by decide):o0 (sK X.prog X.w) X.A (eval (.Name x pos) X.env) Q E s :=
 C3 I.ok.kind hg (Calls.loadGlobal_global (by rw[I.ok.glob];exact I.mod.glob.keeps I.bk) hm h) hd
theorem f_ {E:bd->dL->Prop}{pins:List (Addr×Obj)}{s:dL}{σ:St}{H:Hp}{x:Str}{u:bd}{pos:Pos}{Q:bd->dL->Prop}(I:Inv X pins σ H s)(hg:Gl X x)(hm:X.mg x=none)(hv:zH x=some u)(h:Q u s)
  (hn:x ≠ "__name__" := by decide) (hd:(x==("__debug__" : Str))=false:=by decide):o0 (sK X.prog X.w) X.A (eval (.Name x pos) X.env) Q E s:=by
 obtain⟨mb,h1,h2⟩:=I.mod.blt;exact C3 I.ok.kind hg (Calls.loadGlobal_builtin (by rw[I.ok.glob];exact I.mod.glob.keeps I.bk) hm (by rw[I.ok.blt];exact h1.keeps I.bk) ((h2 x hn).trans hv) h) hd
theorem u_ {x:Str}{v:V}{u:bd}{pos:Pos}(hg:Gl X x)(hm:X.mg x=some u)(r:RelV v u)(hd:(x==("__debug__" : Str))=false:=by decide):PE X (.Name x pos) (tC v) :=
 λ_ _ _ H _ I h=>gk I hg hm ⟨v,H,I,r,h⟩ hd
variable {a b:Expr}{ta tb:TE}{pos:Pos}
def PC (X:Cx)(op:CmpOp)(a b:Expr)(t:TE):Prop :=
 ∀(pins:List (Addr×Obj)) (s:dL) (σ:St) (H:Hp) (Q:VK),Inv X pins σ H s->t σ H Q ->
  o0 (sK X.prog X.w) X.A (eval a X.env) (λv s₁=>o0 (sK X.prog X.w) X.A (eval b X.env) (λu s₂=>o0 (sK X.prog X.w) X.A (A2 op v u) (EP X pins σ Q) X.xe s₂) X.xe s₁) X.xe s
def tB (t:TE):TT:=λσ H Q=>t σ H λx H1=>∃c,x = .bl c/\Q c H1
theorem wA {op:CmpOp}{t:TE}(h:PC X op a b t)(h1:Cy op b=false:=by first | exact nobehind _ (by decide) (by decide) | rfl):PT X (.Compare a [op] [b] pos) (tB t):=by
 intro pins s σ H Q I hw;refine Er (thn (h pins s σ H _ I hw) λv s1 h1=>thn h1 λu s2 h2=>thn h2 λc s3 ⟨x,H1,I1,r1,q1⟩=>?_) h1;obtain⟨d,rfl,q⟩:=q1;cases r1
 exact CQ ⟨H1,I1,q⟩
variable {tA tB':TT}{rest:List Expr}
def tAnd (t u:TT):TT:=λσ H Q=>t σ H λc H1=>if c=true then u σ H1 Q else Q false H1
def tOr (t u:TT):TT:=λσ H Q=>t σ H λc H1=>if c=true then Q true H1 else u σ H1 Q
def tNot (t:TT):TT:=λσ H Q=>t σ H λc H1=>Q (!c) H1
theorem mO (ha:PT X a tA):PW X (.BoolOp .And [a] pos) tA:=by
 intro wh pins s σ H Q I h;refine isTrue_and (thn (ha pins s σ H Q I h) λc s1 e=>?_);cases c with
 | true=>exact isTrue_and_nil e
 | false=>exact e
theorem h_ (ha:PT X a tA):PW X (.BoolOp .Or [a] pos) tA:=by
 intro wh pins s σ H Q I h;refine isTrue_or (thn (ha pins s σ H Q I h) λc s1 e=>?_);cases c with
 | false=>exact isTrue_or_nil e
 | true=>exact e
theorem n5 (ha:PT X a tA)(hb:PW X (.BoolOp .And (b::rest) pos) tB'):PW X (.BoolOp .And (a::b::rest) pos) (tAnd tA tB'):=by
 intro wh pins s σ H Q I h;refine isTrue_and (thn (ha pins s σ H _ I h) λc s1 ⟨H1,I1,q1⟩=>?_);cases c with
 | true=>exact hb wh pins s1 σ H1 Q I1 q1
 | false=>exact⟨H1,I1,q1⟩
theorem jK (ha:PT X a tA)(hb:PW X (.BoolOp .Or (b::rest) pos) tB'):PW X (.BoolOp .Or (a::b::rest) pos) (tOr tA tB'):=by
 intro wh pins s σ H Q I h;refine isTrue_or (thn (ha pins s σ H _ I h) λc s1 ⟨H1,I1,q1⟩=>?_);cases c with
 | true=>exact⟨H1,I1,q1⟩
 | false=>exact hb wh pins s1 σ H1 Q I1 q1
theorem qA (ha:PT X a tA):PT X (.UnaryOp .Not a pos) (tNot tA):=by
 intro pins s σ H Q I h;exact isTrue_not (ha pins s σ H (λc H1=>Q (!c) H1) I h)
end
def SqL (K:ac)(H:Hp)(a:Addr)(xs:List V):Prop :=
 Rd H a (.lst xs) ∨
  ∃(o:Obj) (its:Array bd) (n:Nat),K.lookup a=some o/\o.cls = .type "list" /\ o.dict=none/\o.data = .seq its n/\its.size<=ww/\Vals xs its.toList
def SqT (K:ac)(H:Hp)(a:Addr)(xs:List V):Prop :=
 Rd H a (.tup xs) ∨
  ∃(o:Obj) (its:Array bd) (n:Nat),K.lookup a=some o/\o.cls = .type "tuple" /\ o.data = .seq its n/\its.size<=ww/\Vals xs its.toList
def absV:bd->Option V
 | .none=>some .non
 | .bool b=>some (.bl b)
 | .int i _=>some (.int i)
 | .str x _=>some (.str x)
 | .bytes b _=>some (.byt b)
 | .float b _=>some (.flt b)
 | .ref a=>some (.ref a)
 | .type n=>some (.ty n)
 | _=>none
theorem RelV.abs {x:V}{u:bd}(r:RelV x u):absV u=some x:=by
 cases x with
 | non=>cases r;rfl
 | bl _=>cases r;rfl
 | int _=>obtain⟨t,rfl⟩:=r;rfl
 | str _=>obtain⟨t,rfl⟩:=r;rfl
 | byt _=>obtain⟨t,rfl⟩:=r;rfl
 | flt _=>obtain⟨t,rfl⟩:=r;rfl
 | ref _=>cases r;rfl
 | ty _=>cases r;rfl
theorem RelV.inj {x y:V}{u:bd}(r:RelV x u)(q:RelV y u):x=y:=zC (r.abs.symm.trans q.abs)
theorem Vals.inj:∀ {xs ys:List V} {us:List bd},Vals xs us->Vals ys us->xs=ys
 | _,_,_,.nil,.nil=>rfl
 | _,_,_,.cons r t,.cons r' t'=>by rw[r.inj r',Vals.inj t t']
section
variable {X:Cx}{pins:List (Addr×Obj)}{σ:St}{H:Hp}{s:dL}{a:Addr}{xs ys:List V}
theorem SqL.of {K:ac}(h:H a=some (.lst xs)):SqL K H a xs:=.inl (.inl h)
theorem SqT.of {K:ac}(h:H a=some (.tup xs)):SqT K H a xs:=.inl (.inl h)
theorem Inv.list (I:Inv X pins σ H s)(h:SqL X.K H a xs):∃its:List bd,Vals xs its/\PlainL s.heap a its.toArray/\xs.length<=ww:=by
 rcases h with h | ⟨o,its,n,hk,hc,hd,hs,hz,r⟩
 ·obtain⟨z,its,n,r,e⟩:=h.ok I.hok;exact⟨its,r,⟨_,n,e,rfl,rfl,rfl⟩,z⟩
 ·refine⟨its.toList,r,⟨o,n,I.kIn a o hk,hc,hd,by simpa using hs⟩,?_⟩;have e:=r.length;simp only[B3]at e;omega
theorem Inv.tuple (I:Inv X pins σ H s)(h:SqT X.K H a xs):∃its:List bd,Vals xs its/\IsTup s.heap a its.toArray/\xs.length<=ww:=by
 rcases h with h | ⟨o,its,n,hk,hc,hs,hz,r⟩
 ·obtain⟨z,its,r,p⟩:=h.ok I.hok;exact⟨its,r,p,z⟩
 ·refine⟨its.toList,r,⟨o,I.kIn a o hk,hc,n,by simpa using hs⟩,?_⟩;have e:=r.length;simp only[B3]at e;omega
theorem Inv.list_inj (I:Inv X pins σ H s)(h:SqL X.K H a xs)(h':SqL X.K H a ys):xs=ys:=by
 obtain⟨its,r,⟨o,n,e,_,_,d⟩,_⟩:=I.list h;obtain⟨its',r',⟨o',n',e',_,_,d'⟩,_⟩:=I.list h';rw[e]at e';cases e';rw[d]at d';injection d' with d1 _;have:its=its':=by simpa using congrArg E4 d1
 subst this;exact r.inj r'
theorem Inv.tuple_inj (I:Inv X pins σ H s)(h:SqT X.K H a xs)(h':SqT X.K H a ys):xs=ys:=by
 obtain⟨its,r,⟨o,e,_,n,d⟩,_⟩:=I.tuple h;obtain⟨its',r',⟨o',e',_,n',d'⟩,_⟩:=I.tuple h';rw[e]at e';cases e';rw[d]at d';injection d' with d1 _;have:its=its':=by simpa using congrArg E4 d1
 subst this;exact r.inj r'
end
abbrev Cx.wish (X:Cx)(E:bd->dL->Prop):Cx:={X with xe:=E}
abbrev Cx.nox (X:Cx):Cx:=X.wish λ_ _=>False
theorem Cx.Ok.wish {X:Cx}(ok:X.Ok)(E:bd->dL->Prop):(X.wish E).Ok :=
 ⟨ok.mod,ok.kind,ok.glob,ok.blt,ok.above,ok.inj,ok.has,ok.cab,ok.hd,ok.frames,ok.stk,ok.exf,ok.bs,ok.bsz,ok.noex,ok.exfs,ok.funs,ok.frf⟩
theorem Cx.Ok.unwish {X:Cx}{E:bd->dL->Prop}(ok:(X.wish E).Ok):X.Ok :=
 ⟨ok.mod,ok.kind,ok.glob,ok.blt,ok.above,ok.inj,ok.has,ok.cab,ok.hd,ok.frames,ok.stk,ok.exf,ok.bs,ok.bsz,ok.noex,ok.exfs,ok.funs,ok.frf⟩
section
variable {X:Cx}{pins:List (Addr×Obj)}{σ:St}{H:Hp}{s:dL}{E:bd->dL->Prop}
theorem Inv.wish (I:Inv X pins σ H s)(E:bd->dL->Prop):Inv (X.wish E) pins σ H s:=⟨I.ok.wish E,I.os,I.bare,I.base,I.loc,I.cell,I.free,I.freeC,I.pin,I.hok,I.len⟩
theorem Inv.unwish (I:Inv (X.wish E) pins σ H s):Inv X pins σ H s:=⟨I.ok.unwish,I.os,I.bare,I.base,I.loc,I.cell,I.free,I.freeC,I.pin,I.hok,I.len⟩
theorem SP.unwish {D:Ends}{f:Flow}{s':dL}(h:SP (X.wish E) pins D f s'):SP X pins D f s':=by
 cases f with
 | next=>obtain⟨σ',H',I,q⟩:=h;exact⟨σ',H',I.unwish,q⟩
 | brk=>obtain⟨σ',H',I,q⟩:=h;exact⟨σ',H',I.unwish,q⟩
 | cont=>obtain⟨σ',H',I,q⟩:=h;exact⟨σ',H',I.unwish,q⟩
 | ret u=>obtain⟨v,σ',H',I,r,q⟩:=h;exact⟨v,σ',H',I.unwish,r,q⟩
theorem PE.nox {e:Expr}{t:TE}(h:PE X.nox e t):PE X e t:=λpins s σ H Q I hw =>
 yJ (h pins s σ H Q (I.wish _) hw) (λ_ _ ⟨v,H',I',r,q⟩=>⟨v,H',I'.unwish,r,q⟩) λ_ _ z=>yD z
theorem PT.nox {e:Expr}{t:TT}(h:PT X.nox e t):PT X e t:=λpins s σ H Q I hw =>
 yJ (h pins s σ H Q (I.wish _) hw) (λ_ _ ⟨H',I',q⟩=>⟨H',I'.unwish,q⟩) λ_ _ z=>yD z
theorem PSs.nox {st:List Stmt}{t:TS}(h:PSs X.nox st t):PSs X st t:=λpins s σ H D I hw =>
 yJ (h pins s σ H D (I.wish _) hw) (λ_ _ q=>q.unwish) λ_ _ z=>yD z
end
section
variable {X:Cx}{st:Stmt}{rest:List Stmt}{t u:TS}{e:Expr}{te:TE}{pos:Pos}
def tNext:TS:=λD σ H=>D.nx σ H
def tSeq (t u:TS):TS:=λD σ H=>t {D with nx:=u D} σ H
theorem cM:PSs X [] tNext:=λ_ _ σ H _ I h=>AB ⟨σ,H,I,h⟩
theorem aJ (h1:PS X st t)(h2:PSs X rest u):PSs X (st::rest) (tSeq t u):=by
 intro pins s σ H D I h;refine BR (thn (h1 pins s σ H {D with nx:=u D} I h) λf s1 q=>?_);cases f with
 | next =>
  obtain⟨σ',H',I',q⟩:=q;exact h2 pins s1 σ' H' D I' q
 | ret v=>exact q
 | brk=>exact q
 | cont=>exact q
theorem aW (h1:PS X st t):PSs X [st] t:=by
 intro pins s σ H D I h;refine BR (thn (h1 pins s σ H D I h) λf s1 q=>?_);cases f with
 | next=>exact AB q
 | ret v=>exact q
 | brk=>exact q
 | cont=>exact q
theorem Inv.quiet {pins:List (Addr×Obj)}{σ:St}{H:Hp}{s:dL}(I:Inv X pins σ H s):interactive X.env=false:=by simp[interactive,I.ok.kind]
def uQ (te:TE):TS:=λD σ H=>te σ H λ_ H1=>D.nx σ H1
theorem bX (he:PE X e te)(hs:AJ e none pos.line X.env=pure false:=by rfl):PS X (.Expr e pos) (uQ te):=by
 intro pins s σ H D I h;exact wpAny_Expr_any (thn (he pins s σ H _ I h) λv s1 ⟨x,H1,I1,r1,q1⟩=>⟨σ,H1,I1,q1⟩) I.quiet hs
def tRet (te:TE):TS:=λD σ H=>te σ H D.rt
theorem cv (he:PE X e te):PS X (.Return (some e) pos) (tRet te):=by
 intro pins s σ H D I h;exact wpAny_Return_some (thn (he pins s σ H _ I h) λv s1 ⟨x,H1,I1,r1,q1⟩=>⟨x,σ,H1,I1,r1,q1⟩)
def tIfS (c:TT)(t u:TS):TS:=λD σ H=>c σ H λb H1=>if b=true then t D σ H1 else u D σ H1
theorem gi {c:Expr}{a b:List Stmt}{tc:TT}(hc:PT X c tc)(ha:PSs X a t)(hb:PSs X b u):PS X (.If c a b pos) (tIfS tc t u):=by
 intro pins s σ H D I h;refine wpAny_If (thn (hc pins s σ H _ I h) λd s1 ⟨H1,I1,q1⟩=>?_);cases d with
 | true=>exact ha pins s1 σ H1 D I1 q1
 | false=>exact hb pins s1 σ H1 D I1 q1
def tNever:TS:=λ_ _ _=>False
theorem fN:PS X st tNever:=λ_ _ _ _ _ _ h=>h.elim
end
abbrev TG:=V->St->Hp->(St->Hp->Prop)->Prop
abbrev TGs:=List V->St->Hp->(St->Hp->Prop)->Prop
def PG (X:Cx)(target:Expr)(t:TG):Prop :=
 ∀(pins:List (Addr×Obj)) (s:dL) (σ:St) (H:Hp) (v:V) (u:bd) (Q:St->Hp->Prop),Inv X pins σ H s->RelV v u->t v σ H Q ->
  o0 (sK X.prog X.w) X.A (BJ target X.env u) (λ_ s'=>∃ σ' H',Inv X pins σ' H' s'/\Q σ' H') X.xe s
def PGs (X:Cx)(ts:List Expr)(t:TGs):Prop :=
 ∀(pins:List (Addr×Obj)) (s:dL) (σ:St) (H:Hp) (vs:List V) (us:List bd) (Q:St->Hp->Prop),Inv X pins σ H s->Vals vs us->t vs σ H Q ->
  o0 (sK X.prog X.w) X.A (assignInOrder ((A3 ts X.env).map (·.2)) us) (λ_ s'=>∃ σ' H',Inv X pins σ' H' s'/\Q σ' H') X.xe s
section
variable {X:Cx}{pos:Pos}
def q_ (i:Nat):TG:=λv σ H Q=>Q (σ.set i (some v)) H
theorem aK {i:Nat}{x:Str}(hN:X.N.Nodup)(hi:X.N[i]? = some x)(hx:Loc X.env.scope x)(hf:X.fn x=true∨X.env.scope.names.lookup x=some .local:=by first | exact .inl rfl | exact .inr rfl | assumption):PG X (.Name x pos) (q_ i):=by
 intro pins s σ H v u Q I r h;exact E5 (nV I hN hi hx r (λs' I'=>⟨_,H,I',h⟩) hf)
def gNil:TGs:=λvs σ H Q=>vs=[]/\Q σ H
def xk (t:TG)(u:TGs):TGs:=λvs σ H Q=>∃v r,vs=v::r/\t v σ H λσ' H'=>u r σ' H' Q
theorem bI:PGs X [] gNil:=by
 intro pins s σ H vs us Q I r h;obtain⟨e,h⟩:=h;subst e;cases r
 exact assignInOrder_nil ⟨σ,H,I,h⟩
theorem aI {e:Expr}{es:List Expr}{t:TG}{u:TGs}(h1:PG X e t)(h2:PGs X es u)
  (hs:(A3 (e::es) X.env).map (·.2)=BJ e X.env::(A3 es X.env).map (·.2):=by rfl):PGs X (e::es) (xk t u):=by
 intro pins s σ H vs us Q I r h;obtain⟨v,vr,e1,h⟩:=h;subst e1;cases r with
 | cons r rr =>
  rw[hs];refine assignInOrder_cons (thn (h1 pins s σ H _ _ _ I r h) λ_ s1 ⟨σ1,H1,I1,q1⟩=>?_);exact h2 pins s1 σ1 H1 _ _ Q I1 rr q1
def gTup (K:ac)(n:Nat)(t:TGs):TG:=λv σ H Q=>∃a xs,v = .ref a/\SqT K H a xs/\xs.length=n/\t xs σ H Q
theorem wC {es:List Expr}{k:Nat}{t:TGs}{n:Nat}(hc:X.calm=true)(h:PGs X es t)
  (hn:(A3 es X.env).length=n:=by rfl) (hst:(A3 es X.env).findIdx? (·.1)=none:=by rfl):PG X (.Tuple es k pos) (gTup X.K n t):=by
 intro pins s σ H v u Q I r hw;obtain⟨a,xs,e1,hq,hl,hw⟩:=hw;subst e1;cases r
 obtain⟨its,rv,ht,hz⟩:=I.tuple hq;refine assign_Tuple_tuple (I.ok.hd hc) ht (by simp[hn,<- hl,rv.length]) hst λh' hx=>?_;have I1:Inv X pins σ H {s with heap:=h'}:=I.kept (t':=s.toks) λb o e=>hx b o (yn (lc e)) e;exact h pins _ σ H xs _ Q I1 (by simpa using rv) hw
def tAsg (te:TE)(g:TG):TS:=λD σ H=>te σ H λx H1=>g x σ H1 D.nx
theorem dF {tg e:Expr}{te:TE}{g:TG}(he:PE X e te)(hg:PG X tg g)(hs:swapsWithSole [tg] e pos.line X.env=pure false:=by rfl)(hw:swappedStores [tg] e X.env=pure none:=by rfl)
  (h1:(A3 [tg] X.env).map (·.2)=[BJ tg X.env]:=by rfl):PS X (.Assign [tg] e pos) (tAsg te g):=by
 intro pins s σ H D I h;refine wpAny_Assign_stores (thn (he pins s σ H _ I h) λv s1 ⟨x,H1,I1,r1,q1⟩=>?_) hs hw;rw[h1];exact thn (hg pins s1 σ H1 x v _ I1 r1 q1) λ_ s2 q=>q
theorem bg {i:Nat}{x:Str}{e:Expr}{te:TE}{pos':Pos}(hN:X.N.Nodup)(hi:X.N[i]? = some x)(hx:Loc X.env.scope x)(he:PE X e te)(hs:AJ e (some (.Name x pos')) pos.line X.env=pure false:=by rfl)(hf:X.fn x=true∨X.env.scope.names.lookup x=some .local:=by first | exact .inl rfl | exact .inr rfl | assumption) :
  PS X (.Assign [.Name x pos'] e pos) (tAsg te (q_ i)):=by
 intro pins s σ H D I h;refine CT (thn (he pins s σ H _ I h) λv s1 ⟨y,H1,I1,r1,q1⟩=>?_) hs;exact nV I1 hN hi hx r1 (λs2 I2=>⟨_,H1,I2,q1⟩) hf
end
structure It where
 go:Nat->Hp->Prop
 yld:Nat->Hp->V->Hp->Prop
 stop:Nat->Hp->Prop
def FpOk (X:Cx)(pins:List (Addr×Obj))(H:Hp)(b:Addr):Prop :=
 H b=none/\b≠X.env.locals/\b∉X.fs/\(b∈X.ex∨X.s₀.heap.objs.size<=b)/\(∀x c,X.env.cells.lookup x=some c->c≠b)/\∀p∈X.pn++pins,p.1≠b
theorem Inv.fpOk {X:Cx}{pins:List (Addr×Obj)}{σ:St}{H H':Hp}{s:dL}{b:Addr}(I:Inv X pins σ H s)(hb:s.heap.objs.size<=b)(hn:H' b=none):FpOk X pins H' b:=by
 refine⟨hn,yQ (nw I.lt hb),I.nofs hb,.inr (yt I.sz hb),λx c e z=>?_,λp hp z=>?_⟩
 ·obtain⟨v,q⟩:=I.cell x c e;exact absurd (nw q.lt (by rw[z];exact hb)) (zu _)
 ·exact absurd (nw (lc (I.pin p hp).1) (by rw[z];exact hb)) (zu _)
structure Turn (P:wl)(w:yF)(K:ac)(tg:Expr)(J:It)(fp:List Addr)(it:Addr)(tn:Nat->Heap->Prop):Prop where
 mem:it∈fp
 obj:∀i h,tn i h->∀b∈fp,∃o,h.get? b=some o/\∀v,o.data ≠ .cell v
 keep:∀i h h',tn i h->(∀b∈fp,∀o,h.get? b=some o->h'.get? b=some o)->tn i h'
 item:∀(X:Cx),X.prog=P->X.w=w->X.K=K->X.calm=true->∀(i:Nat) (pins:List (Addr×Obj)) (s:dL) (σ:St) (H:Hp) (E:bd->dL->Prop),Inv X pins σ H s->(∀b∈fp,FpOk X pins H b)->tn i s.heap->J.go i H ->
  o0 (sK P w) X.A (Cj (.ref it)) (λr s1=>∃u,r=some u /\
   o0 (sK P w) X.A (Bm tg (.ref it) u) (λ_ s2=>∃x H',Inv X pins σ H' s2/\RelV x u/\J.yld i H x H'/\tn (i+1) s2.heap/\∀b∈fp,H' b=none) E s1) E s
 done:∀(X:Cx),X.prog=P->X.w=w->X.K=K->X.calm=true->∀(i:Nat) (pins:List (Addr×Obj)) (s:dL) (σ:St) (H:Hp) (E:bd->dL->Prop),Inv X pins σ H s->(∀b∈fp,FpOk X pins H b)->tn i s.heap->J.stop i H ->
  o0 (sK P w) X.A (Cj (.ref it)) (λr s1=>r=none/\Inv X pins σ H s1) E s
 self:∀(A:yI) (i:Nat) (s:dL) (Q:bd->dL->Prop) (E:bd->dL->Prop),tn i s.heap->Q (.ref it) s->o0 (sK P w) A (pyIter (.ref it)) Q E s
abbrev TI:=St->Hp->(It->Hp->Prop)->Prop
def PIE (X:Cx)(pins:List (Addr×Obj))(σ:St)(tg:Expr)(R:It->Hp->Prop)(itv:bd)(s2:dL):Prop :=
 ∃(it:Addr) (fp:List Addr) (tn:Nat->Heap->Prop) (J:It) (H':Hp),itv = .ref it/\Inv X pins σ H' s2/\Turn X.prog X.w X.K tg J fp it tn/\tn 0 s2.heap/\(∀b∈fp,FpOk X pins H' b)/\R J H'
def PI (X:Cx)(tg iter:Expr)(wi:TI):Prop :=
 ∀(pins:List (Addr×Obj)) (s:dL) (σ:St) (H:Hp) (R:It->Hp->Prop),Inv X pins σ H s->wi σ H R ->
  o0 (sK X.prog X.w) X.A (eval iter X.env) (λv s1=>o0 (sK X.prog X.w) X.A (pyIter v) (PIE X pins σ tg R) X.xe s1) X.xe s
theorem q8 {M:C1}{A:yI}{E:bd->dL->Prop}{s:dL}{tg:Expr}{it:Addr}{u:bd}{o:Obj}{n:String}{vs:Array bd}{Q:Unit->dL->Prop}(ho:s.heap.get? it=some o)(hc:o.cls = .type n)(hd:o.data = .fields vs)
  (hn:["enumerate", "zip", "dict_itemiterator", "dict_reverseitemiterator", "odict_iterator", "itertools.zip_longest", "itertools.pairwise"].contains n=false) (hQ:Q () s):o0 M A (Bm tg (.ref it) u) Q E s:=by
 unfold Bm;cases tg <;> first
  | exact wv hQ
  | (cases u <;> first
    | exact wv hQ
    | (refine bn (wpAny_load ho ?_);rw[hc,hd];show o0 M A (if(["enumerate", "zip", "dict_itemiterator", "dict_reverseitemiterator", "odict_iterator", "itertools.zip_longest", "itertools.pairwise"].contains n&&vs[0]? == some (yO _))=true then _ else _) Q E s;rw[if_neg (by intro h;rw[hn,ES]at h;cases h)];exact wv hQ))
def Itl (K:ac)(a:Addr):It :=
 ⟨λi H=>∃xs x,SqL K H a xs/\xs[i]? = some x,λi H x H'=>H'=H/\∀xs,SqL K H a xs->xs[i]? = some x,λi H=>∃xs,SqL K H a xs/\xs.length<=i⟩
def Itt (K:ac)(a:Addr):It :=
 ⟨λi H=>∃xs x,SqT K H a xs/\xs[i]? = some x,λi H x H'=>H'=H/\∀xs,SqT K H a xs->xs[i]? = some x,λi H=>∃xs,SqT K H a xs/\xs.length<=i⟩
def Itr (lo:Int)(n:Nat):It:=⟨λi _=>i<n,λi H x H'=>H'=H/\x = .int (lo+i),λi _=>n<=i⟩
theorem pW {P:wl}{w:yF}{K:ac}{tg:Expr}(a it:Addr):Turn P w K tg (Itl K a) [it] it (λi h=>h.IsListIter it a i) where
 mem:=by simp
 obj:=λi h st b hb=>by
  have e:b=it:=by simpa using hb
  subst e;obtain⟨o,e,c,d⟩:=st;exact⟨o,e,λv z=>by rw[d]at z;cases z⟩
 keep:=λi h h' st k=>st.at λo e=>k it (by simp) o e
 item:=by
  intro X hP hw hK hc i pins s σ H E I hf st hg;subst hP hw hK;obtain⟨xs,x,hq,hx⟩:=hg;obtain⟨its,rv,p,hz⟩:=I.list hq;obtain⟨u,hu,ru⟩:=rv.get hx;obtain⟨f0,f1,f2,f3,f4,f5⟩:=hf it (by simp);refine wpAny_pyNext_list_item st p.isList (x:=u) (by simpa using hu) λh' st' sb=>?_;have I1:Inv X pins σ H {s with heap:=h'}:=I.turned (t':=s.toks) (λb o hb e=>(sb.2 b hb).trans e) f0 f1 f3 f4 f5;obtain⟨o,e,c,d⟩:=id st';exact⟨u,rfl,q8 (s:={s with heap:=h'}) e c d (by decide) ⟨x,H,I1,ru,⟨rfl,λys hy=>by rw[I.list_inj hy hq];exact hx⟩,st',λb hb=>(hf b hb).1⟩⟩
 done:=by
  intro X hP hw hK hc i pins s σ H E I hf st hg;subst hP hw hK;obtain⟨xs,hq,hx⟩:=hg;obtain⟨its,rv,p,hz⟩:=I.list hq;obtain⟨f0,f1,f2,f3,f4,f5⟩:=hf it (by simp);have hl:=rv.length;exact wpAny_pyNext_list_end (I.ok.hd hc) st p.isList (by simp;omega) λh' eb=>⟨rfl,I.turned (t':=s.toks) (λb o hb e=>eb b o hb e) f0 f1 f3 f4 f5⟩
 self:=λ_ _ _ _ _ st h=>wpAny_pyIter_listiter st h
theorem oX {P:wl}{w:yF}{K:ac}{tg:Expr}(a it:Addr):Turn P w K tg (Itt K a) [it] it (λi h=>h.IsTupleIter it a i) where
 mem:=by simp
 obj:=λi h st b hb=>by
  have e:b=it:=by simpa using hb
  subst e;obtain⟨o,e,c,d⟩:=st;exact⟨o,e,λv z=>by rw[d]at z;cases z⟩
 keep:=λi h h' st k=>st.at λo e=>k it (by simp) o e
 item:=by
  intro X hP hw hK hc i pins s σ H E I hf st hg;subst hP hw hK;obtain⟨xs,x,hq,hx⟩:=hg;obtain⟨its,rv,p,hz⟩:=I.tuple hq;obtain⟨u,hu,ru⟩:=rv.get hx;obtain⟨f0,f1,f2,f3,f4,f5⟩:=hf it (by simp);refine wpAny_pyNext_tuple_item st (show s.heap.IsTuple a its.toArray from p) (x:=u) (by simpa using hu) λh' st' sb=>?_;have I1:Inv X pins σ H {s with heap:=h'}:=I.turned (t':=s.toks) (λb o hb e=>(sb.2 b hb).trans e) f0 f1 f3 f4 f5;obtain⟨o,e,c,d⟩:=id st';exact⟨u,rfl,q8 (s:={s with heap:=h'}) e c d (by decide) ⟨x,H,I1,ru,⟨rfl,λys hy=>by rw[I.tuple_inj hy hq];exact hx⟩,st',λb hb=>(hf b hb).1⟩⟩
 done:=by
  intro X hP hw hK hc i pins s σ H E I hf st hg;subst hP hw hK;obtain⟨xs,hq,hx⟩:=hg;obtain⟨its,rv,p,hz⟩:=I.tuple hq;obtain⟨f0,f1,f2,f3,f4,f5⟩:=hf it (by simp);have hl:=rv.length;exact wpAny_pyNext_tuple_end (I.ok.hd hc) st (show s.heap.IsTuple a its.toArray from p) (by simp;omega) λh' eb=>⟨rfl,I.turned (t':=s.toks) (λb o hb e=>eb b o hb e) f0 f1 f3 f4 f5⟩
 self:=λ_ _ _ _ _ st h=>wpAny_pyIter_tupleiter st h
theorem oY {P:wl}{w:yF}{K:ac}{tg:Expr}(it:Addr)(lo:Int)(n:Nat):Turn P w K tg (Itr lo n) [it] it (λi h=>Dd h it (lo+(i:Nat)*1) ((n:Int) - (i:Nat)) 1) where
 mem:=by simp
 obj:=λi h st b hb=>by
  have e:b=it:=by simpa using hb
  subst e;exact⟨_,st,λv z=>by
   have z':Data.fields _=Data.cell v:=z;cases z'⟩
 keep:=λi h h' st k=>k it (by simp) _ st
 item:=by
  intro X hP hw hK hc i pins s σ H E I hf st hg;subst hP hw hK;obtain⟨f0,f1,f2,f3,f4,f5⟩:=hf it (by simp);have W:=E_ (prog:=X.prog) (w:=X.w) (I.ok.hd hc) it lo 1 n;refine W.item i s _ _ hg st λv h' tk hv st' kk=>?_;obtain⟨t,rfl⟩:=hv;have I1:Inv X pins σ H {s with heap:=h',toks:=tk}:=I.turned (λb o hb e=>kk b o (by simpa using hb) e) f0 f1 f3 f4 f5;refine⟨_,rfl,q8 (s:={s with heap:=h',toks:=tk}) (n := "range_iterator") st' rfl rfl (by decide) ⟨.int (lo+i),H,I1,⟨t,?_⟩,⟨rfl,rfl⟩,st',λb hb=>(hf b hb).1⟩⟩;rw[FC]
 done:=by
  intro X hP hw hK hc i pins s σ H E I hf st hg;subst hP hw hK;obtain⟨f0,f1,f2,f3,f4,f5⟩:=hf it (by simp);exact D7 (I.ok.hd hc) st (by have:n<=i:=hg;omega) λh' eb=>⟨rfl,I.turned (t':=s.toks) (λb o hb e=>eb b o hb e) f0 f1 f3 f4 f5⟩
 self:=λ_ _ _ _ _ st h=>BV st h
section
variable {X:Cx}{tg:Expr}
theorem sH {pins:List (Addr×Obj)}{σ:St}{H:Hp}{s:dL}{R:It->Hp->Prop}{E:bd->dL->Prop}{lo hi:Int}{t u v:Tok}{tk:Nat}(I:Inv X pins σ H s)(h1:-(2^62)<=lo)(h2:lo<2^62)(h3:-(2^62)<=hi)(h4:hi<2^62)
  (q:R (Itr lo (hi - lo).toNat) H):o0 (sK X.prog X.w) X.A (pyIter (.ref s.heap.objs.size)) (PIE X pins σ tg R) E {s with heap:=s.heap.push {cls:=.type "range",data:=.fields #[.int lo t,.int hi u,.int 1 v]},toks:=tk}:=by
 refine wpAny_pyIter_range (EN ..) (small_one h1 h2 h3 h4) ?_;have I1:Inv X pins σ H {s with heap:=s.heap.push {cls:=.type "range",data:=.fields #[.int lo t,.int hi u,.int 1 v]},toks:=tk}:=I.kept λb o e=>im _ e;refine⟨(s.heap.push {cls:=.type "range",data:=.fields #[.int lo t,.int hi u,.int 1 v]}).objs.size,[(s.heap.push {cls:=.type "range",data:=.fields #[.int lo t,.int hi u,.int 1 v]}).objs.size],_,_,H,rfl,
  I1.kept (t':=tk) λb o e=>im _ e,oY _ lo (hi - lo).toNat,?_,λb hb=>?_,q⟩
 ·have e1:lo+((0:Nat):Int)*1=lo:=by simp
  have e2:(((hi - lo).toNat:Nat):Int) - ((0:Nat):Int)=zW lo hi 1:=by rw[rangeSize_one];split <;> omega
  show Dd _ _ (lo+((0:Nat):Int)*1) ((((hi - lo).toNat:Nat):Int) - ((0:Nat):Int)) 1;rw[e1,e2];exact xL _ rfl
 ·have e:b=(s.heap.push {cls:=.type "range",data:=.fields #[.int lo t,.int hi u,.int 1 v]}).objs.size:=by simpa using hb
  subst e;exact I1.fpOk (lw _) (I1.hok.fresh (lw _))
def xc (ta:TA):TI:=λσ H R=>ta σ H λvs H1=>∃j:Int,vs=[.int j]/\-(2^62)<=j/\j<2^62/\R (Itr 0 j.toNat) H1
theorem di {a:Expr}{ta:TA}{p pos:Pos}(hg:Gl X "range")(hm:X.mg "range" = none)(ha:PA X [a] ta)(hs:yu [a] X.env=[(false,eval a X.env)]:=by rfl):PI X tg (.Call (.Name "range" p) [a] [] pos) (xc ta):=by
 intro pins s σ H R I h;refine D6 (f_ I hg hm boot_range (yU (thn (ha pos pins s σ H _ I h) λus s1 ⟨vs,H1,I1,r1,q1⟩=>?_) hs rfl));obtain⟨j,e,q1,q2,q⟩:=q1;subst e;cases r1 with
 | cons r rr =>
  cases rr
  obtain⟨t,rfl⟩:=r;exact call_range_1 (sH I1 (by omega) (by omega) q1 q2 (by simpa using q))
def tFor (wi:TI)(g:TG)(tb:TS):TS:=λD σ H=>wi σ H λJ H1=>∃W:Nat->Nat->St->Hp->Prop,(∃m,W 0 m σ H1)/\∀i m σ H,W i m σ H ->
 (J.stop i H/\D.nx σ H)∨(J.go i H/\∃N:St->Hp->Prop,(∀ σ' H',N σ' H'->∃m',m'<m/\W (i+1) m' σ' H')/\∀x H',J.yld i H x H'->g x σ H' λσ2 H2=>tb {D with nx:=N,ct:=N,bk:=D.nx} σ2 H2)
def ja (fp:List Addr)(h:Heap):List (Addr×Obj):=fp.filterMap λb=>(h.get? b).map λo=>(b,o)
theorem cP {fp:List Addr}{h:Heap}{b:Addr}{o:Obj}(hb:b∈fp)(e:h.get? b=some o):(b,o)∈ja fp h:=D3.mpr ⟨b,hb,by rw[e];rfl⟩
theorem qO {fp:List Addr}{h:Heap}{p:Addr×Obj}(hp:p∈ja fp h):p.1∈fp/\h.get? p.1=some p.2:=by
 obtain⟨b,hb,e⟩:=D3.mp hp;cases q:h.get? b with
 | none=>rw[q]at e;cases e
 | some o =>
  rw[q]at e;have e':(b,o)=p:=zC e;subst e';exact⟨hb,q⟩
theorem Inv.pinned {pins:List (Addr×Obj)}{σ:St}{H:Hp}{s:dL}{fp:List Addr}(I:Inv X pins σ H s)(hf:∀b∈fp,FpOk X pins H b)(ho:∀b∈fp,∃o,s.heap.get? b=some o/\∀v,o.data ≠ .cell v):Inv X (pins++ja fp s.heap) σ H s :=
 I.pins_of λp hp=>(zL.mp hp).elim (λz=>I.pin p (wr _ z)) λz=>by
  obtain⟨hb,e⟩:=qO z;obtain⟨f0,f1,f2,_⟩:=hf p.1 hb;obtain⟨o,e',d⟩:=ho p.1 hb;rw[e]at e';cases e';exact⟨e,f0,f1,f2,d⟩
theorem Inv.unpinned {pins pl:List (Addr×Obj)}{σ:St}{H:Hp}{s:dL}(I:Inv X (pins++pl) σ H s):Inv X pins σ H s:=I.pins_of λp hp=>I.pin p (wr _ (z5 _ hp))
theorem ia {iter:Expr}{body:List Stmt}{wi:TI}{g:TG}{tb:TS}{pos:Pos}(hp:PassesOwn (sK X.prog X.w) X.A X.env X.xe)(hc:X.calm=true)(hi:PI X tg iter wi)(hg:PG X tg g)(hb:PSs X body tb)
  (hs:∀x,z9 iter X.env x=pure x:=by intro _;rfl):PS X (.For tg iter body [] pos) (tFor wi g tb):=by
 intro pins s σ H D I h;refine wpAny_For (thn (hi pins s σ H _ I h) λv s1 h1=>thn h1 λitv s2 h2=>?_) hs;obtain⟨it,fp,tn,J,H2,e,I2,T,st2,f2,W,⟨m0,w0⟩,turn⟩:=h2;subst e;have stat:∀ {H':Hp},(∀b∈fp,H' b=none)->∀b∈fp,FpOk X pins H' b:=λhn b hb=>⟨hn b hb,(f2 b hb).2⟩
 refine EK (λn s'=>∃i σ' H',Inv X pins σ' H' s'/\tn i s'.heap/\(∀b∈fp,H' b=none)/\W i n σ' H') ?_ m0 ⟨0,σ,H2,I2,st2,λb hb=>(f2 b hb).1,w0⟩;rintro n s3 ⟨i,σ3,H3,I3,st3,fr3,w3⟩;rcases turn i n σ3 H3 w3 with⟨stop,qn⟩ | ⟨go,N,hN,step⟩
 ·refine Bl hp (thn (T.done X rfl rfl rfl hc i pins s3 σ3 H3 X.xe I3 (stat fr3) st3 stop) λr s4 ⟨hr,I4⟩=>?_);subst hr;exact AB ⟨σ3,H3,I4,qn⟩
 ·refine Bl hp (thn (T.item X rfl rfl rfl hc i pins s3 σ3 H3 X.xe I3 (stat fr3) st3 go) λr s4 ⟨u,hr,h4⟩=>?_);subst hr;refine Bl hp (thn h4 λ_ s5 ⟨x,H5,I5,r5,y5,st5,fr5⟩=>?_);have I5':=I5.pinned (stat fr5) (T.obj _ _ st5);refine Bl hp (thn (hg _ s5 σ3 H5 x u _ I5' r5 (step x H5 y5)) λ_ s6 ⟨σ6,H6,I6,q6⟩=>?_);refine Bl hp (thn (hb _ s6 σ6 H6 _ I6 q6) λf s7 q7=>?_);have EF:∀ {σ7:St} {H7:Hp},Inv X (pins++ja fp s5.heap) σ7 H7 s7->N σ7 H7->∃m,m<n/\∃i σ' H',Inv X pins σ' H' s7/\tn i s7.heap/\(∀b∈fp,H' b=none)/\W i m σ' H':=λ{σ7 H7} I7 n7=>by
   obtain⟨m',hm,w7⟩:=hN σ7 H7 n7;refine⟨m',hm,i+1,σ7,H7,I7.unpinned,T.keep _ _ _ st5 λb hb o e=>(I7.pin (b,o) (wr _ (wr _ (cP hb e)))).1,λb hb=>?_,w7⟩;obtain⟨o,e,d⟩:=T.obj _ _ st5 b hb;exact(I7.pin (b,o) (wr _ (wr _ (cP hb e)))).2.1
  cases f with
  | next=>obtain⟨σ7,H7,I7,n7⟩:=q7;exact EF I7 n7
  | cont=>obtain⟨σ7,H7,I7,n7⟩:=q7;exact EF I7 n7
  | brk=>obtain⟨σ7,H7,I7,q7⟩:=q7;exact⟨σ7,H7,I7.unpinned,q7⟩
  | ret v=>obtain⟨x7,σ7,H7,I7,r7,q7⟩:=q7;exact⟨x7,σ7,H7,I7.unpinned,r7,q7⟩
end
abbrev R2:=V->V->Hp->VK->Prop
def OpR (X:Cx)(f:bd->bd->Sem bd)(r:R2):Prop :=
 ∀(pins:List (Addr×Obj)) (s:dL) (σ:St) (H:Hp) (x y:V) (v u:bd) (Q:VK),Inv X pins σ H s->RelV x v->RelV y u->r x y H Q ->
  o0 (sK X.prog X.w) X.A (f v u) (EP X pins σ Q) X.xe s
def UnR (X:Cx)(f:bd->Sem bd)(r:V->Hp->VK->Prop):Prop :=
 ∀(pins:List (Addr×Obj)) (s:dL) (σ:St) (H:Hp) (x:V) (v:bd) (Q:VK),Inv X pins σ H s->RelV x v->r x H Q ->
  o0 (sK X.prog X.w) X.A (f v) (EP X pins σ Q) X.xe s
def iD (X:Cx)(f:bd)(r:List V->Hp->VK->Prop):Prop :=
 ∀(pins:List (Addr×Obj)) (s:dL) (σ:St) (H:Hp) (xs:List V) (us:List bd) (Q:VK),Inv X pins σ H s->Vals xs us->r xs H Q ->
  o0 (sK X.prog X.w) X.A (call f us) (EP X pins σ Q) X.xe s
def TruR (X:Cx)(r:V->Hp->(Bool->Hp->Prop)->Prop):Prop :=
 ∀(pins:List (Addr×Obj)) (s:dL) (σ:St) (H:Hp) (x:V) (v:bd) (Q:Bool->Hp->Prop),Inv X pins σ H s->RelV x v->r x H Q ->
  o0 (sK X.prog X.w) X.A (truthy v) (TP X pins σ Q) X.xe s
def tOp (r:R2)(ta tb:TE):TE:=λσ H Q=>ta σ H λx H1=>tb σ H1 λy H2=>r x y H2 Q
def tUn (r:V->Hp->VK->Prop)(ta:TE):TE:=λσ H Q=>ta σ H λx H1=>r x H1 Q
def rI (C:Int->Int->Prop)(g:Int->Int->V):R2:=λx y H Q=>∃i j,x = .int i/\y = .int j/\C i j/\Q (g i j) H
def rI0 (g:Int->Int->V):R2:=λx y H Q=>∃i j,x = .int i/\y = .int j/\Q (g i j) H
def rU (g:Int->V):V->Hp->VK->Prop:=λx H Q=>∃i,x = .int i/\Q (g i) H
section
variable {X:Cx}{a b c:Expr}{ta tb tc:TE}{pos:Pos}
theorem binT (ha:PE X a ta)(hb:PE X b tb){pins:List (Addr×Obj)}{s:dL}{σ:St}{H:Hp}{R:V->V->Hp->Prop}(I:Inv X pins σ H s)
  (h:ta σ H λx H1=>tb σ H1 λy H2=>R x y H2) {Q:bd->dL->Prop} {f:bd->bd->Sem bd}
  (hf:∀v u s2 x y H2,Inv X pins σ H2 s2->RelV x v->RelV y u->R x y H2->o0 (sK X.prog X.w) X.A (f v u) Q X.xe s2) :
  o0 (sK X.prog X.w) X.A (eval a X.env) (λv s₁=>o0 (sK X.prog X.w) X.A (eval b X.env) (λu s₂=>o0 (sK X.prog X.w) X.A (f v u) Q X.xe s₂) X.xe s₁) X.xe s:=by
 refine thn (ha pins s σ H _ I h) λv s1 ⟨x,H1,I1,r1,q1⟩=>?_;refine thn (hb pins s1 σ H1 _ I1 q1) λu s2 ⟨y,H2,I2,r2,q2⟩=>?_;exact hf v u s2 x y H2 I2 r1 r2 q2
theorem bE {op:Operator}{r:R2}(ho:OpR X (Aj op) r)(ha:PE X a ta)(hb:PE X b tb):PE X (.BinOp a op b pos) (tOp r ta tb):=by
 intro pins s σ H Q I h;exact wpAny_BinOp (binT ha hb I h λv u s2 x y H2 I2 rx ry q=>ho pins s2 σ H2 x y v u Q I2 rx ry q)
theorem xP {op:UnaryOp}{r:V->Hp->VK->Prop}(ho:UnR X (unaryOp op) r)(ha:PE X a ta):PE X (.UnaryOp op a pos) (tUn r ta):=by
 intro pins s σ H Q I h;exact UnaryOp_ (thn (ha pins s σ H _ I h) λv s1 ⟨x,H1,I1,r1,q1⟩=>ho pins s1 σ H1 x v Q I1 r1 q1)
theorem opI {f:bd->bd->Sem bd}{C:Int->Int->Prop}{g:Int->Int->Int}
  (rule:∀(i j:Int) (t u:Tok) (s:dL) (Q:bd->dL->Prop) (E:bd->dL->Prop),C i j->Q (.int (g i j) s.toks) {s with toks:=s.toks+1}->o0 (sK X.prog X.w) X.A (f (.int i t) (.int j u)) Q E s) :
  OpR X f (rI C λi j=>.int (g i j)):=by
 intro pins s σ H x y v u Q I rx ry h;obtain⟨i,j,rfl,rfl,hc,q⟩:=h;obtain⟨t,rfl⟩:=rx;obtain⟨t',rfl⟩:=ry;exact rule i j t t' s _ _ hc ⟨.int (g i j),H,I.tok _,⟨_,rfl⟩,q⟩
theorem opI0 {f:bd->bd->Sem bd}{g:Int->Int->Int}
  (rule:∀(i j:Int) (t u:Tok) (s:dL) (Q:bd->dL->Prop) (E:bd->dL->Prop),Q (.int (g i j) s.toks) {s with toks:=s.toks+1}->o0 (sK X.prog X.w) X.A (f (.int i t) (.int j u)) Q E s) :
  OpR X f (rI0 λi j=>.int (g i j)):=by
 intro pins s σ H x y v u Q I rx ry h;obtain⟨i,j,rfl,rfl,q⟩:=h;obtain⟨t,rfl⟩:=rx;obtain⟨t',rfl⟩:=ry;exact rule i j t t' s _ _ ⟨.int (g i j),H,I.tok _,⟨_,rfl⟩,q⟩
theorem opB0 {f:bd->bd->Sem bd}{g:Int->Int->Bool}
  (rule:∀(i j:Int) (t u:Tok) (s:dL) (Q:bd->dL->Prop) (E:bd->dL->Prop),Q (.bool (g i j)) s->o0 (sK X.prog X.w) X.A (f (.int i t) (.int j u)) Q E s) :
  OpR X f (rI0 λi j=>.bl (g i j)):=by
 intro pins s σ H x y v u Q I rx ry h;obtain⟨i,j,rfl,rfl,q⟩:=h;obtain⟨t,rfl⟩:=rx;obtain⟨t',rfl⟩:=ry;exact rule i j t t' s _ _ ⟨.bl (g i j),H,I,rfl,q⟩
def CPow (i j:Int):Prop:=0<=j/\j<=1000000/\i.natAbs<2^64
def CMul (i j:Int):Prop:=(-(2^64)<i/\i<2^64)∨(-(2^64)<j/\j<2^64)
theorem CMul.ok {i j:Int}(h:CMul i j):IntMulOk i j:=by
 rcases h with⟨h1,h2⟩ | ⟨h1,h2⟩
 ·exact .of_left (intBits_le_64 h1 h2)
 ·exact .of_right (intBits_le_64 h1 h2)
theorem cf:OpR X (Aj .Add) (rI0 λi j=>.int (i+j)):=opI0 λ_ _ _ _ _ _ _ q=>add_int q
theorem gF:OpR X (Aj .Sub) (rI0 λi j=>.int (i - j)):=opI0 λ_ _ _ _ _ _ _ q=>sub_int q
theorem lO:OpR X (Aj .Mult) (rI CMul λi j=>.int (i*j)):=opI λ_ _ _ _ _ _ _ hc q=>mul_int q hc.ok
theorem je:OpR X (Aj .Mod) (rI (λ_ j=>0<j) λi j=>.int (i % j)):=opI λi j _ _ _ _ _ hc q=>by
 have h1:(0:Int)<j:=hc;exact mod_int' (by omega) (by rw[Int.fmod_eq_emod_of_nonneg i (by omega)];exact q)
theorem om:OpR X (Aj .Pow) (rI CPow λi j=>.int (i^j.toNat)):=opI λ_ _ _ _ _ _ _ hc q=>pow_int_small hc.1 hc.2.1 hc.2.2 q
theorem ub:OpR X (Aj .LShift) (rI CPow λi j=>.int (i*2^j.toNat)):=opI λ_ _ _ _ _ _ _ hc q=>lshift_int_small hc.1 hc.2.1 hc.2.2 q
theorem wL:OpR X (Aj .BitAnd) (rI0 λi j=>.int (BO i j)):=opI0 λ_ _ _ _ _ _ _ q=>and_int q
theorem t_:OpR X (Aj .BitXor) (rI0 λi j=>.int (A9 i j)):=opI0 λ_ _ _ _ _ _ _ q=>xor_int q
theorem unI {f:bd->Sem bd}{g:Int->Int}
  (rule:∀(i:Int) (t:Tok) (s:dL) (Q:bd->dL->Prop) (E:bd->dL->Prop),Q (.int (g i) s.toks) {s with toks:=s.toks+1}->o0 (sK X.prog X.w) X.A (f (.int i t)) Q E s) :
  UnR X f (rU λi=>.int (g i)):=by
 intro pins s σ H x v Q I rx h;obtain⟨i,rfl,q⟩:=h;obtain⟨t,rfl⟩:=rx;exact rule i t s _ _ ⟨.int (g i),H,I.tok _,⟨_,rfl⟩,q⟩
theorem v3:UnR X (unaryOp .USub) (rU λi=>.int (-i)):=unI λ_ _ _ _ _ q=>neg_int q
end
section
variable {X:Cx}{a b c:Expr}{ta tb tc:TE}{pos:Pos}
theorem xn {pins:List (Addr×Obj)}{σ:St}{H:Hp}{s:dL}{Q:VK}{k k':Bool}(I:Inv X pins σ H s)(q:Q (.bl k) H)(e:k=k'):EP X pins σ Q (.bool k') s:=by
 subst e;exact⟨.bl k,H,I,rfl,q⟩
theorem xS:OpR X (A2 .Lt) (rI0 λi j=>.bl (decide (i<j))):=opB0 λ_ _ _ _ _ _ _ q=>lt_int q
theorem fU:OpR X (A2 .Gt) (rI0 λi j=>.bl (decide (j<i))):=opB0 λ_ _ _ _ _ _ _ q=>gt_int q
theorem xT:OpR X (A2 .GtE) (rI0 λi j=>.bl (decide (j<=i))):=opB0 λ_ _ _ _ _ _ _ q=>ge_int q
theorem jd:OpR X (A2 .IsNot) (λx y H Q=>y = .non/\Q (.bl (!decide (x = .non))) H):=by
 intro pins s σ H x y v u Q I rx ry h;obtain⟨rfl,q⟩:=h;cases ry
 refine isnot_none_gen (xn I q ?_);cases x <;> first
  | (cases rx;rfl)
  | (obtain⟨t,rfl⟩:=rx;rfl)
theorem bM (b:Expr){op:CmpOp}(h:op ≠ .In:=by decide)(h2:op ≠ .NotIn:=by decide):Cy op b=false:=by
 have e1:(op==CmpOp.In)=false:=by cases op <;> first | rfl | exact absurd rfl h
 have e2:(op==CmpOp.NotIn)=false:=by cases op <;> first | rfl | exact absurd rfl h2
 cases b <;> simp[Cy,e1,e2]
def wb (t:TE):TT:=λσ H Q=>t σ H λx H'=>∃k,x = .bl k/\Q k H'
theorem br {op:CmpOp}{r:R2}(ho:OpR X (A2 op) r)(ha:PE X a ta)(hb:PE X b tb)(hm:Cy op b=false):PT X (.Compare a [op] [b] pos) (wb (tOp r ta tb)):=by
 intro pins s σ H Q I h;refine Er (thn (ha pins s σ H _ I h) λv s1 ⟨x,H1,I1,r1,q1⟩=>thn (hb pins s1 σ H1 _ I1 q1) λu s2 ⟨y,H2,I2,r2,q2⟩ =>
  thn (ho pins s2 σ H2 x y v u _ I2 r1 r2 q2) λc s3 ⟨z,H3,I3,r3,k,e,q3⟩=>?_) hm
 subst e;cases r3
 exact CQ ⟨H3,I3,q3⟩
def TruV (K:ac)(x:V)(H:Hp)(k:Bool):Prop :=
 match x with
 | .non=>k=false
 | .bl b=>k=b
 | .int i=>k=(i != 0)
 | .str y=>y.length<=ww/\k=((y.length:Int) != 0)
 | .byt y=>y.size<=ww/\k=((y.size:Int) != 0)
 | .ref p=>(∃xs,SqL K H p xs/\k = !xs.isEmpty)∨(∃xs,SqT K H p xs/\k = !xs.isEmpty) ∨ ∃kvs,H p=some (.dK kvs)/\k = !kvs.isEmpty
 | _=>False
theorem pK {κ:Type}{kvs:List (κ×V)}{vs:List (κ×bd)}(r:KV kvs vs):(!vs.isEmpty) = !kvs.isEmpty:=by
 cases r <;> rfl
theorem jY {xs:List V}{its:List bd}(r:Vals xs its):(!its.toArray.isEmpty) = !xs.isEmpty:=by
 cases r <;> simp
theorem lV:(ww:Nat)<2^63:=by rw[z8];decide
theorem v9:TruR X (λx H Q=>∃k,TruV X.K x H k/\Q k H):=by
 intro pins s σ H x v Q I rx h;obtain⟨k,e,q⟩:=h;have hl:=lV;have hs:ww=16777216:=z8;cases x with
 | non =>
  cases rx
  have e':k=false:=e;subst e';exact truthy_none ⟨H,I,q⟩
 | bl b =>
  cases rx
  have e':k=b:=e;subst e';exact CQ ⟨H,I,q⟩
 | int i =>
  obtain⟨t,rfl⟩:=rx;have e':k=(i != 0):=e;subst e';exact PySem.P.truthy_int ⟨H,I,q⟩
 | str y =>
  obtain⟨t,rfl⟩:=rx;obtain⟨hy,e'⟩:y.length<=ww/\k=((y.length:Int) != 0):=e;subst e';exact PySem.P.truthy_str (by omega) ⟨H,I.tok _,q⟩
 | byt y =>
  obtain⟨t,rfl⟩:=rx;obtain⟨hy,e'⟩:y.size<=ww/\k=((y.size:Int) != 0):=e;subst e';exact PySem.W.truthy_bytes (by omega) ⟨H,I.tok _,q⟩
 | ref p =>
  cases rx
  have e':(∃xs,SqL X.K H p xs/\k = !xs.isEmpty)∨(∃xs,SqT X.K H p xs/\k = !xs.isEmpty) ∨ ∃kvs,H p=some (.dK kvs)/\k = !kvs.isEmpty:=e;rcases e' with⟨xs,hx,e'⟩ | ⟨xs,hx,e'⟩ | ⟨kvs,hx,e'⟩
  ·subst e';obtain⟨its,r,pl,hz⟩:=I.list hx;have hlen:=r.length;exact wpAny_truthy_list pl.isList (by simp only[li];omega) ⟨H,I.tok _,by rw[jY r];exact q⟩
  ·subst e';obtain⟨its,r,pl,hz⟩:=I.tuple hx;have hlen:=r.length;exact truthy_tuple pl (by simp only[li];omega) ⟨H,I.tok _,by rw[jY r];exact q⟩
  ·subst e';obtain⟨hz,hS,vs,r,m⟩:kvs.length<=ww/\(p==At)=false/\∃vs,KV kvs vs/\s.heap.DictOf (cC X.prog X.w) p vs:=I.hok p _ hx;have hlen:kvs.length=vs.length:=BZ r;exact wpAny_truthy_dict hS m (by omega) ⟨H,I.tok _,by rw[pK r];exact q⟩
 | _=>exact(show False from e).elim
theorem sJ (ha:PE X a ta)(he:∀whole,D_ a X.env whole=(do let v <- whole;standAt a.pos;holding [v] (truthy v))) :
  PT X a (λσ H Q=>ta σ H λx H'=>∃k,TruV X.K x H' k/\Q k H'):=by
 intro pins s σ H Q I h;exact isTrue_plain (thn (ha pins s σ H _ I h) λv s1 ⟨x,H1,I1,r1,q1⟩=>v9 pins s1 σ H1 x v Q I1 r1 q1) (he _)
theorem kh {x:V}{us:List bd}(r:Vals [x] us):∃u,us=[u]/\RelV x u:=by
 cases r with
 | cons r1 r2=>cases r2;exact⟨_,rfl,r1⟩
theorem uz {x y:V}{us:List bd}(r:Vals [x,y] us):∃u w',us=[u,w']/\RelV x u/\RelV y w':=by
 cases r with
 | cons r1 r2 =>
  cases r2 with
  | cons r3 r4=>cases r4;exact⟨_,_,rfl,r1,r3⟩
theorem mr (hc:X.calm=true):iD X (.builtin "max") (λxs H Q=>∃i j,xs=[.int i,.int j]/\Q (.int (if j > i then j else i)) H):=by
 intro pins s σ H xs us Q I r h;obtain⟨i,j,rfl,q⟩:=h;obtain⟨u,w',rfl,⟨t,rfl⟩,⟨t',rfl⟩⟩:=uz r;refine max_two_ints (I.ok.hd hc) λh' tk k=>⟨_,H,I.kept k,?_,q⟩
 by_cases hj:j > i
 ·rw[if_pos hj,if_pos hj];exact⟨_,rfl⟩
 ·rw[if_neg hj,if_neg hj];exact⟨_,rfl⟩
theorem mq (hc:X.calm=true):iD X (.builtin "min") (λxs H Q=>∃i j,xs=[.int i,.int j]/\Q (.int (if j<i then j else i)) H):=by
 intro pins s σ H xs us Q I r h;obtain⟨i,j,rfl,q⟩:=h;obtain⟨u,w',rfl,⟨t,rfl⟩,⟨t',rfl⟩⟩:=uz r;refine min_two_ints (I.ok.hd hc) λh' tk k=>⟨_,H,I.kept k,?_,q⟩
 by_cases hj:j<i
 ·rw[if_pos hj,if_pos hj];exact⟨_,rfl⟩
 ·rw[if_neg hj,if_neg hj];exact⟨_,rfl⟩
end
theorem RelO.some_of {v:V}{o:Option bd}(r:RelO (some v) o):∃u,o=some u/\RelV v u:=by
 cases o with
 | none=>exact(show False from r).elim
 | some u=>exact⟨u,rfl,r⟩
structure Room (k:Nat)(A:yI):Prop where
 hd:A.handled=none
 dp:A.depth+3*k+5<recursionLimit
 un:A.units+16*k+200<Bf
 gd:A.guards=some []
theorem Room.mono {j k:Nat}{A:yI}(r:Room k A)(h:j<=k):Room j A:=⟨r.hd,by have:=r.dp;omega,by have:=r.un;omega,r.gd⟩
theorem Room.deeper {k:Nat}{A:yI}(r:Room (k+1) A)(env:Env):Room k (A.deeper env) :=
 ⟨r.hd,by have:=r.dp;show A.depth+1+3*k+5<_;omega,by have:=r.un;show A.units+3+16*k+200<_;omega,r.gd⟩
theorem pF {A:yI}{C:Addr}{us:List bd}{kw:List (Str×bd)}:(A.under (.builtin "type.__call__" ⟨.ref C::us,kw⟩)).depth=A.depth+1:=by
 first | rfl | simp[Cg,Code.weight,Code.isCreation,Code.isGuard,Code.isCaller,Fm,Dk,guardIds]
theorem pE {A:yI}{C:Addr}{us:List bd}{kw:List (Str×bd)}:(A.under (.builtin "type.__call__" ⟨.ref C::us,kw⟩)).units=A.units+1:=by
 first | rfl | simp[Cg,Code.cUnits,Fm,Dk]
theorem m9 {A:yI}{C:Addr}{us:List bd}{kw:List (Str×bd)}:(A.under (.builtin "type.__call__" ⟨.ref C::us,kw⟩)).guards=A.guards:=by
 have:(Code.builtin "type.__call__" ⟨.ref C::us,kw⟩).guards=[]:=by
  unfold Code.guards;rw[if_neg];show ¬guardIds.contains "type.__call__" = true;decide +kernel
 unfold Cg;rw[this];cases A with
 | mk a b c d e=>cases d <;> rfl
theorem Room.make {k:Nat}{A:yI}(r:Room (k+1) A)(C:Addr)(us:List bd)(kw:List (Str×bd)):Room k (A.under (.builtin "type.__call__" ⟨.ref C::us,kw⟩)) :=
 ⟨r.hd,by have:=r.dp;rw[pF];omega,by have:=r.un;rw[pE];omega,by rw[m9];exact r.gd⟩
theorem Room.depth {k:Nat}{A:yI}(r:Room k A):A.depth<recursionLimit:=by have:=r.dp;omega
theorem Room.units {k:Nat}{A:yI}(r:Room k A):A.units+64<Bf:=by have:=r.un;omega
def tNil:TA:=λ_ H Q=>Q [] H
def sx (ta:TE)(tr:TA):TA:=λσ H Q=>ta σ H λx H1=>tr σ H1 λxs H2=>Q (x::xs) H2
section
variable {X:Cx}{e:Expr}{es:List Expr}{te:TE}{t:TA}{pos:Pos}
theorem ar:PA X [] tNil:=λ_ _ _ _ H Q I h=>Az ⟨[],H,I,.nil,h⟩
theorem aj (ha:PE X e te)(hr:PA X es t)(hs:yu (e::es) X.env=(false,eval e X.env)::yu es X.env:=by rfl):PA X (e::es) (sx te t):=by
 intro pos pins s σ H Q I h;rw[hs];show o0 _ _ (E6 ((false,eval e X.env)::Al pos (yu es X.env))) _ _ s;refine Au (thn (ha pins s σ H _ I h) λu s1 ⟨x,H1,I1,r1,q1⟩=>?_);exact thn (hr pos pins s1 σ H1 _ I1 q1) λus s2 ⟨xs,H2,I2,r2,q2⟩=>⟨x::xs,H2,I2,.cons r1 r2,q2⟩
def tTup (t:TA):TE:=λσ H Q=>t σ H λxs H1=>xs.length<=ww/\∀p,H1 p=none->Q (.ref p) (upd H1 p (.tup xs))
def tLst (t:TA):TE:=λσ H Q=>t σ H λxs H1=>xs.length<=ww/\∀p,H1 p=none->Q (.ref p) (upd H1 p (.lst xs))
theorem lL {x1}(h:PA X es t):PE X (.Tuple es x1 pos) (tTup t):=by
 intro pins s σ H Q I hq;refine wpAny_Tuple_spliced (thn (h pos pins s σ H _ I hq) λus s1 ⟨xs,H1,I1,r,z,q⟩=>⟨by rw[<- r.length];exact z,?_⟩);have hf:H1 s1.heap.objs.size=none:=I1.hok.fresh (lw _);refine⟨.ref s1.heap.objs.size,upd H1 s1.heap.objs.size (.tup xs),I1.laid (t':=s1.toks) (λb u e=>im _ e) (lw _) ?_,rfl,q _ hf⟩;exact⟨z,us,r,⟨_,xL _ rfl,rfl,_,rfl⟩⟩
theorem lM (h:PA X es t):PE X (.List es pos) (tLst t):=by
 intro pins s σ H Q I hq;refine wpAny_List_spliced (thn (h pos pins s σ H _ I hq) λus s1 ⟨xs,H1,I1,r,z,q⟩=>⟨by rw[<- r.length];exact z,?_⟩);have hf:H1 s1.heap.objs.size=none:=I1.hok.fresh (lw _);refine⟨.ref s1.heap.objs.size,upd H1 s1.heap.objs.size (.lst xs),I1.laid (t':=s1.toks) (λb u e=>im _ e) (lw _) ?_,rfl,q _ hf⟩;exact⟨z,us,0,r,xL _ rfl⟩
end
abbrev Sp:=List V->Hp->VK->XK->Prop
abbrev CXT:=List Env->Hp->dL->XK->bd->dL->Prop
structure Env0 (P:wl)(w:yF)(K:ac)(mg:Str->Option bd)(base:Heap)(A:yI)(outer:List Env)(s:dL)(H:Hp):Prop where
 frames:A.frames=some outer
 mod:Mod K mg base
 bs:∀b o,base.get? b=some o->s.heap.get? b=some o/\H b=none
 bsz:base.objs.size<=s.heap.objs.size
 funs:s.heap.FunFrames base outer
 frf:∀b∈frs outer,H b=none
 hok:HOk P w H s.heap
 bare:BG s.gens
def CE (outer:List Env)(P:wl)(w:yF)(H:Hp)(s:dL)(Q:VK)(u:bd)(s':dL):Prop :=
 ∃v H',s'.os=s.os/\BG s'.gens/\Un (frs outer) [] H H' s.heap s'.heap/\HOk P w H' s'.heap/\RelV v u/\Q v H'
def CR (CX:CXT)(outer:List Env)(P:wl)(w:yF)(H:Hp)(s:dL)(Q:VK)(E:XK)(r:Ec)(s':dL):Prop :=
 match r with
 | .ok (.ret u)=>CE outer P w H s Q u s'
 | .ok _=>False
 | .error e=>CX outer H s E e s'
structure FnOk (P:wl)(w:yF)(K:ac)(mg:Str->Option bd)(base:Heap)(CX:CXT)(k:Nat)(f:Addr)(fd:Ay)(ps:List Str)(sp:Sp):Prop where
 len:∀vs H Q E,sp vs H Q E->vs.length=ps.length
 run:∀(A:yI) (outer:List Env) (s:dL) (H:Hp) (args:Args) (us:List bd) (vs:List V) (Q:VK) (E:XK),Room k A->Env0 P w K mg base A outer s H->Dl s fd args (ps.zip us)->Vals vs us->sp vs H Q E ->
  A_ (sK P w) A (.call (.ref f) args) (CR CX outer P w H s Q E) s
theorem FnOk.imp {P:wl}{w:yF}{K:ac}{mg:Str->Option bd}{base:Heap}{CX:CXT}{k:Nat}{f:Addr}{fd:Ay}{ps:List Str}{sp sp':Sp}(F:FnOk P w K mg base CX k f fd ps sp)
  (h:∀vs H Q E,sp' vs H Q E->sp vs H Q E):FnOk P w K mg base CX k f fd ps sp' :=
 ⟨λvs H Q E q=>F.len vs H Q E (h _ _ _ _ q),λA outer s H args us vs Q E hr he hb hv hs=>F.run A outer s H args us vs Q E hr he hb hv (h _ _ _ _ hs)⟩
theorem Env0.make {P:wl}{w:yF}{K:ac}{mg:Str->Option bd}{base:Heap}{A:yI}{outer:List Env}{s:dL}{H:Hp}(e:Env0 P w K mg base A outer s H)(C:Addr)(us:List bd)(kw:List (Str×bd)) :
  Env0 P w K mg base (A.under (.builtin "type.__call__" ⟨.ref C::us,kw⟩)) outer s H:=⟨by first | exact e.frames | (simpa [Cg,Code.envs,Dk,pushEnvs] using e.frames),e.mod,e.bs,e.bsz,e.funs,e.frf,e.hok,e.bare⟩
section
variable {X:Cx}{pins:List (Addr×Obj)}{σ:St}{H:Hp}{s s':dL}
theorem Inv.env0 (I:Inv X pins σ H s):Env0 X.prog X.w X.K X.mg X.base X.A X.stack s H :=
 ⟨I.ok.frames,I.ok.mod,I.bs,yt I.ok.bsz I.sz,I.stack,I.stkFree,I.hok,I.bare⟩
theorem Inv.after {Q:VK}{u:bd}(I:Inv X pins σ H s)(h:CE X.stack X.prog X.w H s Q u s'):EP X pins σ Q u s':=by
 obtain⟨v,H',os,bare,un,hok,r,q⟩:=h;obtain⟨hh,g,d,t,os'⟩:=s';obtain rfl:os'=s.os:=os;exact⟨v,H',I.call (h':=hh) (g':=g) (d':=d) (t':=t) (ch:=[]) un hok bare (λb z=>absurd z (by simp)),r,q⟩
end
def kE (sp:Sp)(dvs:List V)(E:XK)(t:TA):TE:=λσ H Q=>t σ H λvs H1=>sp (vs++dvs) H1 Q E
def ly (K:ac)(fd:Ay)(ps:List Str)(ds:List bd):Prop :=
 ∀(s:dL) (us:List bd),K.In s.heap->(us++ds).length=ps.length->Dl s fd ⟨us,[]⟩ (ps.zip (us++ds))
theorem ly.all {K:ac}{fd:Ay}{ps:List Str}(h:∀us:List bd,us.length=ps.length->Dq fd ⟨us,[]⟩=pure (ps.zip us)):ly K fd ps []:=λs us _ hl=>by
 rw[zZ]at hl ⊢;exact .of_eq (h us hl)
def gW (CX:CXT)(X:Cx)(E:XK):Prop:=∀(pins:List (Addr×Obj)) (σ:St) (H:Hp) (s:dL) (e:bd) (s':dL),Inv X pins σ H s->CX X.stack H s E e s'->X.xe e s'
section
variable {X:Cx}{CX:CXT}{k:Nat}{f C:Addr}{fd:Ay}{ps:List Str}{sp:Sp}{dvs:List V}{ds:List bd}{E:XK}{x m:Str}{p pos apos:Pos}{e o:Expr}{es:List Expr}{ta:TE}{t:TA}
theorem wt {pins:List (Addr×Obj)}{σ:St}{H:Hp}{s:dL}{Q:VK}{us:List bd}{vs:List V}(F:FnOk X.prog X.w X.K X.mg X.base CX k f fd ps sp)(hr:Room k X.A)(hb:ly X.K fd ps ds)(hd:Vals dvs ds)(hx:gW CX X E)
  (I:Inv X pins σ H s) (r:Vals vs us) (h:sp (vs++dvs) H Q E):o0 (sK X.prog X.w) X.A (call (.ref f) us) (EP X pins σ Q) X.xe s:=by
 have r2:Vals (vs++dvs) (us++ds):=r.append hd;have hl:(us++ds).length=ps.length:=by rw[<- r2.length];exact F.len _ _ _ _ h
 refine CG (BW (F.run X.A X.stack s H ⟨us,[]⟩ (us++ds) (vs++dvs) Q E hr I.env0 (hb s us I.kIn hl) r2 h) λr s' hq=>?_);cases r with
 | error e=>exact hx pins σ H s e s' I hq
 | ok fl =>
  cases fl with
  | ret u=>exact I.after hq
  | next=>exact yD hq
  | brk=>exact yD hq
  | cont=>exact yD hq
theorem kN (F:FnOk X.prog X.w X.K X.mg X.base CX k f fd ps sp)(hr:Room k X.A)(hg:Gl X x)(hm:X.mg x=some (.ref f))(hk:zQ X.K (.ref f)=true)(hb:ly X.K fd ps ds)(hd:Vals dvs ds)(hx:gW CX X E)
  (ha:PA X (e::es) t) (hdb:(x==("__debug__" : Str))=false:=by decide) (he:yu (e::es) X.env=(false,eval e X.env)::yu es X.env:=by rfl) (hpl:(Al pos (yu es X.env)).any (·.1)=false:=by rfl) :
  PE X (.Call (.Name x p) (e::es) [] pos) (kE sp dvs E t):=by
 intro pins s σ H Q I h;refine Bx (gk I hg hm ?_ hdb);refine Dt (h₀:=X.base) I.ok.mod.kin hk (thn (ha pos pins s σ H _ I h) λus s1 ⟨vs,H1,I1,r,q⟩=>⟨I1.kIn,?_⟩) he hpl;exact wt F hr hb hd hx I1 r q
end
structure bG (N P:List Str)(sc:zA):Prop where
 kind:sc.kind = .function
 co:sc.isCoroutine=false
 gen:sc.isGenerator=false
 nd:N.Nodup
 pre:N.take P.length=P
 par:∀x∈P,sc.names.lookup x=some .local∨sc.names.lookup x=some .cell
 nofree:∀y∈sc.names,y.2 ≠ .free
theorem my {kindOf:Str->Option zX}{x:Str}:∀ {binds:List (Str×bd)} {m:Str->Option bd},(∀v,(x,v)∉binds)->DY kindOf binds m x=m x
 | [],_,_=>rfl
 | (n,v)::r,m,h=>by
  unfold DY;rw[my λw hw=>h w (yN _ hw)];split
  ·have:x≠n:=by rintro rfl;exact h v yW
   simp[this]
  ·rfl
theorem mB {kindOf:Str->Option zX}{x:Str}:∀ {binds:List (Str×bd)} {m:Str->Option bd},(∀v,(x,v)∉binds)->DZ kindOf binds m x=m x
 | [],_,_=>rfl
 | (n,v)::r,m,h=>by
  unfold DZ;rw[mB λw hw=>h w (yN _ hw)];split
  ·rfl
  ·have:x≠n:=by rintro rfl;exact h v yW
   simp[this]
theorem mz {kindOf:Str->Option zX}{x:Str}{v:bd}:∀ {P:List Str} {vs:List bd} {i:Nat} {m:Str->Option bd},P.Nodup->P[i]? = some x->vs[i]? = some v->kindOf x=some .local ->
  DY kindOf (P.zip vs) m x=some v
 | [],_,_,_,_,h,_,_=>by simp at h
 | _::_,[],_,_,_,_,h,_=>by simp at h
 | p::P,w::vs,0,m,nd,h1,h2,hk=>by
  simp at h1 h2;subst h1;subst h2;show DY kindOf ((p,w)::P.zip vs) m p=_;unfold DY;rw[my λv hv=>(BM.mp nd).1 (CN hv).1,if_pos hk];simp
 | p::P,w::vs,i+1,m,nd,h1,h2,hk=>by
  show DY kindOf ((p,w)::P.zip vs) m x=_;unfold DY;exact mz (i:=i) (BM.mp nd).2 (by simpa using h1) (by simpa using h2) hk
theorem mC {kindOf:Str->Option zX}{x:Str}{v:bd}:∀ {P:List Str} {vs:List bd} {i:Nat} {m:Str->Option bd},P.Nodup->P[i]? = some x->vs[i]? = some v->kindOf x≠some .local ->
  DZ kindOf (P.zip vs) m x=some v
 | [],_,_,_,_,h,_,_=>by simp at h
 | _::_,[],_,_,_,_,h,_=>by simp at h
 | p::P,w::vs,0,m,nd,h1,h2,hk=>by
  simp at h1 h2;subst h1;subst h2;show DZ kindOf ((p,w)::P.zip vs) m p=_;unfold DZ;rw[mB λv hv=>(BM.mp nd).1 (CN hv).1,if_neg hk];simp
 | p::P,w::vs,i+1,m,nd,h1,h2,hk=>by
  show DZ kindOf ((p,w)::P.zip vs) m x=_;unfold DZ;exact mC (i:=i) (BM.mp nd).2 (by simpa using h1) (by simpa using h2) hk
def iu (N:List Str)(vs:List V):St:=vs.map some++pc (N.length - vs.length) none
def cxOf (CX:CXT)(P:wl)(w:yF)(K:ac)(mg:Str->Option bd)(base:Heap)(N:List Str)(qual:Str)(scope:zA)(f:Addr)(cd:bd)(A:yI)(outer:List Env)(s:dL)(H:Hp)(E:XK):Cx where
 prog:=P
 w:=w
 K:=K
 mg:=mg
 base:=base
 A:=A.deeper (A0 qual scope s.heap.objs.size f cd)
 N:=N
 s₀:=s
 H₀:=H
 env:=A0 qual scope s.heap.objs.size f cd
 outer:=outer
 stack:=A0 qual scope s.heap.objs.size f cd::outer
 ex:=[]
 calm:=true
 fn:=λ_=>true
 pn:=[]
 xe:=λe s'=>o0 (sK P w) (A.deeper (A0 qual scope s.heap.objs.size f cd)) (BF (A0 qual scope s.heap.objs.size f cd) e) (λ_ s''=>CX outer H s E e s'') (λe' s''=>CX outer H s E e' s'') s'
theorem oP {sc:zA}{n:Nat}{x:Str}(h:sc.names.lookup x=some .cell):∃c,(zh n sc.names []).lookup x=some c:=by
 have q:=C9 sc.names n [] (.inl h);exact Option.isSome_iff_exists.mp q
theorem qV {CX:CXT}{P:wl}{w:yF}{K:ac}{mg:Str->Option bd}{base:Heap}{N ps:List Str}{qual:Str}{scope:zA}{f:Addr}{cd:bd}{A:yI}{outer:List Env}{s s1:dL}{H:Hp}{E:XK}{us:List bd}{vs:List V}
  (S:bG N ps scope) (hd:A.handled=none) (e0:Env0 P w K mg base A outer s H) (hl:vs.length=ps.length) (r:Vals vs us)
  (x:InCallC s s.heap.objs.size (DY (A0 qual scope s.heap.objs.size f cd).kindOf (ps.zip us) λ_=>none) (zh (s.heap.objs.size+1) scope.names []) (DZ (A0 qual scope s.heap.objs.size f cd).kindOf (ps.zip us) λ_=>none) s1) :
  Inv (cxOf CX P w K mg base N qual scope f cd A outer s H E) [] (iu N vs) H s1:=by
 have hpl:ps.length<=N.length:=by have:=congrArg DD S.pre;rw[yZ]at this;omega
 obtain⟨h1,tk,rfl,hk⟩:=x.done;have noA:∀b:Addr,b∉(cxOf CX P w K mg base N qual scope f cd A outer s H E).ex:=λb z=>absurd (show b∈([]:List Addr)from z) (by simp);refine⟨⟨e0.mod,S.kind,rfl,rfl,lw _,λy z c h1 h2=>?_,λy hy=>?_,λy c _ h=>?_,λ_=>hd,Around.frames_deeper e0.frames,.inr ⟨rfl,rfl⟩,λb z=>absurd z (noA b),e0.bs,e0.bsz,λb _ _=>noA b,λb z=>absurd z (noA b),e0.funs,e0.frf⟩,
  rfl,e0.bare,Un.kept hk,⟨_,x.toInCall.ns,λi y v h1 h2 h3=>?_⟩,λy c h=>⟨_,x.cell y c h⟩,e0.hok.fresh (lw _),λy c h=>?_,λp hp=>absurd (show p∈([]:List (Addr×Obj))from hp) (by simp),e0.hok.kept hk,?_⟩
 ·exact name_of_addr x.apart (yL h1) (yL h2)
 ·have hy:scope.names.lookup y=some .cell∨scope.names.lookup y=some .free:=hy;rcases hy with hy | hy
  ·exact oP hy
  ·exact absurd rfl (S.nofree _ (yL hy))
 ·exact yR (x.above y c (yL h))
 ·have hi:i<vs.length:=by
   unfold iu at h2;by_cases hi:i<vs.length
   ·exact hi
   ·rw[yK (by simpa using hi)]at h2;rw[Aw]at h2;split at h2 <;> cases h2
  have ha:vs[i]? = some v:=by
   unfold iu at h2;rw[yx (by simpa using hi),lm]at h2;cases e:vs[i]? with
   | none=>rw[e]at h2;cases h2
   | some a=>rw[e]at h2;cases h2;rfl
  obtain⟨u,hu,rv⟩:=r.get ha;have hp:ps[i]? = some y:=by
   rw[<- S.pre,List.getElem?_take_of_lt (by omega)];exact h1
  have ndP:ps.Nodup:=by rw[<- S.pre];exact S.nd.sublist (List.take_sublist _ _)
  refine⟨u,rv,?_⟩;rcases S.par y (yp hp)with k | k
  ·exact .inl ⟨k,mz ndP hp hu k⟩
  ·obtain⟨c,e⟩:=oP (n:=s.heap.objs.size+1) k;refine .inr ⟨.inl k,c,e,?_⟩;have q:=x.cell y c e;rw[mC ndP hp hu (by show scope.names.lookup y≠_;rw[k];decide)]at q;exact q
 ·exact e0.hok.fresh (yR (x.above y c (yL h)))
 ·unfold iu;show _=N.length;rw[ms,db,Ae];omega
theorem xm {CX:CXT}{P:wl}{w:yF}{K:ac}{mg:Str->Option bd}{base:Heap}{k:Nat}{f:Addr}{name qual:Str}{params:Arguments}{body:List Stmt}{scope:zA}{dV kV doc pm cdv ct oc:bd}{an od:Option Addr}
  {osl:Array (Option bd)} {N ps:List Str} {sp:Sp} (lk:K.lookup f=some ⟨oc,od,.func (zN name qual params body scope dV kV doc pm an cdv ct),osl⟩) (hcd:Ag K cdv qual=true) (S:bG N ps scope)
  (len:∀vs H Q E,sp vs H Q E->vs.length=ps.length)
  (hbody:∀(A:yI) (outer:List Env) (s:dL) (H:Hp) (vs:List V) (Q:VK) (E:XK),Room k (A.deeper (A0 qual scope s.heap.objs.size f cdv))->sp vs H Q E ->
   ∃t,PSs (cxOf CX P w K mg base N qual scope f cdv A outer s H E) body t/\t {nx:=λ_ H'=>Q .non H',rt:=Q} (iu N vs) H) :
  FnOk P w K mg base CX (k+1) f (zN name qual params body scope dV kV doc pm an cdv ct) ps sp:=by
 refine⟨len,λA outer s H args us vs Q E hr e0 hb r hsp=>?_⟩;have hl:=len _ _ _ _ hsp;have KX:K.In s.heap:=e0.mod.kin.keeps λb o e=>(e0.bs b o e).1;have lim:s.heap.NoLimit:=e0.mod.nolimit.keeps λb o e=>(e0.bs b o e).1;have hkind:∀y∈ps.zip us,scope.names.lookup y.1=some .local∨(scope.names.lookup y.1=some .cell/\((zh (s.heap.objs.size+1) scope.names []).lookup y.1).isSome=true):=λ⟨n,v⟩ hy=>by
  rcases S.par n (CN hy).1 with q | q
  ·exact .inl q
  ·exact .inr ⟨q,C9 _ _ _ (.inl q)⟩
 refine codeAny_call_function hr.depth (KX _ _ lk) rfl S.co S.gen rfl (PySem.W.codeRec_of KX hcd) (hb _ _ _ _ ?_);refine wpAny_newFunctionEnv_cells S.kind hkind λenv he s1 x=>?_;subst he;refine⟨lim.keeps x.toInCall.keep,codeAny_func ?_⟩;obtain⟨t,ht,hq⟩:=hbody A outer s H vs Q E (hr.deeper _) hsp;have I:Inv (cxOf CX P w K mg base N qual scope f cdv A outer s H E) [] (iu N vs) H s1:=qV S hr.hd e0 hl r x;refine yJ (ht [] s1 (iu N vs) H _ I hq) (λfl s' hs=>?_) λe s' hs=>hs;have fin:∀ {σ':St} {H':Hp} {v:V} {u:bd},Inv (cxOf CX P w K mg base N qual scope f cdv A outer s H E) [] σ' H' s'->RelV v u->Q v H'->CE outer P w H s Q u s' :=
  λ{σ' H' v u} J rv q=>⟨v,H',J.os,J.bare,J.base,J.hok,rv,q⟩
 cases fl with
 | ret u =>
  obtain⟨v,σ',H',J,rv,q⟩:=hs;exact fin J rv q
 | next =>
  obtain⟨σ',H',J,q⟩:=hs;exact fin (v:=V.non) (u:=Value.none) J rfl q
 | brk =>
  obtain⟨_,_,_,q⟩:=hs;exact yD q
 | cont =>
  obtain⟨_,_,_,q⟩:=hs;exact yD q
section
variable {X:Cx}{x:Str}{p pos:Pos}{e:Expr}{es:List Expr}{t:TA}{id T:String}{r:List V->Hp->VK->Prop}
def tCB (r:List V->Hp->VK->Prop)(t:TA):TE:=λσ H Q=>t σ H λvs H1=>r vs H1 Q
theorem aS (hc:iD X (.builtin id) r)(hg:Gl X x)(hm:X.mg x=none)(hv:zH x=some (.builtin id))(ha:PA X (e::es) t)(hn:x ≠ "__name__" := by decide)(hdb:(x==("__debug__" : Str))=false:=by decide)
  (he:yu (e::es) X.env=(false,eval e X.env)::yu es X.env:=by rfl) (hpl:(Al pos (yu es X.env)).any (·.1)=false:=by rfl):PE X (.Call (.Name x p) (e::es) [] pos) (tCB r t):=by
 intro pins s σ H Q I h;refine Bx (f_ I hg hm hv ?_ hn hdb);exact Fv (thn (ha pos pins s σ H _ I h) λus s1 ⟨vs,H1,I1,r1,q1⟩=>hc pins s1 σ H1 vs us Q I1 r1 q1) he hpl
theorem cc (hc:iD X (.type T) r)(hg:Gl X x)(hm:X.mg x=none)(hv:zH x=some (.type T))(ha:PA X (e::es) t)(hn:x ≠ "__name__" := by decide)(hdb:(x==("__debug__" : Str))=false:=by decide)
  (he:yu (e::es) X.env=(false,eval e X.env)::yu es X.env:=by rfl) (hpl:(Al pos (yu es X.env)).any (·.1)=false:=by rfl):PE X (.Call (.Name x p) (e::es) [] pos) (tCB r t):=by
 intro pins s σ H Q I h;refine Bx (f_ I hg hm hv ?_ hn hdb);exact yU (thn (ha pos pins s σ H _ I h) λus s1 ⟨vs,H1,I1,r1,q1⟩=>hc pins s1 σ H1 vs us Q I1 r1 q1) he hpl
end
end L2
namespace HT
open PySem PyProof.Rows
section
variable {prog:wl}{w:yF}{A:yI}{E:bd->dL->Prop}{s:dL}
theorem cat_tup {t b:Addr}{vs ws:List bd}{Q:bd->dL->Prop}(ht:IsTup s.heap t vs.toArray)(hb:IsTup s.heap b ws.toArray)(hv:vs≠[])
  (h1:ws=[]->Q (.ref t) s) (h2:ws≠[]->Q (.ref s.heap.objs.size) {s with heap:=s.heap.push {cls:=.type "tuple",data:=.seq (vs++ws).toArray}})
  (hsz:vs.length+ws.length<=ww):o0 (sK prog w) A (Aj .Add (.ref t) (.ref b)) Q E s:=by
 obtain⟨⟨cls,dd,data,sl⟩,ho,hc,n,hd⟩:=id ht;obtain⟨⟨cls2,dd2,data2,sl2⟩,ho2,hc2,n2,hd2⟩:=id hb;simp only at hc hd hc2 hd2;subst hc hd hc2 hd2;have e:vs.toArray++ws.toArray=(vs++ws).toArray:=by simp
 by_cases hw:ws=[]
 ·exact CW ⟨_,ho,rfl⟩ ⟨_,ho2,rfl⟩ C7 DK By Bq (Bn _ _)
   (tuple_addW1 t b vs.toArray ws.toArray n n2 dd dd2 sl sl2 (by simpa using hv) (by simp[hw])) ⟨ho,ho2,h1 hw⟩
 ·refine CW ⟨_,ho,rfl⟩ ⟨_,ho2,rfl⟩ C7 DK By Bq (Bn _ _)
   (tuple_addW2 t b vs.toArray ws.toArray n n2 dd dd2 sl sl2 (by simpa using hv) (by simpa using hw) (by rw[li,li];exact hsz)) ⟨ho,ho2,?_⟩
  rw[e];exact h2 hw
def sIx (n d:Nat):Option Int->Nat
 | none=>d
 | some v=>if v<0 then(v+(n:Int)).toNat else min v.toNat n
theorem sIx_nat (n d k:Nat):sIx n d (some (k:Int))=min k n:=by
 show(if(k:Int)<0 then((k:Int)+(n:Int)).toNat else min (k:Int).toNat n)=min k n;rw[if_neg (by omega),zM]
end
end HT
namespace L2
open PySem PySem.Spec PyProof.Rows
abbrev TO:=St->Hp->(Option Int->Hp->Prop)->Prop
def PO (X:Cx)(e:Option Expr)(t:TO):Prop :=
 ∀(pins:List (Addr×Obj)) (s:dL) (σ:St) (H:Hp) (Q:Option Int->Hp->Prop),Inv X pins σ H s->t σ H Q ->
  o0 (sK X.prog X.w) X.A (evalPart e X.env) (λu s'=>∃o H',Inv X pins σ H' s'/\IsPart u o/\Q o H') X.xe s
def tNoPart:TO:=λ_ H Q=>Q none H
def wd (t:TE):TO:=λσ H Q=>t σ H λx H1=>∃i,x = .int i/\Q (some i) H1
section
variable {X:Cx}{e:Expr}{te:TE}{lo hi:Option Expr}{tl th:TO}{pos p2:Pos}
theorem i9:PO X none tNoPart:=by
 intro pins s σ H Q I h;rw[DM];exact wv ⟨none,H,I,.none,h⟩
theorem g6 (h:PE X e te):PO X (some e) (wd te):=by
 intro pins s σ H Q I hw;rw[evalPart_some];refine thn (h pins s σ H _ I hw) λu s1 ⟨x,H1,I1,r1,q1⟩=>?_;obtain⟨i,rfl,q⟩:=q1;obtain⟨t,rfl⟩:=r1;exact⟨some i,H1,I1,.int i t,q⟩
def SlR (X:Cx)(r:V->Option Int->Option Int->Hp->VK->Prop):Prop :=
 ∀(pins:List (Addr×Obj)) (s:dL) (σ:St) (H:Hp) (x:V) (v vl vu:bd) (lo hi:Option Int) (sl:Addr) (Q:VK),Inv X pins σ H s->RelV x v->s.heap.IsSliceOf sl vl vu .none->IsPart vl lo->IsPart vu hi->r x lo hi H Q ->
  ∃T id,CH (.type T) "__getitem__" = pure (some (.builtin id))/\s.TypeIs v T/\o0 (sK X.prog X.w) X.A (Co v (.ref sl)) (EP X pins σ Q) X.xe s
def tSl (r:V->Option Int->Option Int->Hp->VK->Prop)(te:TE)(tl th:TO):TE:=λσ H Q=>te σ H λx H1=>tl σ H1 λl H2=>th σ H2 λu H3=>r x l u H3 Q
theorem gB {r:V->Option Int->Option Int->Hp->VK->Prop}(hr:SlR X r)(he:PE X e te)(hl:PO X lo tl)(hu:PO X hi th):PE X (.Subscript e (.Slice lo hi none p2) pos) (tSl r te tl th):=by
 intro pins s σ H Q I h;refine Ds (thn (he pins s σ H _ I h) λv s1 ⟨x,H1,I1,r1,q1⟩=>?_);refine wpAny_Slice (thn (hl pins s1 σ H1 _ I1 q1) λvl s2 ⟨l,H2,I2,pl,q2⟩=>thn (hu pins s2 σ H2 _ I2 q2) λvu s3 ⟨u,H3,I3,pu,q3⟩=>?_);rw[DM];refine wv ?_;have I4:Inv X pins σ H3 {s3 with heap:=s3.heap.push {cls:=.type "slice",data:=.fields #[vl,vu,.none]}}:=I3.kept (t':=s3.toks) λb ob q=>im _ q;obtain⟨T,id,hT,ht,hg⟩:=hr pins {s3 with heap:=s3.heap.push {cls:=.type "slice",data:=.fields #[vl,vu,.none]}} σ H3 x v vl vu l u s3.heap.objs.size Q I4 r1 (CO ..) pl pu q3;show o0 (sK X.prog X.w) X.A (Cw e (.Slice lo hi none p2) v (.ref s3.heap.objs.size)) (EP X pins σ Q) X.xe {s3 with heap:=s3.heap.push {cls:=.type "slice",data:=.fields #[vl,vu,.none]}};exact tail_any (ops:=[.ref s3.heap.objs.size,v]) ht hT hg (by with_unfolding_all rfl)
def cutV (xs:List V)(lo hi:Option Int):List V:=(xs.drop (HT.sIx xs.length 0 lo)).take (HT.sIx xs.length xs.length hi - HT.sIx xs.length 0 lo)
theorem nF (xs:List V)(lo hi:Option Int):(cutV xs lo hi).length<=xs.length:=by
 unfold cutV;rw[yZ,Cz];omega
def xO (K:ac):R2:=λx y H Q=>∃a b xs ys,x = .ref a/\y = .ref b/\SqT K H a xs/\SqT K H b ys/\xs≠[]/\xs.length+ys.length<=ww /\
 (ys=[]->Q (.ref a) H)/\(ys≠[]->∀p,H p=none->Q (.ref p) (upd H p (.tup (xs++ys))))
theorem Vals.nil_iff {xs:List V}{us:List bd}(r:Vals xs us):us=[]↔xs=[]:=by
 cases r with
 | nil=>simp
 | cons _ _=>simp
theorem ve:OpR X (Aj .Add) (xO X.K):=by
 intro pins s σ H x y v u Q I rx ry h;obtain⟨a,b,xs,ys,rfl,rfl,ha,hb,hx,hz,q1,q2⟩:=h;cases rx
 cases ry
 obtain⟨its,r1,p1,_⟩:=I.tuple ha;obtain⟨its2,r2,p2,_⟩:=I.tuple hb;refine HT.cat_tup p1 p2 (λz=>hx (r1.nil_iff.mp z)) (λz=>⟨.ref a,H,I,rfl,q1 (r2.nil_iff.mp z)⟩) (λz=>?_) (by rw[<- r1.length,<- r2.length];exact hz);refine⟨.ref s.heap.objs.size,_,I.laid (t':=s.toks) (o:=.tup (xs++ys)) (λb ob q=>im _ q) (lw _) ?_,rfl,q2 (λw=>z (r2.nil_iff.mpr w)) _ (I.hok.fresh (lw _))⟩;exact⟨by rw[ms];exact hz,_,r1.append r2,Fz _ _⟩
end
def ixN (n:Nat)(i:Int):Option Nat:=if 0<=i then(if i<n then some i.toNat else none)else if -(n:Int)<=i then some (i+n).toNat else none
def atI {α:Type}(xs:List α)(i:Int):Option α:=(ixN xs.length i).bind λj=>xs[j]?
theorem vq {n:Nat}{i:Int}{j:Nat}(h:ixN n i=some j):seqIndex? i n=some j/\j<n/\-(n:Int)<=i/\i<n:=by
 unfold ixN at h;by_cases h0:0<=i
 ·rw[if_pos h0]at h;by_cases h1:i<n
  ·rw[if_pos h1]at h;have e:i.toNat=j:=zC h;exact⟨by rw[seqIndex_of h0 h1,e],by omega,by omega,h1⟩
  ·rw[if_neg h1]at h;cases h
 ·rw[if_neg h0]at h;by_cases h1:-(n:Int)<=i
  ·rw[if_pos h1]at h;have e:(i+n).toNat=j:=zC h;exact⟨by rw[seqIndex_neg (by omega) h1,e],by omega,h1,by omega⟩
  ·rw[if_neg h1]at h;cases h
theorem nM {α:Type}{xs:List α}{i:Int}{v:α}(h:atI xs i=some v):∃j,seqIndex? i xs.length=some j/\xs[j]? = some v/\j<xs.length/\-(xs.length:Int)<=i/\i<xs.length:=by
 unfold atI at h;cases e:ixN xs.length i with
 | none=>rw[e]at h;cases h
 | some j =>
  rw[e]at h;obtain⟨h1,h2,h3,h4⟩:=vq e;exact⟨j,h1,h,h2,h3,h4⟩
theorem lq {α:Type}{xs:List α}{j:Nat}{v:α}(h:xs[j]? = some v):atI xs (j:Int)=some v:=by
 have hj:j<xs.length:=(kt.mp h).1;have e:ixN xs.length (j:Int)=some j:=by
  unfold ixN;rw[if_pos (by omega),if_pos (by omega)];simp
 unfold atI;rw[e];exact h
def vT (b:Expr):Prop:=∀o i,Ci b false o i=E7 [o,i] (Co o i)
def IxR (X:Cx)(r:R2):Prop :=
 ∀(value slice:Expr) (pins:List (Addr×Obj)) (s:dL) (σ:St) (H:Hp) (x y:V) (v u:bd) (Q:VK),Inv X pins σ H s->RelV x v->RelV y u->r x y H Q ->
  Ci slice false v u=E7 [v,u] (Co v u)->o0 (sK X.prog X.w) X.A (Cw value slice v u) (EP X pins σ Q) X.xe s
def MtR (X:Cx)(id:String)(r:V->List V->Hp->VK->Prop):Prop :=
 ∀(pins:List (Addr×Obj)) (s:dL) (σ:St) (H:Hp) (x:V) (xs:List V) (v:bd) (us:List bd) (Q:VK),Inv X pins σ H s->RelV x v->Vals xs us->r x xs H Q ->
  o0 (sK X.prog X.w) X.A (call (.builtin id) (v::us)) (EP X pins σ Q) X.xe s
section
variable {X:Cx}{a b:Expr}{ta tb:TE}{pos:Pos}
theorem IxR.or {r r':R2}(h:IxR X r)(h':IxR X r'):IxR X (λx y H Q=>r x y H Q∨r' x y H Q):=by
 intro value slice pins s σ H x y v u Q I rx ry q hs;rcases q with q | q
 ·exact h value slice pins s σ H x y v u Q I rx ry q hs
 ·exact h' value slice pins s σ H x y v u Q I rx ry q hs
theorem bK {r:R2}(hr:IxR X r)(ha:PE X a ta)(hb:PE X b tb)(hs:vT b):PE X (.Subscript a b pos) (tOp r ta tb):=by
 intro pins s σ H Q I h;exact Ds (binT ha hb I h λv u s2 x y H2 I2 rx ry q=>hr a b pins s2 σ H2 x y v u Q I2 rx ry q (hs _ _))
def rIxL (K:ac):R2:=λx y H Q=>∃p xs i v,x = .ref p/\y = .int i/\SqL K H p xs/\atI xs i=some v/\Q v H
def rIxT (K:ac):R2:=λx y H Q=>∃p xs i v,x = .ref p/\y = .int i/\SqT K H p xs/\atI xs i=some v/\Q v H
def rIxS:R2:=λx y H Q=>∃z i c,x = .str z/\y = .int i/\z.length<=ww/\atI z.cps.toList i=some c/\Q (.str ⟨#[c]⟩) H
theorem vp:IxR X (rIxL X.K):=by
 intro value slice pins s σ H x y v u Q I rx ry h hs;obtain⟨p,xs,i,z,rfl,rfl,hq,he,q⟩:=h;cases rx
 obtain⟨t,rfl⟩:=ry;obtain⟨its,r,pl,hz⟩:=I.list hq;obtain⟨j,h1,h2,h3,h4,h5⟩:=nM he;obtain⟨w,ew,rw'⟩:=r.get h2;have hl:=r.length;have hn:=lV;have fin:EP X pins σ Q w s:=⟨z,H,I,rw',q⟩
 by_cases h0:0<=i
 ·have hj:i.toNat=j:=by
   rw[seqIndex_of h0 h5]at h1;exact zC h1
  exact item_listR pl.isList h0 (by omega) (by rw[hj];simpa using ew) fin hs
 ·have hj:(i+(its.toArray.size:Int)).toNat=j:=by
   rw[seqIndex_neg (by omega) h4]at h1;rw[li,<- hl];exact zC h1
  exact D9 (x:=w) pl.isList.typeIs CV.lookup
   (wpAny_getItem_list_neg (Q:=λr s'=>r=w/\EP X pins σ Q r s') pl.isList (by omega) (by rw[li] <;> omega) (by omega) (by rw[hj];simpa using ew) ⟨rfl,fin⟩) hs
theorem w6:IxR X (rIxT X.K):=by
 intro value slice pins s σ H x y v u Q I rx ry h hs;obtain⟨p,xs,i,z,rfl,rfl,hq,he,q⟩:=h;cases rx
 obtain⟨t,rfl⟩:=ry;obtain⟨its,r,pl,hz⟩:=I.tuple hq;obtain⟨j,h1,h2,h3,h4,h5⟩:=nM he;obtain⟨w,ew,rw'⟩:=r.get h2;have hl:=r.length;have hn:=lV;have fin:EP X pins σ Q w s:=⟨z,H,I,rw',q⟩
 exact D9 (x:=w) pl.typeIs slot_tuple_getitem.lookup
  (getItem_tuple (j:=j) (Q:=λr s'=>r=w/\EP X pins σ Q r s') pl (by omega) (by omega) (by rw[li,<- hl];exact h1) (by simpa using ew) ⟨rfl,fin⟩) hs
theorem w9:IxR X rIxS:=by
 intro value slice pins s σ H x y v u Q I rx ry h hs;obtain⟨z,i,c,rfl,rfl,hz,he,q⟩:=h;obtain⟨t,rfl⟩:=rx;obtain⟨t',rfl⟩:=ry;obtain⟨j,h1,h2,h3,h4,h5⟩:=nM he;have hl:z.cps.toList.length=z.length:=by simp[Str.length]
 rw[hl]at h1 h4 h5;have hn:=lV;exact tail_any (typeIs_str s z t) slot_str_getitem.lookup (getItem_str (c:=c) (by
  have e1:decide (i < -(2^63:Int))=false:=decide_eq_false (by omega);have e2:decide (i>=2^63)=false:=decide_eq_false (by omega);rw[e1,e2,E1]) (by rw[h1];simpa using h2) ⟨.str ⟨#[c]⟩,H,I.tok _,⟨_,rfl⟩,q⟩) hs
def rIx (K:ac):R2:=λx y H Q=>rIxL K x y H Q∨rIxT K x y H Q∨rIxS x y H Q
theorem w_:IxR X (rIx X.K):=vp.or (w6.or w9)
theorem lI (lo hi:Option Int)(n:Nat):(Be lo hi none n).1=((HT.sIx n 0 lo:Nat):Int)/\(Be lo hi none n).2.1=((HT.sIx n n hi:Nat):Int)/\(Be lo hi none n).2.2=1:=by
 refine⟨?_,?_,rfl⟩
 ·cases lo with
  | none=>simp[Be,HT.sIx]
  | some i =>
   simp only[Be,HT.sIx,D2,show(1:Int) > 0 by decide,if_true];by_cases h:i<0
   ·simp only[h,if_true] <;> omega
   ·simp only[h,if_false] <;> omega
 ·cases hi with
  | none=>simp[Be,HT.sIx]
  | some i =>
   simp only[Be,HT.sIx,D2,show(1:Int) > 0 by decide,if_true];by_cases h:i<0
   ·simp only[h,if_true] <;> omega
   ·simp only[h,if_false] <;> omega
theorem kG (its:List bd)(lo hi:Option Int):slicePick its.toArray lo hi none=((its.drop (HT.sIx its.length 0 lo)).take (HT.sIx its.length its.length hi - HT.sIx its.length 0 lo)).toArray:=by
 obtain⟨h1,h2,h3⟩:=lI lo hi its.toArray.size;unfold slicePick;rw[h1,h2,h3];simp only[sliceRange_one,pick_run,li] <;> rfl
def rSlL (K:ac):V->Option Int->Option Int->Hp->VK->Prop:=λx lo hi H Q=>∃a xs,x = .ref a/\SqL K H a xs/\∀p,H p=none->Q (.ref p) (upd H p (.lst (cutV xs lo hi)))
theorem uY:SlR X (rSlL X.K):=by
 intro pins s σ H x v vl vu lo hi sl Q I rx hs pl pu h;obtain⟨a,xs,rfl,hx,q⟩:=h;cases rx
 obtain⟨its,r,ht,hz⟩:=I.list hx;have hlen:=r.length;refine⟨"list",_,CV.lookup,ht.isList.typeIs,?_⟩;refine DJ ht.isList hs pl pu .none (by simp) ?_ (by rw[li] <;> omega);rw[kG,<- hlen];refine⟨.ref s.heap.objs.size,_,I.laid (t':=s.toks) (o:=.lst (cutV xs lo hi)) (λb ob q=>im _ q) (lw _) ?_,rfl,q _ (I.hok.fresh (lw _))⟩;exact⟨yt (nF xs lo hi) hz,_,0,(r.drop (HT.sIx xs.length 0 lo)).take (HT.sIx xs.length xs.length hi - HT.sIx xs.length 0 lo),xL _ rfl⟩
theorem mw:iD X (.builtin "len") (λxs H Q=>∃p ys,xs=[.ref p]/\(SqL X.K H p ys∨SqT X.K H p ys)/\Q (.int ys.length) H):=by
 intro pins s σ H xs us Q I r h;obtain⟨p,ys,rfl,hq,q⟩:=h;obtain⟨u,rfl,rx⟩:=kh r;cases rx
 have hn:=lV;rcases hq with hq | hq
 ·obtain⟨its,r',pl,hz⟩:=I.list hq;have hlen:=r'.length;exact Calls.call_len_list pl.isList (by simp only[li] <;> omega) ⟨.int ys.length,H,I.tok _,⟨s.toks+1,by rw[li,hlen]⟩,q⟩
 ·obtain⟨its,r',pl,hz⟩:=I.tuple hq;have hlen:=r'.length;exact len_tuple pl (by simp only[li] <;> omega) ⟨.int ys.length,H,I.tok _,⟨s.toks+1,by rw[li,hlen]⟩,q⟩
theorem mv:iD X (.type "list") (λxs H Q=>∃p ys,xs=[.ref p]/\(SqL X.K H p ys∨SqT X.K H p ys)/\∀l,H l=none->Q (.ref l) (upd H l (.lst ys))):=by
 intro pins s σ H xs us Q I r h;obtain⟨p,ys,rfl,hq,q⟩:=h;obtain⟨u,rfl,rx⟩:=kh r;cases rx
 have fin:∀(its:List bd),Vals ys its->ys.length<=ww->∀(h':Heap) (c':Nat),(∀b o',s.heap.get? b=some o'->h'.get? b=some o') ->
   h'.get? s.heap.objs.size=some {cls:=.type "list",dict:=none,data:=.seq its.toArray c',slots:=#[]}->EP X pins σ Q (.ref s.heap.objs.size) {s with heap:=h'}:=λits r' hz h' c' kp e =>
  ⟨.ref s.heap.objs.size,_,I.laid (t':=s.toks) kp (lw _) (show c_ X.prog X.w _ h' _ (.lst ys)from⟨hz,its,c',r',e⟩),rfl,q _ (I.hok.fresh (lw _))⟩
 rcases hq with hq | hq
 ·obtain⟨its,r',pl,hz⟩:=I.list hq;have hlen:=r'.length;obtain⟨o,ho,hc,n,hd⟩:=pl.isList;exact call_list_seq p (.inl rfl) ho hc hd (λh' c' kp e=>fin its r' hz h' c' kp e) (by simp only[li] <;> omega)
 ·obtain⟨its,r',pl,hz⟩:=I.tuple hq;have hlen:=r'.length;obtain⟨o,ho,hc,n,hd⟩:=pl;exact call_list_seq p (.inr rfl) ho hc hd (λh' c' kp e=>fin its r' hz h' c' kp e) (by simp only[li] <;> omega)
theorem lj:iD X (.type "tuple") (λxs H Q=>∃p ys,xs=[.ref p]/\((SqL X.K H p ys/\∀l,H l=none->Q (.ref l) (upd H l (.tup ys)))∨(SqT X.K H p ys/\Q (.ref p) H))):=by
 intro pins s σ H xs us Q I r h;obtain⟨p,ys,rfl,h⟩:=h;obtain⟨u,rfl,rx⟩:=kh r;cases rx
 rcases h with⟨hq,q⟩ | ⟨hq,q⟩
 ·obtain⟨its,r',pl,hz⟩:=I.list hq;have hlen:=r'.length;refine call_tuple_list pl.isList (λh' kp=>?_) (by simp only[li] <;> omega);have I1:Inv X pins σ H {s with heap:=h'}:=I.kept (t':=s.toks) kp;have I2:Inv X pins σ (upd H h'.objs.size (.tup ys)) {s with heap:=h'.push {cls:=.type "tuple",data:=.seq its.toArray}} :=
   I1.laid (t':=s.toks) (λb o e=>im _ e) (lw _) (show c_ X.prog X.w _ _ _ (.tup ys)from⟨hz,its,r',Fz _ _⟩)
  exact⟨.ref h'.objs.size,_,I2,rfl,q _ (I1.hok.fresh (lw _))⟩
 ·obtain⟨its,r',pl,hz⟩:=I.tuple hq;exact call_tuple_same pl ⟨.ref p,H,I,rfl,q⟩
def tyV (K:ac)(T:String)(x:V)(H:Hp):Prop:=match x with
 | .str _=>T = "str"
 | .int _=>T = "int"
 | .ref p=>(T = "list" /\ ∃xs,SqL K H p xs)∨(T = "tuple" /\ ∃o,K.lookup p=some o/\o.cls = .type "tuple" /\ o.dict=none) ∨
   (T = "dict" /\ ((∃kvs,H p=some (.dK kvs)) ∨ ∃kvs,H p=some (.dT kvs)))∨(T = "set" /\ ∃S n,H p=some (.set S n))
 | _=>False
theorem v5 {pins:List (Addr×Obj)}{σ:St}{H:Hp}{s:dL}{T:String}{x:V}{v:bd}(I:Inv X pins σ H s)(r:RelV x v)(ty:tyV X.K T x H) :
  s.TypeIs v T/\∀a,v = .ref a->∃ob,s.heap.get? a=some ob/\ob.dict=none:=by
 cases x with
 | str z =>
  obtain⟨t,rfl⟩:=r;cases (show T = "str" from ty)
  exact⟨typeIs_str s z t,λ_ e=>nomatch e⟩
 | int i =>
  obtain⟨t,rfl⟩:=r;cases (show T = "int" from ty)
  exact⟨typeIs_int s i t,λ_ e=>nomatch e⟩
 | ref p =>
  cases r
  rcases ty with⟨rfl,xs,hq⟩ | ⟨rfl,o,hk,hc,hd⟩ | ⟨rfl,hk⟩ | ⟨rfl,S,n,hk⟩
  ·obtain⟨its,_,pl,_⟩:=I.list hq;refine⟨pl.isList.typeIs,λa e=>?_⟩;cases e
   obtain⟨o,n,e,c,hd,_⟩:=pl;exact⟨o,e,hd⟩
  ·refine⟨⟨o,I.kIn p o hk,hc⟩,λa e=>?_⟩;cases e
   exact⟨o,I.kIn _ o hk,hd⟩
  ·have z:∃o,s.heap.get? p=some o/\o.ExactDict:=by
    rcases hk with⟨kvs,hk⟩ | ⟨kvs,hk⟩
    ·obtain⟨_,_,_,_,o,_,_,e,ex,_⟩:=I.hok p _ hk;exact⟨o,e,ex⟩
    ·obtain⟨_,_,_,_,o,_,_,e,ex,_⟩:=I.hok p _ hk;exact⟨o,e,ex⟩
   obtain⟨o,e,ex⟩:=z;refine⟨⟨o,e,ex.1⟩,λa e2=>?_⟩;cases e2
   exact⟨o,e,ex.2.1⟩
  ·obtain⟨o,_,_,_,e,ex,_⟩:=I.hok p _ hk;refine⟨⟨o,e,ex.1⟩,λa e2=>?_⟩;cases e2
   exact⟨o,e,ex.2.1⟩
 | _=>exact yD ty
def tBM (K:ac)(T:String)(r:V->List V->Hp->VK->Prop)(to:TE)(t:TA):TE:=λσ H Q=>to σ H λx H1=>tyV K T x H1/\t σ H1 λxs H2=>r x xs H2 Q
variable {o e:Expr}{es:List Expr}{to:TE}{t:TA}{name:Str}{apos cpos:Pos}{T id:String}{r:V->List V->Hp->VK->Prop}
theorem xQ (pa:PlainAttrs T)(slot:Slot T name id)(hty:typeOf (.builtin id)=pure (.type "method_descriptor"))(hm:MtR X id r)(ho:PE X o to)(ha:PA X (e::es) t)
  (hbase:attributeBase o name X.env (eval o X.env)=eval o X.env:=by rfl)
  (hfew:((Al cpos (yu (e::es) X.env)).all (λx=>!x.1)&&(backToKw cpos (EA [] X.env)).all (λx=>x.1.isSome)
   && decide ((e::es).length+([]:List Ff).length+(if([]:List Ff).isEmpty then 0 else 1)<30))=true:=by rfl)
  (hline:(apos.endLine==cpos.line)=true:=by rfl) (hs:yu (e::es) X.env=(false,eval e X.env)::yu es X.env:=by rfl) (hplain:(Al cpos (yu es X.env)).any (·.1)=false:=by rfl) :
  PE X (.Call (.Attribute o name apos) (e::es) [] cpos) (tBM X.K T r to t):=by
 intro pins s σ H Q I h;refine wpAny_Call_method_late hbase hfew hline rfl (thn (ho pins s σ H _ I h) λv s1 ⟨x,H1,I1,r1,ty,q1⟩=>?_);obtain⟨h1,h2⟩:=v5 I1 r1 ty;refine⟨T,id,pa,slot,hty,h1,h2,?_⟩;have hA:=ha cpos pins s1 σ H1 _ I1 q1;rw[hs]at hA ⊢;refine Dh (by show(false||(Al cpos (yu es X.env)).any (·.1))=false;rw[hplain] <;> rfl) (AR ?_);exact thn hA λus s2 ⟨vs,H2,I2,r2,q2⟩=>hm pins s2 σ H2 x vs v us Q I2 r1 r2 q2
end
def MtM (X:Cx)(id:String)(r:V->List V->Hp->VK->Prop):Prop :=
 ∀(pins:List (Addr×Obj)) (s:dL) (σ:St) (H:Hp) (x:V) (xs:List V) (v:bd) (us:List bd) (Q:VK),Inv X pins σ H s->RelV x v->Vals xs us->r x xs H Q ->
  o0 (sK X.prog X.w) X.A (call (.builtin id) (v::us)) (EP X pins σ Q) X.xe s
theorem Vals.one:∀ {x:V} {us:List bd},Vals [x] us->∃u,us=[u]/\RelV x u
 | _,_,.cons r .nil=>⟨_,rfl,r⟩
section
variable {X:Cx}{pins:List (Addr×Obj)}{σ:St}{H:Hp}{s:dL}{l b:Addr}{xs ys zs:List V}
theorem Inv.lset {its its':List bd}{n:Nat}{f:Array bd->Array bd}{t':Nat}(I:Inv X pins σ H s)(hH:H l=some (.lst xs))
  (e:s.heap.get? l=some {cls:=.type "list",data:=.seq its.toArray n}) (hf:f its.toArray=its'.toArray) (hv:Vals ys its') (hz:ys.length<=ww) :
  Inv X pins σ (upd H l (.lst ys)) {s with heap:=s.heap.update l (zE f),toks:=t'}:=by
 have q:=B_ e f;rw[hf]at q;refine I.write (x:=l) (e:=l) (by rw[hH];exact trivial) (.inl rfl) (λb' u hb hu=>(sB s.heap (zE f) (zd hb)).trans hu) ⟨_,q⟩ ?_;exact⟨hz,its',_,hv,q⟩
theorem Inv.lstM (I:Inv X pins σ H s)(hH:H l=some (.lst xs)):xs.length<=ww/\∃(its:List bd) (n:Nat),Vals xs its/\xs.length=its.length/\s.heap.get? l=some {cls:=.type "list",data:=.seq its.toArray n}:=by
 obtain⟨z,its,n,r,e⟩:=I.hok l _ hH;exact⟨z,its,n,r,r.length,e⟩
end
section
variable {X:Cx}
def rAppend:V->List V->Hp->VK->Prop:=λx vs H Q=>∃l xs y,x = .ref l/\vs=[y]/\H l=some (.lst xs)/\xs.length<ww/\Q .non (upd H l (.lst (xs++[y])))
theorem bO:MtM X "list.append" rAppend:=by
 intro pins s σ H x vs v us Q I rx rv h;obtain⟨l,xs,y,rfl,rfl,hH,hz,q⟩:=h;cases rx
 obtain⟨u,rfl,ru⟩:=rv.one;obtain⟨z,its,n,r,hl,e⟩:=I.lstM hH;refine EW wP ⟨_,e,rfl⟩ Cn (Cb _ _) (Cm l its.toArray n u (by rw[li];omega)) ⟨e,?_⟩;refine⟨.non,_,I.lset (its':=its++[u]) hH e (by simp) (r.append (.cons ru .nil)) ?_,rfl,q⟩;rw[ms,yr];omega
end
section
variable {κ:Type} [DecidableEq κ]
def valV (kvs:List (κ×V))(k:κ):Option V:=(kvs.find? λkv=>decide (kv.1=k)).map (·.2)
def putK (kvs:List (κ×V))(k:κ)(v:V):List (κ×V) :=
 if(kvs.any λkv=>decide (kv.1=k))=true then kvs.map (λkv=>if kv.1=k then(kv.1,v)else kv)else kvs++[(k,v)]
theorem iE {p:κ×V}{r:List (κ×V)}{k:κ}(e:p.1=k):valV (p::r) k=some p.2:=by simp[valV,zp,e]
theorem iF {p:κ×V}{r:List (κ×V)}{k:κ}(e:¬p.1=k):valV (p::r) k=valV r k:=by simp[valV,zp,e]
theorem nU (k:κ):∀kvs:List (κ×V),(kvs.any λkv=>decide (kv.1=k))=(valV kvs k).isSome
 | []=>rfl
 | p::r=>by
  rw[Bv];by_cases e:p.1=k
  ·simp only[iE e,decide_eq_true e,Bool.true_or,DB]
  ·rw[iF e,decide_eq_false e,E2];exact nU k r
theorem gj (kvs:List (κ×V))(k:κ)(v:V):(putK kvs k v).length<=kvs.length+1:=by
 unfold putK;split
 ·rw[db];omega
 ·rw[ms,wS,AW];omega
theorem RelO.isSome_eq {o:Option V}{u:Option bd}(r:RelO o u):o.isSome=u.isSome:=by
 cases o with
 | none=>cases u with
  | none=>rfl
  | some _=>exact(show False from r).elim
 | some _=>cases u with
  | none=>exact(show False from r).elim
  | some _=>rfl
theorem KV.val {kvs:List (κ×V)}{vs:List (κ×bd)}(r:KV kvs vs)(k:κ):RelO (valV kvs k) (CU vs k):=by
 unfold KV at r;induction r with
 | nil=>exact True.intro
 | @cons p q ps qs h t ih =>
  obtain⟨h1,h2⟩:=h;by_cases e:p.1=k
  ·have e':q.1=k:=h1.symm.trans e;have b:CU (q::qs) k=some q.2:=by simp[CU,zp,e']
   rw[iE e,b];exact h2
  ·have e':¬q.1=k:=λz=>e (h1.trans z);have b:CU (q::qs) k=CU qs k:=by simp[CU,zp,e']
   rw[iF e,b];exact ih
theorem KV.any {kvs:List (κ×V)}{vs:List (κ×bd)}(r:KV kvs vs)(k:κ):(kvs.any λkv=>decide (kv.1=k))=vs.any λkv=>decide (kv.1=k):=by
 unfold KV at r;induction r with
 | nil=>rfl
 | cons h t ih=>rw[Bv,Bv,ih,h.1]
theorem KV.repl {kvs:List (κ×V)}{vs:List (κ×bd)}(r:KV kvs vs)(k:κ){y:V}{u:bd}(ry:RelV y u) :
  KV (kvs.map λkv=>if kv.1=k then(kv.1,y)else kv) (vs.map λkv=>if kv.1=k then(kv.1,u)else kv):=by
 unfold KV at r ⊢;induction r with
 | nil=>exact .nil
 | @cons p q ps qs h t ih =>
  rw[yy,yy];refine .cons ?_ ih;obtain⟨h1,h2⟩:=h;by_cases e:p.1=k
  ·rw[if_pos e,if_pos (h1.symm.trans e)];exact⟨h1,ry⟩
  ·rw[if_neg e,if_neg (λz=>e (h1.trans z))];exact⟨h1,h2⟩
theorem KV.put {kvs:List (κ×V)}{vs:List (κ×bd)}(r:KV kvs vs)(k:κ){y:V}{u:bd}(ry:RelV y u):KV (putK kvs k y) (stored vs k u):=by
 unfold putK stored;rw[r.any k];by_cases e:(vs.any λkv=>decide (kv.1=k))=true
 ·rw[if_pos e,if_pos e];exact r.repl k ry
 ·rw[if_neg e,if_neg e];exact EY r ⟨rfl,ry⟩
theorem KV.length {kvs:List (κ×V)}{vs:List (κ×bd)}(r:KV kvs vs):kvs.length=vs.length:=BZ r
end
theorem qS {P:wl}{w:yF}{k:Key}{u:bd}(r:RelV (kV k) u):(cC P w).is k u=true:=by
 cases k with
 | inl i=>obtain⟨t,e⟩:=(show ∃t,u=Value.int i t from r);subst e;exact m7 P w i t
 | inr x=>obtain⟨t,e⟩:=(show ∃t,u=Value.str x t from r);subst e;exact m6 P w x t
theorem lX {P:wl}{w:yF}:∀ {ks:List Key} {us:List bd},Vals (ks.map kV) us->ItemsAre (cC P w) ks us
 | [],_,r=>by rw[Ba]at r;cases r;exact .nil
 | k::ks,_,r=>by
  rw[yy]at r;cases r with
  | cons h t=>exact .cons (qS h) (lX t)
abbrev KT (H:Hp):List (List Key×V)->List (List Key×Addr×bd)->Prop:=Du λp q=>p.1=q.1/\H q.2.1=some (.tup (p.1.map kV))/\RelV p.2 q.2.2
theorem KT.val {H:Hp}{kvs:List (List Key×V)}{xs:List (List Key×Addr×bd)}(r:KT H kvs xs)(k:List Key):RelO (valV kvs k) ((Dr xs k).map (·.2)):=by
 induction r with
 | nil=>exact True.intro
 | @cons p q ps qs h t ih =>
  obtain⟨h1,_,h2⟩:=h;by_cases e:p.1=k
  ·have e':q.1=k:=h1.symm.trans e;have b:Dr (q::qs) k=some q.2:=by simp[Dr,zp,e']
   rw[iE e,b];exact h2
  ·have e':¬q.1=k:=λz=>e (h1.trans z);have b:Dr (q::qs) k=Dr qs k:=by simp[Dr,zp,e']
   rw[iF e,b];exact ih
theorem KT.repl {H:Hp}{kvs:List (List Key×V)}{xs:List (List Key×Addr×bd)}(r:KT H kvs xs)(k:List Key){y:V}{u:bd}(ry:RelV y u) :
  KT H (kvs.map λkv=>if kv.1=k then(kv.1,y)else kv) (xs.map (putAt k u)):=by
 induction r with
 | nil=>exact .nil
 | @cons p q ps qs h t ih =>
  rw[yy,yy];refine .cons ?_ ih;obtain⟨h1,h2,h3⟩:=h;unfold putAt;by_cases e:p.1=k
  ·rw[if_pos e,if_pos (h1.symm.trans e)];exact⟨h1,h2,ry⟩
  ·rw[if_neg e,if_neg (λz=>e (h1.trans z))];exact⟨h1,h2,h3⟩
theorem KT.put {H:Hp}{kvs:List (List Key×V)}{xs:List (List Key×Addr×bd)}(r:KT H kvs xs)(k:List Key){b:Addr}{y:V}{u:bd}(hb:H b=some (.tup (k.map kV)))(ry:RelV y u) :
  KT H (putK kvs k y) (storedH xs k b u):=by
 have e:(kvs.any λkv=>decide (kv.1=k))=(Dr xs k).isSome:=by
  rw[nU,(r.val k).isSome_eq,DO]
 unfold putK storedH;rw[e];by_cases q:(Dr xs k).isSome=true
 ·rw[if_pos q,if_pos q];exact r.repl k ry
 ·rw[if_neg q,if_neg q];exact EY r ⟨rfl,hb,ry⟩
theorem KT.keeps {H H':Hp}{kvs:List (List Key×V)}{xs:List (List Key×Addr×bd)}(r:KT H kvs xs)(ht:∀b ys,H b=some (.tup ys)->H' b=some (.tup ys)):KT H' kvs xs :=
 Paired.mapP r λ_ _ z=>⟨z.1,ht _ _ z.2.1,z.2.2⟩
section
variable {P:wl}{w:yF}{H:Hp}{h:Heap}{a:Addr}
theorem wu {u:HO}(ok:HOk P w H h)(e:Rd H a u):c_ P w H h a u:=e.ok ok
theorem tq {kvs:List (Key×V)}(ok:HOk P w H h)(e:Rd H a (.dK kvs)):kvs.length<=ww/\(a==At)=false/\∃vs,KV kvs vs/\h.DictOf (cC P w) a vs :=
 show c_ P w H h a (.dK kvs)from wu ok e
theorem xp {kvs:List (Key×V)}(ok:HOk P w H h)(e:H a=some (.dK kvs)):kvs.length<=ww/\(a==At)=false/\∃vs,KV kvs vs/\h.DictOf (cC P w) a vs:=tq ok (.inl e)
theorem oB {ks:List Key}(ok:HOk P w H h)(e:H a=some (.tup (ks.map kV))):(C6 (cC P w)).is h ks a:=by
 obtain⟨_,its,r,o,h1,h2,n,h3⟩:=(show c_ P w H h a (.tup (ks.map kV))from ok a _ e)
 exact⟨o,its.toArray,n,h1,h2,h3,by simpa using lX r⟩
theorem tm {kvs:List (List Key×V)}(ok:HOk P w H h)(e:Rd H a (.dT kvs)):kvs.length<=ww/\(a==At)=false /\
  ∃xs,KT H kvs xs/\h.DictOfH (C6 (cC P w)) a xs:=by
 obtain⟨z,y,xs,r,o,es,ep,h1,h2,h3,h4,h5⟩:=(show c_ P w H h a (.dT kvs)from wu ok e)
 refine⟨z,y,xs,r,o,es,ep,h1,h2,h3,h4,λx hx=>?_,h5⟩;have all:∀ {l:List (List Key×V)} {m:List (List Key×Addr×bd)},KT H l m->∀x∈m,(C6 (cC P w)).is h x.1 x.2.1:=by
  intro l m q;induction q with
  | nil=>intro x hx;exact nomatch hx
  | @cons p q ps qs hq t ih =>
   intro x hx;rcases wn.mp hx with e | hx
   ·subst e;exact oB ok (by rw[<- hq.1];exact hq.2.1)
   ·exact ih x hx
 exact all r x hx
theorem xY {kvs:List (List Key×V)}(ok:HOk P w H h)(e:H a=some (.dT kvs)):kvs.length<=ww/\(a==At)=false /\
  ∃xs,KT H kvs xs/\h.DictOfH (C6 (cC P w)) a xs:=tm ok (.inl e)
end
def DGet (H:Hp)(a:Addr)(y:V)(r:Option V):Prop :=
 (∃kvs k,Rd H a (.dK kvs)/\y=kV k/\r=valV kvs k) ∨ ∃kvs k b,Rd H a (.dT kvs)/\y = .ref b/\H b=some (.tup (k.map kV))/\r=valV kvs k
def DPut (H:Hp)(a:Addr)(y v:V)(H':Hp):Prop :=
 (∃kvs k,H a=some (.dK kvs)/\y=kV k/\kvs.length<ww/\H'=upd H a (.dK (putK kvs k v))) ∨
 ∃kvs k b,H a=some (.dT kvs)/\y = .ref b/\H b=some (.tup (k.map kV))/\kvs.length<ww/\H'=upd H a (.dT (putK kvs k v))
theorem DGet.k {H:Hp}{a:Addr}{kvs:List (Key×V)}{k:Key}(e:H a=some (.dK kvs)):DGet H a (kV k) (valV kvs k):=.inl ⟨kvs,k,.inl e,rfl,rfl⟩
theorem DPut.k {H:Hp}{a:Addr}{kvs:List (Key×V)}{k:Key}{v:V}(e:H a=some (.dK kvs))(hl:kvs.length<ww):DPut H a (kV k) v (upd H a (.dK (putK kvs k v))):=.inl ⟨kvs,k,e,rfl,hl,rfl⟩
section
variable {X:Cx}{pins:List (Addr×Obj)}{σ:St}{H:Hp}{s:dL}{a:Addr}{y v:V}{u r:bd}{o:Option V}{A:yI}{E:bd->dL->Prop}
theorem Inv.big (I:Inv X pins σ H s):At<s.heap.objs.size:=by
 have h:yk<s.heap.objs.size:=(I.mod.glob.keeps I.bk).lt;exact Ar (by decide) h
theorem rC {Q:bd->dL->Prop}(hu:A.units+1<Bf)(I:Inv X pins σ H s)(g:DGet H a y (some v))(ry:RelV y u)(h:∀w' s',Inv X pins σ H s'->RelV v w'->Q w' s') :
  o0 (sK X.prog X.w) A (Co (.ref a) u) Q E s:=by
 rcases g with⟨kvs,k,e,ey,l⟩ | ⟨kvs,k,b,e,ey,eb,l⟩
 ·subst ey;obtain⟨z,hd,vs,rel,dd⟩:=tq I.hok e;obtain⟨w',hw,rw'⟩:=RelO.some_of (v:=v) (o:=CU vs k) (by rw[l];exact rel.val k);exact wpAny_getItem_of (qS ry) dd.mapOf hw (h w' _ (I.tok _) rw')
 ·subst ey;cases (show u=Value.ref b from ry)
  obtain⟨z,hd,xs,rel,dd⟩:=tm I.hok e;obtain⟨w',hw,rw'⟩:=RelO.some_of (v:=v) (o:=(Dr xs k).map (·.2)) (by rw[l];exact rel.val k);obtain⟨p,hp,hp2⟩:=wp.mp hw;refine wpAny_getItem_heap (CI hu) (oB I.hok eb) dd hp ?_;rw[hp2];exact h w' _ (I.tok _) rw'
theorem vE {Q:bd->dL->Prop}(hu:A.units+1<Bf)(I:Inv X pins σ H s)(g:DGet H a y o)(ry:RelV y u)(h:∀s',Inv X pins σ H s'->Q (.bool (!o.isSome)) s') :
  o0 (sK X.prog X.w) A (A2 .NotIn u (.ref a)) Q E s:=by
 rcases g with⟨kvs,k,e,ey,l⟩ | ⟨kvs,k,b,e,ey,eb,l⟩
 ·subst ey;obtain⟨z,hd,vs,rel,dd⟩:=tq I.hok e;refine wpAny_notIn_of (qS ry) hd dd.mapOf ?_;rw[<- (rel.val k).isSome_eq,<- l];exact h _ (I.tok _)
 ·subst ey;cases (show u=Value.ref b from ry)
  obtain⟨z,hd,xs,rel,dd⟩:=tm I.hok e;refine wpAny_notIn_heap (CI hu) (oB I.hok eb) hd dd ?_;have q:=(rel.val k).isSome_eq;rw[DO]at q;rw[<- q,<- l];exact h _ (I.tok _)
theorem nE {h':Heap}{t':Nat}{ob:HO}(I:Inv X pins σ H s)(mu:Mut (H a))(hs:zf a s.heap h')(he:∃q,h'.get? a=some q)(new:c_ X.prog X.w (upd H a ob) h' a ob) :
  Inv X pins σ (upd H a ob) {s with heap:=h',toks:=t'} :=
 I.write (x:=a) (e:=a) mu (.inl rfl) (λb q hb z=>(hs.2 b hb).trans z) he new
theorem um {P:wl}{w:yF}{H':Hp}{h':Heap}{kvs:List (Key×V)}{vs:List (Key×bd)}(z:kvs.length<=ww)(hd:(a==At)=false)(rel:KV kvs vs)(dd:h'.DictOf (cC P w) a vs) :
  c_ P w H' h' a (.dK kvs):=⟨z,hd,vs,rel,dd⟩
theorem rB {H':Hp}{Q:Unit->dL->Prop}(hu:A.units+1<Bf)(I:Inv X pins σ H s)(g:DPut H a y v H')(ry:RelV y u)(rv:RelV v r)(h:∀s',Inv X pins σ H' s'->Q () s') :
  o0 (sK X.prog X.w) A (setItem (.ref a) u r) Q E s:=by
 rcases g with⟨kvs,k,e,ey,l,eH⟩ | ⟨kvs,k,b,e,ey,eb,l,eH⟩
 ·subst ey eH;obtain⟨z,hd,vs,rel,dd⟩:=xp I.hok e;have hz:vs.length<=ww:=by rw[<- rel.length];exact z
  have hl:(putK kvs k v).length<=ww:=by have:=gj kvs k v;omega
  refine wpAny_setItem_pairs (hsz:=hz) (qS ry) dd λh' dd' hs=>h _ ?_;have he:∃q,h'.get? a=some q:=let ⟨q,_,_,hq,_⟩:=dd';⟨q,hq⟩;exact nE I (by rw[e];exact True.intro) hs he (um hl hd (rel.put k rv) dd')
 ·subst ey eH;cases (show u=Value.ref b from ry)
  obtain⟨z,hd,xs,rel,dd⟩:=xY I.hok e;have hz:xs.length<=ww:=by rw[<- BZ rel];exact z
  have hl:(putK kvs k v).length<=ww:=by have:=gj kvs k v;omega
  refine wpAny_setItem_heap (hsz:=hz) (CI hu) (oB I.hok eb) dd λh' dd' hs=>h _ ?_;obtain⟨q,es,ep,hq,h2,h3,h4,_,h5⟩:=dd';refine nE I (by rw[e];exact True.intro) hs ⟨q,hq⟩ ⟨hl,hd,_,(rel.put k eb rv).keeps λc ys ec=>?_,q,es,ep,hq,h2,h3,h4,h5⟩;rw[aU (vh ec e (λz=>nomatch z))];exact ec
end
def NoSl (i:Expr):Prop:=∀ov iv,Ci i false ov iv=E7 [ov,iv] (Co ov iv)
theorem uS {prog:wl}{w:yF}{A:yI}{E:bd->dL->Prop}{s:dL}{env:Env}{value slice:Expr}{pos:Pos}{T id:String}{Q:bd->dL->Prop}
  (hl:CH (.type T) "__getitem__" = pure (some (.builtin id))) (hs:NoSl slice)
  (h:o0 (sK prog w) A (eval value env) (λo s₁=>o0 (sK prog w) A (eval slice env) (λi s₂=>s₂.TypeIs o T/\o0 (sK prog w) A (Co o i) Q E s₂) E s₁) E s) :
  o0 (sK prog w) A (eval (.Subscript value slice pos) env) Q E s:=by
 refine Ds (yJ h (λo s₁ h₁=>yJ h₁ (λi s₂ h₂=>?_) λ_ _ x=>x) λ_ _ x=>x);obtain⟨hT,h₂⟩:=h₂;unfold Cw;refine bn ?_;rw[getitemInPython_of_ne hT.not_modules];refine bn (B5 hT hl ?_);have fin:o0 (sK prog w) A (Ci slice false o i) (λr s₃=>o0 (sK prog w) A (letTemporaryGo value o r>>=λ_=>pure r) Q E s₃) E s₂:=by
  rw[hs o i];exact wpAny_operating (yJ h₂ (λr s₃ h₃=>bn (wpAny_letTemporaryGo (wv h₃))) λ_ _ x=>x)
 first
  | exact wv (bn fin)
  | exact bn (wv (bn fin))
  | exact bn fin
theorem nA {X:Cx}{pins:List (Addr×Obj)}{σ:St}{H:Hp}{s:dL}{a:Addr}{y:V}{o:Option V}(I:Inv X pins σ H s)(g:DGet H a y o):s.TypeIs (.ref a) "dict" := by
 rcases g with⟨kvs,k,e,_,_⟩ | ⟨kvs,k,b,e,_,_,_⟩
 ·obtain⟨_,_,vs,_,dd⟩:=tq I.hok e;exact dd.typeIs
 ·obtain⟨_,_,xs,_,dd⟩:=tm I.hok e;exact dd.typeIs
def xN (td ty:TE):TE:=λσ H Q=>td σ H λx H1=>ty σ H1 λy H2=>∃a v,x = .ref a/\DGet H2 a y (some v)/\Q v H2
def qc (ty td:TE):TE:=λσ H Q=>ty σ H λy H1=>td σ H1 λx H2=>∃a o,x = .ref a/\DGet H2 a y o/\Q (.bl (!o.isSome)) H2
def wo (td ty tv:TE):TS:=λD σ H=>tv σ H λv H1=>td σ H1 λx H2=>ty σ H2 λy H3=>∃a H4,x = .ref a/\DPut H3 a y v H4/\D.nx σ H4
section
variable {X:Cx}{o i e value:Expr}{pos pos' tpos:Pos}{td ty tv:TE}
theorem jb (hu:X.A.units+1<Bf)(ho:PE X o td)(hi:PE X i ty)(hs:NoSl i):PE X (.Subscript o i pos) (xN td ty):=by
 intro pins s σ H Q I h;refine uS PySem.F.slot_dict_getitem.lookup hs (thn (ho pins s σ H _ I h) λu s1 ⟨x,H1,I1,rx,q1⟩=>thn (hi pins s1 σ H1 _ I1 q1) λiv s2 ⟨y,H2,I2,ry,a,v,ex,g,q2⟩=>?_);subst ex;obtain rfl:u=Value.ref a:=rx;exact⟨nA I2 g,rC hu I2 g ry λw' s3 I3 rw'=>⟨v,H2,I3,rw',q2⟩⟩
theorem qJ (hu:X.A.units+1<Bf)(hi:PE X i ty)(ho:PE X o td):PC X .NotIn i o (qc ty td):=by
 intro pins s σ H Q I h;refine thn (hi pins s σ H _ I h) λiv s1 ⟨y,H1,I1,ry,q1⟩=>thn (ho pins s1 σ H1 _ I1 q1) λu s2 ⟨x,H2,I2,rx,a,ov,ex,g,q2⟩=>?_;subst ex;obtain rfl:u=Value.ref a:=rx;exact vE hu I2 g ry λs3 I3=>⟨.bl (!ov.isSome),H2,I3,rfl,q2⟩
theorem i8 (hu:X.A.units+1<Bf)(ho:PE X o td)(hi:PE X i ty)(hv:PE X value tv)(hs:AJ value (some (.Subscript o i pos')) pos.line X.env=pure false) :
  PS X (.Assign [.Subscript o i pos'] value pos) (wo td ty tv):=by
 intro pins s σ H D I h;refine wpAny_Assign_Subscript (thn (hv pins s σ H _ I h) λr s1 ⟨v,H1,I1,rv,q1⟩=>thn (ho pins s1 σ H1 _ I1 q1) λu s2 ⟨x,H2,I2,rx,q2⟩=>thn (hi pins s2 σ H2 _ I2 q2) λiv s3 ⟨y,H3,I3,ry,a,H4,ex,g,q3⟩=>?_) hs;subst ex;obtain rfl:u=Value.ref a:=rx;exact rB hu I3 g ry rv λs4 I4=>⟨σ,H4,I4,q3⟩
end
theorem oM {P:wl}{w:yF}{H:Hp}(h:Heap)(hb:At<h.objs.size):c_ P w H (h.push {cls:=.type "dict",data:=.dict #[]}) h.objs.size (.dK []) :=
 ⟨yz _,beq_eq_false_iff_ne.mpr (zd (yn hb)),[],.nil,Heap.DictOf.new h⟩
def tDNewK:TE:=λ_ H Q=>∀p,H p=none->Q (.ref p) (upd H p (.dK []))
section
variable {X:Cx}{pos:Pos}
theorem sN:PE X (.Dict [] [] pos) tDNewK:=λpins s σ H Q I h =>
 wpAny_Dict_empty ⟨.ref s.heap.objs.size,_,I.laid (a:=s.heap.objs.size) (o:=.dK []) (t':=s.toks) (λ_ _ q=>im _ q) (lw _) (oM s.heap I.big),rfl,h _ (I.hok.fresh (lw _))⟩
end
def qb:List (TE×TE)->St->Hp->(List (V×V)->Hp->Prop)->Prop
 | [],_,H,Q=>Q [] H
 | (tk,tv)::r,σ,H,Q=>tk σ H λx H1=>tv σ H1 λy H2=>qb r σ H2 λps H3=>Q ((x,y)::ps) H3
abbrev VV:List (V×V)->List (bd×bd)->Prop:=Du λp q=>RelV p.1 q.1/\RelV p.2 q.2
def PPs (X:Cx)(pos:Pos)(keys:List (Option Expr))(values:List Expr)(trs:List (TE×TE)):Prop :=
 ∀(pins:List (Addr×Obj)) (s:dL) (σ:St) (H:Hp) (Q:List (V×V)->Hp->Prop),Inv X pins σ H s->qb trs σ H Q ->
  o0 (sK X.prog X.w) X.A (evalPairs (pairTrees keys values X.env pos)) (λvs s'=>∃ps H',Inv X pins σ H' s'/\VV ps vs/\Q ps H') X.xe s
theorem u7 {X:Cx}{pos:Pos}:PPs X pos [] [] []:=λpins s σ H Q I h=>pairTrees_nil_walk ⟨[],H,I,.nil,h⟩
theorem kM {X:Cx}{pos:Pos}{k v:Expr}{ks:List (Option Expr)}{vs:List Expr}{tk tv:TE}{trs:List (TE×TE)}(hk:PE X k tk)(hv:PE X v tv)(hr:PPs X pos ks vs trs) :
  PPs X pos (some k::ks) (v::vs) ((tk,tv)::trs):=λpins s σ H Q I h =>
 pairTrees_cons_walk (thn (hk pins s σ H _ I h) λu s1 ⟨x,H1,I1,rx,q1⟩=>thn (hv pins s1 σ H1 _ I1 q1) λw2 s2 ⟨y,H2,I2,ry,q2⟩ =>
  thn (hr pins s2 σ H2 _ I2 q2) λws s3 ⟨ps,H3,I3,rel,q3⟩=>⟨(x,y)::ps,H3,I3,.cons ⟨rx,ry⟩ rel,q3⟩)
def jr (kvs more:List (Key×V)):List (Key×V):=more.foldl (λacc kv=>putK acc kv.1 kv.2) kvs
theorem KV.merge:∀ {more:List (Key×V)} {rs:List (Key×bd)} {kvs:List (Key×V)} {vs:List (Key×bd)},KV more rs->KV kvs vs->KV (jr kvs more) (merged vs rs):=by
 intro more rs kvs vs r;unfold KV at r;induction r generalizing kvs vs with
 | nil=>intro q;exact q
 | @cons p q ps qs h t ih =>
  intro r0;have e:KV (putK kvs p.1 p.2) (stored vs q.1 q.2):=by
   have:=r0.put p.1 h.2;rw[<- h.1];exact this
  exact ih e
theorem gO:∀(more kvs:List (Key×V)),(jr kvs more).length<=kvs.length+more.length
 | [],kvs=>by show kvs.length<=kvs.length+0;omega
 | p::r,kvs=>by
  have h1:=gO r (putK kvs p.1 p.2);have h2:=gj kvs p.1 p.2;show(jr (putK kvs p.1 p.2) r).length<=_;rw[wS];omega
theorem ke {P:wl}{w:yF}:∀ {kvs:List (Key×V)} {ws:List (bd×bd)},VV (kvs.map λkv=>(kV kv.1,kv.2)) ws->∃rs,Carries (cC P w) ws rs/\KV kvs rs
 | [],_,r=>by rw[Ba]at r;cases r;exact⟨[],True.intro,.nil⟩
 | p::kvs,_,r=>by
  rw[yy]at r;cases r with
  | @cons a b as bs h t =>
   obtain⟨rs,c,q⟩:=ke (P:=P) (w:=w) t;obtain⟨b1,b2⟩:=b;exact⟨(p.1,b2)::rs,⟨qS h.1,rfl,c⟩,.cons ⟨rfl,h.2⟩ q⟩
def xM (trs:List (TE×TE)):TE:=λσ H Q=>∀p,H p=none->qb trs σ (upd H p (.dK [])) λps H2=>H2 p=some (.dK [])/\∃kvs:List (Key×V),ps=kvs.map (λkv=>(kV kv.1,kv.2))/\kvs.length<=15/\Q (.ref p) (upd H2 p (.dK (jr [] kvs)))
theorem va {X:Cx}{pos:Pos}{keys:List (Option Expr)}{values:List Expr}{trs:List (TE×TE)}(h:PPs X pos keys values trs)(hall:keys.all (·.isSome)=true)(hl:keys.length=values.length)(h0:keys≠[])
  (h15:keys.length<=15):PE X (.Dict keys values pos) (xM trs):=by
 intro pins s σ H Q I q;have hn:=I.hok.fresh (lw s.heap.objs.size);have I1:=I.laid (a:=s.heap.objs.size) (o:=.dK []) (h':=s.heap.push {cls:=.type "dict",data:=.dict #[]}) (t':=s.toks) (λ_ _ q=>im _ q) (lw _) (oM s.heap I.big);refine wpAny_Dict_walk (knd:=cC X.prog X.w) hall hl h0 h15 (thn (h pins _ σ _ _ I1 (q _ hn)) λws s2 ⟨ps,H2,I2,rel,e,kvs,ep,lk,q2⟩=>?_);subst ep;obtain⟨rs,c,rk⟩:=ke (P:=X.prog) (w:=X.w) rel;obtain⟨z,hd,vs0,r0,dd⟩:=xp I2.hok e;cases r0
 refine⟨rs,c,dd,λh' dd' hs=>⟨.ref s.heap.objs.size,_,?_,rfl,q2⟩⟩;have hz:(jr [] kvs).length<=ww:=by
  have h1:=gO kvs [];rw[AW]at h1;rw[z8];omega
 have he:∃q,h'.get? s.heap.objs.size=some q:=let ⟨q,_,_,hq,_⟩:=dd';⟨q,hq⟩;exact nE I2 (by rw[e];exact True.intro) hs he (um hz hd (rk.merge .nil) dd')
end L2
namespace Att
open PySem PySem.W PySem.Calls PyProof.Rows
theorem ju {P:Params}{h:Heap}:∀(ns:List Int) (vs:List bd),WellAll P h vs (ns.map WData.int)->Ej vs ns:=by
 intro ns;induction ns with
 | nil =>
  intro vs w;rw[Ba]at w;cases w
  exact .nil
 | cons n ns ih =>
  intro vs w;rw[yy]at w;cases w with
  | cons a b =>
   cases a
   exact .cons _ _ (ih _ b)
theorem ql {l:D1}{n:Nat}(hn:l.most=some n){P:Params}{h:Heap}{args:List WData}{vals:List bd}
  (hpre:l.row.toRowW.claim.pre args=true) (hwl:WellAll P h vals args) :
  ∃a vs ns,vals=[Value.ref a]/\args=[WData.list (ns.map WData.int)]/\h.get? a=some {cls:=.type "list",data:=.seq vs.toArray}/\Ej vs ns/\ns.length<=n:=by
 have hsh:WShape.hasAll [] args [.list .int]=true:=(pre_splitW hpre).1;have hc:l.pre.holds [] {args:=args}=true:=(pre_splitW hpre).2;obtain⟨d,r,rfl,h1,h2⟩:=hasAllW_cons hsh;obtain rfl:=hasAllW_nil h2;obtain⟨xs,rfl,h3⟩:=hasW_list h1;obtain⟨ns,rfl⟩:=items_int h3;have hlen:ns.length<=n:=by
  unfold OpenLaw.pre at hc;have h4:(WTm.not (.lt (.lit (.int (n:Int))) (.len (.arg 0)))).holds [] {args:=[.list (ns.map .int)]}=true:=by
   have h4:=(holds_andW hc).1;rw[hn]at h4;exact h4
  have h5:=condW_of h4 (w_not (w_lt w_lit (w_len_list (w_arg rfl))));rw[db]at h5;refine Nat.le_of_not_lt λq=>?_;have q':(n:Int)<((ns.length:Nat):Int):=by omega
  first
   | (rw[decide_eq_true q']at h5;exact absurd h5 (by decide))
   | (simp at h5;omega)
 cases hwl with
 | cons w1 w2 =>
  cases w2
  cases w1 with
  | list ho hall=>exact⟨_,_,ns,rfl,rfl,ho,ju ns _ hall,hlen⟩
theorem qE (l:D1)(args:List WData):l.row.toRowW.claim.post args (.bool true) args=true :=
 postW_of (r:=l.row.toRowW) (X:=(true==true))
  (show Fa [] (.bool true) .bool=true by first | rfl | decide | simp[Fa,WShape.arms,WShape.armsAll])
  (show(WTm.eq .res (.lit (.bool true))).value [] {args:=args,res:=some (.bool true),after:=args}=some (.bool (true==true))from w_eq_bool (w_res rfl) w_lit) rfl
theorem attach_call {l:D1}{n:Nat}{q:wl}{loose:List Str}{XP:(Str->Option bd)->Heap->Prop}{YP:yF->Heap->Prop}{d:DefRec}
  (hn:l.most=some n) (hdf:d.params.defaults=[])
  (call:∀(w:yF) (s₀ s₁:dL) (mg mb:Str->Option bd) (fa:Addr) (o:Obj) (pm cd doc:bd) (a:Addr) (vs:List bd) (ns:List Int),
   Ground q loose [] XP w s₀ mg mb s₁.heap->YP w s₁.heap ->
   s₁.heap.get? fa=some o->o.data = .func (docDef d.name d.params d.body d.scope pm cd doc)->s₁.heap.CodeRec cd d.name->mg d.name=some (.ref fa) ->
   s₁.heap.get? a=some {cls:=.type "list",data:=.seq vs.toArray}->Ej vs ns->ns.length<=n->s₁.gens = #[] ->
   A_ (sK l.prog w) Cp (.call (.ref fa) ⟨[.ref a],[]⟩) (λr s'=>r = .ok (.ret (.bool true))/\OldK s₁.heap s'.heap/\s'.os=s₁.os/\BG s'.gens) s₁) :
  Eu q loose XP YP l.row.toRowW d [] (λf vs=>DN f vs):=by
 intro w s₀ s₁ mg mb G Y fa o pm cd doc dV kV ho hd hcd hD hmg hg args vals as hpre hlay hrd hwl hlo;obtain rfl:dV = .none:=Dflts.none hD hdf;obtain rfl:kV = .none:=Dflts.noKw hD;obtain⟨a,vs,ns,rfl,rfl,hobj,hints,hlen⟩:=ql hn hpre hwl;refine enter_call (BW (call w s₀ s₁ mg mb fa o pm cd doc a vs ns G Y ho (fd_plain hd) hcd hmg hobj hints hlen hg) λr s' hq=>?_);obtain⟨rfl,h2,h3,h4⟩:=hq;exact⟨.inl ⟨.bool true,.bool true,[],rfl,λ_=>rfl,.bool true,qE l _,λ_=>⟨List.Pairwise.nil,λ_ hm=>(nomatch hm)⟩⟩,h2,h3,h4⟩
end Att
namespace L2
open PySem PySem.Spec PyProof.Rows
theorem lB:∀ {vs:List bd} {ns:List Int},Ej vs ns->Vals (ns.map V.int) vs
 | _,_,.nil=>.nil
 | _,_,.cons n t h=>.cons ⟨t,rfl⟩ (lB h)
def Only (H:Hp):Prop:=∀b,H b=none ∨ ∃o xs,H b=some (.frz o (.lst xs))
theorem sU {P:wl}{w:yF}{K:ac}{mg mb:Str->Option bd}{CX:CXT}{k:Nat}{fa a:Addr}{fd:Ay}{x:Str}{sp:Sp}{s₁:dL}{vs:List bd}{ns:List Int}
  (KX:K.In s₁.heap) (hns:s₁.heap.Ns yk mg) (hb:s₁.heap.Ns EX mb) (hbb:∀x:Str,x ≠ "__name__" -> mb x=zH x) (hlim:s₁.heap.NoLimit) (hg:s₁.gens = #[])
  (ha:s₁.heap.get? a=some {cls:=.type "list",data:=.seq vs.toArray}) (hi:Ej vs ns) (hl:ns.length<=ww) (hr:Room k Cp)
  (F:∀base:Heap,K.In base->base.Ns yk mg->FnOk P w K mg base CX k fa fd [x] sp) (hbind:∀(s:dL) (u:bd),Dl s fd ⟨[u],[]⟩ [(x,u)])
  (hsp:∀H:Hp,Only H->SqL K H a (ns.map V.int)->sp [.ref a] H (λv _=>v = .bl true) λ_ _ _=>False)
  (hCX:∀H e s',CX [] H s₁ (λ_ _ _=>False) e s'->False) :
  A_ (sK P w) Cp (.call (.ref fa) ⟨[.ref a],[]⟩) (λr s'=>r = .ok (.ret (.bool true))/\OldK s₁.heap s'.heap/\s'.os=s₁.os/\BG s'.gens) s₁:=by
 have rv:=lB hi;have lenV:=hi.length;have core:∀H:Hp,Only H->SqL K H a (ns.map V.int)->HOk P w H s₁.heap->(∀b,H b≠none->b=a)->(H a≠none->K.lookup a=none) ->
   A_ (sK P w) Cp (.call (.ref fa) ⟨[.ref a],[]⟩) (λr s'=>r = .ok (.ret (.bool true))/\OldK s₁.heap s'.heap/\s'.os=s₁.os/\BG s'.gens) s₁:=by
  intro H hO hS hok hA hK;have base_of:∀ {b:Addr} {o:Obj},s₁.heap.get? b=some o->H b=none->(hidT s₁.heap H).get? b=some o:=λe n=>sZ e n;have noA:∀ {b:Addr} {o:Obj} {es:Array DictEntry} {ep:Nat},s₁.heap.get? b=some o->o.data = .dict es ep->H b=none:=λ{b o es ep} e d=>by
   cases q:H b with
   | none=>rfl
   | some u =>
    have e':b=a:=hA b (by rw[q];simp);subst e';rw[ha]at e;cases e;have d':Data.seq vs.toArray _=Data.dict es ep:=d;cases d'
  have nsK:∀ {b:Addr} {m:Str->Option bd},s₁.heap.Ns b m->(hidT s₁.heap H).Ns b m:=λ{b m} ⟨o,es,ep,e,d,r⟩=>⟨o,es,ep,base_of e (noA e d),d,r⟩
  have hKb:K.In (hidT s₁.heap H):=λb o e=>base_of (KX b o e) (by
   cases q:H b with
   | none=>rfl
   | some u =>
    have e':b=a:=hA b (by rw[q];simp);subst e';rw[hK (by rw[q];simp)]at e;cases e)
  have hM:Mod K mg (hidT s₁.heap H):=⟨hKb,nsK hns,⟨mb,nsK hb,hbb⟩,let ⟨mc,h1,h2⟩:=hlim;⟨mc,nsK h1,h2⟩⟩
  have e0:Env0 P w K mg (hidT s₁.heap H) Cp [] s₁ H:=⟨rfl,hM,λb o e=>vf e,Dy (qY _ _),trivial,λb hb=>absurd (show b∈([]:List Addr)from hb) (by simp),hok,.of_eq hg⟩
  refine BW ((F _ hKb (nsK hns)).run Cp [] s₁ H ⟨[.ref a],[]⟩ [.ref a] [.ref a] _ _ hr e0 (hbind s₁ (.ref a)) (.cons rfl .nil) (hsp H hO hS)) λr s' h=>?_;cases r with
  | error e=>exact(hCX H e s' h).elim
  | ok fl =>
   cases fl with
   | next=>exact yD h
   | brk=>exact yD h
   | cont=>exact yD h
   | ret u =>
    obtain⟨v,H',os,bare,un,hok',r',q⟩:=h;have q':v = .bl true:=q;subst q';obtain rfl:u=Value.bool true:=r';refine⟨rfl,OldK.of_keep λb o e=>?_,os,bare⟩;cases q:H b with
    | none=>exact un.keep b o e q (by intro z;exact absurd (show b∈([]:List Addr)from z) (by simp)) (by simp)
    | some u =>
     rcases hO b with z | ⟨ob,xs,z⟩
     ·rw[q]at z;cases z
     ·have z2:=un.frzs b ob _ z;obtain⟨e1,_⟩:=hok b _ z;obtain⟨e2,_⟩:=hok' b _ z2;rw[e]at e1;cases e1;exact e2
 cases hk:K.lookup a with
 | some o =>
  have e:=KX a o hk;rw[ha]at e;cases e
  refine core (λ_=>none) (λ_=>.inl rfl) (.inr ⟨_,vs.toArray,_,hk,rfl,rfl,rfl,by rw[li,lenV];exact hl,by simpa using rv⟩) (λb u z=>by have z':(none:Option HO)=some u:=z;cases z') (λb z=>absurd rfl z) λz=>absurd rfl z
 | none =>
  refine core (λb=>if b=a then some (.frz {cls:=.type "list",data:=.seq vs.toArray} (.lst (ns.map V.int)))else none) (λb=>?_) (.inl (.inr ⟨{cls:=.type "list",data:=.seq vs.toArray},if_pos rfl⟩)) (λb u z=>?_) (λb z=>?_) λ_=>hk
  ·by_cases hb:b=a
   ·exact .inr ⟨_,_,if_pos hb⟩
   ·exact .inl (if_neg hb)
  ·by_cases hb:b=a
   ·have z':=(if_pos hb).symm.trans z;cases z'
    subst hb;exact⟨ha,by rw[db];exact hl,vs,_,rv,ha⟩
   ·have z':=(if_neg hb).symm.trans z;cases z'
  ·by_cases hb:b=a
   ·exact hb
   ·exact absurd (if_neg hb) z
abbrev KOf {K:ac}{h:Heap}(_:K.In h):ac:=K
theorem uy {l:D1}{n k:Nat}{q:wl}{loose:List Str}{XP:(Str->Option bd)->Heap->Prop}{YP:yF->Heap->Prop}{d:DefRec}{K:Params->ac}{CX:yF->CXT}{sp:yF->Sp}{x:Str}
  (hn:l.most=some n) (hn2:n<=ww) (hdf:d.params.defaults=[]) (hr:Room k Cp)
  (hY:∀(w:yF) (h:Heap),YP w h->(K w.params).In h)
  (F:∀(w:yF) (mg:Str->Option bd) (fa:Addr) (h:Heap),(K w.params).In h->h.Ns yk mg->mg d.name=some (.ref fa) ->
   ∃fd:Ay,(∀(s:dL) (u:bd),Dl s fd ⟨[u],[]⟩ [(x,u)]) /\
    ∀base:Heap,(K w.params).In base->base.Ns yk mg->FnOk l.prog w (K w.params) mg base (CX w) k fa fd [x] (sp w))
  (hsp:∀(w:yF) (H:Hp) (a:Addr) (ns:List Int),ns.length<=n->Only H->SqL (K w.params) H a (ns.map V.int)->sp w [.ref a] H (λv _=>v = .bl true) λ_ _ _=>False)
  (hCX:∀(w:yF) (H:Hp) (s:dL) (e:bd) (s':dL),CX w [] H s (λ_ _ _=>False) e s'->False) :
  Eu q loose XP YP l.row.toRowW d [] (λf vs=>DN f vs):=by
 refine Att.attach_call hn hdf λw s₀ s₁ mg mb fa o pm cd doc a vs ns G Y ho hd hcd hmg hobj hints hlen hg=>?_;have KX:=hY w _ Y;obtain⟨fd,hb,hF⟩:=F w mg fa _ KX G.T.g hmg;exact sU KX G.T.g G.T.b G.T.builtins G.T.nolimit hg hobj hints (yt hlen hn2) hr hF hb (λH hO hS=>hsp w H a ns hlen hO hS) λH e s'=>hCX w H s₁ e s'
theorem se {l:D1}{n k:Nat}{q:wl}{loose:List Str}{XP:(Str->Option bd)->Heap->Prop}{YP:yF->Heap->Prop}{d:DefRec}{K:Params->ac}{CX:CXT}{sp:ac->Sp}{x:Str}
  (hn:l.most=some n) (hn2:n<=ww) (hdf:d.params.defaults=[]) (hr:Room k Cp)
  (hY:∀(w:yF) (h:Heap),YP w h->(K w.params).In h)
  (F:∀(w:yF) (mg:Str->Option bd) (fa:Addr) (h:Heap),(K w.params).In h->h.Ns yk mg->mg d.name=some (.ref fa) ->
   ∃fd:Ay,(∀(s:dL) (u:bd),Dl s fd ⟨[u],[]⟩ [(x,u)]) /\
    ∀base:Heap,(K w.params).In base->base.Ns yk mg->FnOk l.prog w (K w.params) mg base CX k fa fd [x] (sp (K w.params)))
  (hsp:∀(K:ac) (H:Hp) (a:Addr) (ns:List Int),ns.length<=n->Only H->SqL K H a (ns.map V.int)->sp K [.ref a] H (λv _=>v = .bl true) λ_ _ _=>False)
  (hCX:∀(H:Hp) (s:dL) (e:bd) (s':dL),CX [] H s (λ_ _ _=>False) e s'->False) :
  Eu q loose XP YP l.row.toRowW d [] (λf vs=>DN f vs) :=
 uy (K:=K) (CX:=λ_=>CX) (sp:=λw=>sp (K w.params)) hn hn2 hdf hr hY F (λw H a ns h1 h2 h3=>hsp (K w.params) H a ns h1 h2 h3) λ_ H s e s'=>hCX H s e s'
def eU (s:Stmt):Arguments:=match s with
 | .FunctionDef _ a _ _ _ _ _ _ _ _=>a
 | _=>{posonlyargs:=[],args:=[],vararg:=none,kwonlyargs:=[],kw_defaults:=[],kwarg:=none,defaults:=[]}
def cD (s:Stmt):List Stmt:=match s with
 | .FunctionDef _ _ b _ _ _ _ _ _ _=>b
 | _=>[]
def aM (s:Stmt):zA:=match s with
 | .FunctionDef _ _ _ _ _ _ sc _ _ _=>sc
 | _=>{kind:=.function,names:=[],isGenerator:=false,isCoroutine:=false}
abbrev CX0:CXT:=λ_ _ _ _ _ _=>False
abbrev E0:XK:=λ_ _ _=>False
theorem xR {X:Cx}:gW CX0 X E0:=λ_ _ _ _ _ _ _ h=>h.elim
structure Fun (K:ac)(x qual:Str)(st:Stmt)(f:Addr)(fd:Ay):Prop where
 ex:∃(oc:bd) (od:Option Addr) (kV doc pm:bd) (an:Option Addr) (cdv ct:bd) (osl:Array (Option bd)),
  fd=zN x qual (eU st) (cD st) (aM st) .none kV doc pm an cdv ct/\K.lookup f=some ⟨oc,od,.func fd,osl⟩/\Ag K cdv qual=true
 kp:zQ K (.ref f)=true
section
variable {P:wl}{w:yF}{K:ac}{mg:Str->Option bd}{base:Heap}
theorem Fun.ok {x qual:Str}{st:Stmt}{f:Addr}{fd:Ay}{N ps:List Str}{k:Nat}{sp:Sp}(F:Fun K x qual st f fd)(S:bG N ps (aM st))(len:∀vs H Q E,sp vs H Q E->vs.length=ps.length)
  (hbody:∀(cdv:bd) (A:yI) (outer:List Env) (s:dL) (H:Hp) (vs:List V) (Q:VK) (E:XK),Room k (A.deeper (A0 qual (aM st) s.heap.objs.size f cdv))->sp vs H Q E ->
   ∃t,PSs (cxOf CX0 P w K mg base N qual (aM st) f cdv A outer s H E).nox (cD st) t/\t {nx:=λ_ H'=>Q .non H',rt:=Q} (iu N vs) H):FnOk P w K mg base CX0 (k+1) f fd ps sp:=by
 obtain⟨oc,od,kV,doc,pm,an,cdv,ct,osl,rfl,lk,hcd⟩:=F.ex;refine xm lk hcd S len λA outer s H vs Q E hr hsp=>?_;obtain⟨t,h,q⟩:=hbody cdv A outer s H vs Q E hr hsp;exact⟨t,h.nox,q⟩
theorem uk {x qual:Str}{st:Stmt}{f:Addr}{oc:bd}{od an:Option Addr}{osl:Array (Option bd)}{kV doc pm cdv ct:bd}(l:K.lookup f=some ⟨oc,od,.func (zN x qual (eU st) (cD st) (aM st) .none kV doc pm an cdv ct),osl⟩)
  (c:Ag K cdv qual=true) (k:zQ K (.ref f)=true):Fun K x qual st f (zN x qual (eU st) (cD st) (aM st) .none kV doc pm an cdv ct):=⟨⟨oc,od,kV,doc,pm,an,cdv,ct,osl,rfl,l,c⟩,k⟩
end
theorem cR {A:yI}{k:Nat}(hr:Room k A):A.units+1<Bf:=Eg (Nat.add_le_add_left (by decide:1<=64) _) hr.units
theorem gy {n:Nat}(h:n<=1000):n<ww:=Eg h (by decide)
section
variable {X:Cx}
theorem pv (i:Nat){x:Str}{pos:Pos}(hN:X.N[i]? = some x:=by rfl)(hv:Vis X.env.scope x:=by first | exact Or.inl rfl | exact Or.inr (Or.inl rfl) | exact Or.inr (Or.inr rfl))(hd:(x==("__debug__" : Str))=false:=by decide)
  (hcd:(x==("__classdict__" : Str))=false:=by decide):PE X (.Name x pos) (tVar i):=wF hN hv hd hcd
end
theorem ite2 {c A B:Prop} [Decidable c](h1:c->A)(h2:¬c->B):if c then A else B:=by
 by_cases h:c
 ·rw[if_pos h];exact h1 h
 ·rw[if_neg h];exact h2 h
def Same (H H':Hp):Prop:=∀b o,H b=some o->H' b=some o
theorem Same.refl (H:Hp):Same H H:=λ_ _ h=>h
theorem Same.trans {H H1 H2:Hp}(a:Same H H1)(b:Same H1 H2):Same H H2:=λc o h=>b c o (a c o h)
theorem Same.free {H H':Hp}(e:Same H H'){l:Addr}(h:H' l=Option.none):H l=Option.none:=by
 cases q:H l with
 | none=>rfl
 | some o =>
  rw[e l o q]at h;cases h
theorem Same.seq {K:ac}{H H':Hp}{a:Addr}{xs:List V}(e:Same H H')(h:SqL K H a xs):SqL K H' a xs:=by
 rcases h with(h | ⟨o,h⟩) | h
 ·exact .inl (.inl (e _ _ h))
 ·exact .inl (.inr ⟨o,e _ _ h⟩)
 ·exact .inr h
def fC (cells:List (Str×Addr)):List (Str×zX)->List (Str×Addr)->List (Str×Addr)
 | [],cs=>cs
 | (n,k)::r,cs=>fC cells r (if k == .free then(match cells.lookup n with | some c=>(n,c)::cs | none=>cs)else cs)
def fg (scope:zA)(env:Env):List (Str×Addr):=fC env.cells scope.names []
theorem pR (env:Env):∀(names:List (Str×zX)) (cs:List (Str×Addr)),(∀x∈names,x.2 = .free->∃c,env.cells.lookup x.1=some c) ->
  (forIn names cs λ(x:Str×zX) (r:List (Str×Addr))=>(if(x.2 == .free)=true then(do let a <- EV env x.1;pure (ForInStep.yield ((x.1,a)::r)))else pure (ForInStep.yield r):Sem (ForInStep (List (Str×Addr)))))=pure (fC env.cells names cs):=by
 intro names;induction names with
 | nil=>intro cs _;rfl
 | cons x r ih =>
  intro cs h;obtain⟨n,k⟩:=x;rw[List.forIn_cons];have hr:∀y∈r,y.2 = .free->∃c,env.cells.lookup y.1=some c:=λy hy=>h y (yN _ hy);unfold fC;by_cases hk:k = .free
  ·subst hk;obtain⟨c,hc⟩:=h (n,.free) yW rfl;have e:EV env n=pure c:=by unfold EV;rw[hc]
   rw[if_pos (show(NameKind.free==NameKind.free)=true from rfl),if_pos (show(NameKind.free==NameKind.free)=true from rfl),hc];show(EV env n>>=λa=>_)>>=_=_;rw[e];exact ih _ hr
  ·have hb:(k==NameKind.free)=false:=by simpa using hk
   rw[if_neg (show ¬(k==NameKind.free)=true by rw[hb];exact zS),if_neg (show ¬(k==NameKind.free)=true by rw[hb];exact zS)];exact ih _ hr
theorem eV {scope:zA}{env:Env}(h:∀x∈scope.names,x.2 = .free->∃c,env.cells.lookup x.1=some c):CJ scope env=pure (fg scope env):=by
 have run:=pR env scope.names [] h;unfold CJ fg;have e:(forIn scope.names ([]:List (Str×Addr)) λ(x:Str×zX) (r:List (Str×Addr))=>(match x with
   | (name,kind)=>if(kind==NameKind.free)=true then(do let a <- EV env name;pure (ForInStep.yield ((name,a)::r)))else pure (ForInStep.yield r):Sem (ForInStep (List (Str×Addr)))))=pure (fC env.cells scope.names []):=run
 show(forIn scope.names ([]:List (Str×Addr)) _>>=λcs=>pure cs)=_;exact(congrArg (λm:Sem (List (Str×Addr))=>m>>=λcs=>pure cs) e)
theorem j8 (cells:List (Str×Addr)):∀(names:List (Str×zX)) (cs:List (Str×Addr)),(∀p∈cs,cells.lookup p.1=some p.2)->∀p∈fC cells names cs,cells.lookup p.1=some p.2
 | [],cs,h=>h
 | (n,k)::r,cs,h=>by
  unfold fC;refine j8 cells r _ λp hp=>?_;by_cases hk:(k==NameKind.free)=true
  ·rw[if_pos hk]at hp;cases e:cells.lookup n with
   | none=>rw[e]at hp;exact h p hp
   | some c =>
    rw[e]at hp;rcases wn.mp hp with rfl | hp
    ·exact e
    ·exact h p hp
  ·rw[if_neg hk]at hp;exact h p hp
theorem j7 {scope:zA}{env:Env}{x:Str}{c:Addr}(h:(fg scope env).lookup x=some c):env.cells.lookup x=some c :=
 j8 env.cells scope.names [] (λ_ z=>nomatch z) (x,c) (yL h)
theorem du {cs:List (Str×Addr)}{x:Str}{c:Addr}(h:(x,c)∈cs):∃d,cs.lookup x=some d:=by
 induction cs with
 | nil=>cases h
 | cons p r ih =>
  obtain⟨y,d⟩:=p;by_cases e:x==y
  ·exact⟨d,by rw[zz,e]⟩
  ·rcases wn.mp h with z | z
   ·cases z;simp at e
   ·obtain⟨d',q⟩:=ih z;exact⟨d',by simp only[Bool.not_eq_true]at e;rw[zz,e];exact q⟩
theorem jD (cells:List (Str×Addr)):∀(names:List (Str×zX)) (cs:List (Str×Addr)) (p:Str×Addr),p∈cs->p∈fC cells names cs
 | [],_,_,h=>h
 | (n,k)::r,cs,p,h=>by
  unfold fC;refine jD cells r _ p ?_;split
  ·split
   ·exact yN _ h
   ·exact h
  ·exact h
theorem j9 (cells:List (Str×Addr)){x:Str}{c:Addr}(hc:cells.lookup x=some c):∀(names:List (Str×zX)) (cs:List (Str×Addr)),(x,NameKind.free)∈names->(x,c)∈fC cells names cs
 | [],_,h=>nomatch h
 | (n,k)::r,cs,h=>by
  unfold fC;rcases wn.mp h with z | z
  ·cases z
   refine jD cells r _ _ ?_;rw[if_pos (show(NameKind.free==NameKind.free)=true from rfl),hc];exact yW
  ·exact j9 cells hc r _ z
theorem pQ {scope:zA}{env:Env}{x:Str}{c:Addr}(h:(x,NameKind.free)∈scope.names)(hc:env.cells.lookup x=some c):(fg scope env).lookup x=some c:=by
 obtain⟨d,e⟩:=du (j9 env.cells hc scope.names [] h);have e':(fg scope env).lookup x=some d:=e;rw[e',<- j7 e',hc]
def blk (X:Cx)(scope:zA)(N:List Str)(s:dL)(H:Hp)(C:Addr)(fp:List Addr):Cx where
 prog:=X.prog
 w:=X.w
 K:=X.K
 mg:=X.mg
 base:=X.base
 A:=X.A
 N:=N
 s₀:=s
 H₀:=H
 env:=EC scope (fg scope X.env) C X.env
 outer:=X.stack
 stack:=X.stack
 ex:=fp
 fn:=λ_=>false
 calm:=X.calm
 pn:=[]
 xe:=λ_ _=>False
def capt (σ:St)(js:List Nat):St:=js.map λj=>(σ[j]?).getD none
def capN (N:List Str)(js:List Nat):List Str:=js.map λj=>(N[j]?).getD ""
def bst (n:Nat)(σ:St)(js:List Nat):St:=pc n none++capt σ js
theorem jF {n:Nat}{σ:St}{js:List Nat}:(bst n σ js).length=n+js.length:=by unfold bst capt;simp
section
variable {P:wl}{w:yF}{A:yI}{R:Ec->dL->Prop}{s:dL}
theorem nH {elt tg iter:Expr}{ifs:List Expr}{scope:zA}{pos:Pos}{it acc:bd}{env:Env}(J:Nat->dL->Prop)
  (turn:∀n s,J n s->o0 (sK P w) A (Cj it) (λr s1=>match r with
   | none=>R (.ok .next) s1
   | some v=>o0 (sK P w) A (Bm tg it v) (λ_ s2=>o0 (sK P w) A (BJ tg env v) (λ_ s3 =>
     o0 (sK P w) A (forIn ifs true λc r=>if r=true then do let ok <- D_ c env (eval c env);pure (ForInStep.yield ok)else pure (ForInStep.yield r)) (λok s4 =>
      if ok=true then o0 (sK P w) A (eval elt env) (λx s5=>o0 (sK P w) A (call (.builtin "list.append") [acc,x]) (λ_ s6=>∃m,m<n/\J m s6) (λ_ _=>False) s5) (λ_ _=>False) s4
      else ∃m,m<n/\J m s4) (λ_ _=>False) s3) (λ_ _=>False) s2) (λ_ _=>False) s1) (λ_ _=>False) s)
  (n:Nat) (h:J n s):A_ (sK P w) A (.compLoop (.ListComp elt [⟨tg,iter,ifs,0⟩] scope pos) 0 it acc env) R s:=by
 have no:∀ {α:Type} {t:Sem α} {Q Q':α->dL->Prop} {E:bd->dL->Prop} {s:dL},o0 (sK P w) A t Q (λ_ _=>False) s->(∀a s,Q a s->Q' a s)->o0 (sK P w) A t Q' E s :=
  λh hq=>yJ h hq λ_ _ f=>f.elim
 refine codeAny_loop rfl J (λn s hJ=>?_) n h;show o0 _ A ((compTurn (.ListComp elt [⟨tg,iter,ifs,0⟩] scope pos) 0 it acc env).onRaise (λx=>do z7 x env;Fp x)) _ _ s;refine wpAny_noted ?_;rw[compTurn_list];refine bn (Ax (bn (no (turn n s hJ) λr s1 h1=>?_)));cases r with
 | none=>exact wv h1
 | some v =>
  refine bn (no h1 λ_ s2 h2=>bn (no h2 λ_ s3 h3=>bn (no h3 λok s4 h4=>?_)));cases ok with
  | false=>exact wv ⟨rfl,h4⟩
  | true=>exact bn (bn (no h4 λx s5 h5=>bn (no h5 λ_ s6 h6=>wv (wv ⟨rfl,h6⟩))))
end
def PTs (X:Cx)(ifs:List Expr)(t:TT):Prop :=
 ∀(pins:List (Addr×Obj)) (s:dL) (σ:St) (H:Hp) (Q:Bool->Hp->Prop),Inv X pins σ H s->t σ H Q ->
  o0 (sK X.prog X.w) X.A (forIn ifs true λc r=>if r=true then do let ok <- D_ c X.env (eval c X.env);pure (ForInStep.yield ok)else pure (ForInStep.yield r)) (TP X pins σ Q) X.xe s
def tAll:TT:=λ_ H Q=>Q true H
theorem eO {X:Cx}:PTs X [] tAll:=λ_ _ _ H _ I h=>Fn ⟨H,I,h⟩
theorem u5 {X:Cx}{c:Expr}{t:TT}(h:PT X c t):PTs X [c] t:=λpins s σ H Q I hq=>wpAny_tests_one (h pins s σ H Q I hq)
def xI (J:It)(n:Nat)(js:List Nat)(g:TG)(tc:TT)(te:TE)(Q:VK)(σ:St)(H1:Hp):Prop:=∃W:Nat->Nat->List V->Hp->Prop,(∃m,W 0 m [] H1)/\∀i m ys H,W i m ys H ->
 (J.stop i H/\ys.length<=ww/\∀l,H l=none->Q (.ref l) (upd H l (.lst ys))) ∨
 (J.go i H/\ys.length<ww/\∃N:List V->Hp->Prop,(∀zs H',N zs H'->∃m',m'<m/\W (i+1) m' zs H')/\∀x H',J.yld i H x H'->g x (bst n σ js) H' λσ2 H2=>σ2.drop n=capt σ js/\tc σ2 H2 λb H3 =>
  if b=true then te σ2 H3 λv H4=>N (ys++[v]) H4 else N ys H3)
def lE (n:Nat)(js:List Nat)(wi:TI)(g:TG)(tc:TT)(te:TE):TE:=λσ H Q=>wi σ H λJ H1=>xI J n js g tc te Q σ H1
section
variable {X:Cx}
structure Blk (X:Cx)(scope:zA)(own:List Str)(js:List Nat):Prop where
 kind:scope.kind = .function
 nocell:∀y∈scope.names,y.2 ≠ .cell
 names:∀y∈scope.names,y.2 = .local->scope.names.lookup y.1=some .local
 free:∀y∈scope.names,y.2 = .free->X.env.kindOf y.1=some .cell∨X.env.kindOf y.1=some .free
 uniq:∀x,(x,NameKind.free)∈scope.names->scope.names.lookup x=some .free
 nd:(own++capN X.N js).Nodup
 cap:∀j∈js,j<X.N.length/\((X.N[j]?).getD "",NameKind.free)∈scope.names
def blkB (sc:zA)(N:List Str)(scope:zA)(own:List Str)(js:List Nat):Bool :=
 scope.kind == .function&&scope.names.all (λy=>y.2 != .cell)&&scope.names.all (λy=>y.2 != .local||scope.names.lookup y.1==some .local) &&
 scope.names.all (λy=>y.2 != .free||sc.names.lookup y.1==some .cell||sc.names.lookup y.1==some .free)&&scope.names.all (λy=>y.2 != .free||scope.names.lookup y.1==some .free) &&
 decide (own++capN N js).Nodup&&js.all (λj=>decide (j<N.length)&&scope.names.any λy=>y.1==(N[j]?).getD "" && y.2 == .free)
theorem Blk.of {scope:zA}{own:List Str}{js:List Nat}(sc:zA)(N:List Str)(h:blkB sc N scope own js=true:=by decide +kernel)(e1:X.env.scope=sc:=by rfl)(e2:X.N=N:=by rfl):Blk X scope own js:=by
 subst e1 e2;unfold blkB at h;simp only[y4,BB,decide_eq_true_eq,beq_iff_eq]at h;obtain⟨⟨⟨⟨⟨⟨h1,h2⟩,h3⟩,h4⟩,h5⟩,h6⟩,h7⟩:=h;refine⟨h1,λy hy=>by simpa using h2 y hy,λy hy e=>?_,λy hy e=>?_,λx hx=>?_,h6,λj hj=>?_⟩
 ·have:=h3 y hy;simpa [e] using this
 ·have:=h4 y hy;simp only[e,bne_self_eq_false,E2,EJ,beq_iff_eq]at this;exact this
 ·have:=h5 _ hx;simpa using this
 ·obtain⟨a,b⟩:=h7 j hj;refine⟨a,?_⟩;obtain⟨y,hy,e⟩:=Ex.mp b;simp only[y4,beq_iff_eq]at e;obtain⟨e1,e2⟩:=e;rw[<- e1,<- e2];exact hy
theorem df {env:Env}:∀ {names:List (Str×zX)} {x:Str} {k:zX},
  (names.map λ(n,k)=>if(k==NameKind.free&&env.scope.kind == .function&&env.kindOf n==some .cell)then(n,NameKind.cell)else(n,k)).lookup x=some k->names.lookup x=some k∨(k = .cell/\names.lookup x=some .free)
 | [],_,_,h=>by simp at h
 | (n,q)::r,x,k,h=>by
  have ih:=@df env r x k;cases hx:x==n with
  | true =>
   by_cases hc:(q==NameKind.free&&env.scope.kind == .function&&env.kindOf n==some .cell)=true
   ·simp only[yy,if_pos hc,zz,hx]at h;cases h
    simp only[y4,beq_iff_eq]at hc;obtain⟨⟨hq,_⟩,_⟩:=hc;subst hq;exact .inr ⟨rfl,by rw[zz,hx]⟩
   ·simp only[yy,if_neg hc,zz,hx]at h;cases h
    exact .inl (by rw[zz,hx])
  | false =>
   have h':(r.map λ(n,k)=>if(k==NameKind.free&&env.scope.kind == .function&&env.kindOf n==some .cell)then(n,NameKind.cell)else(n,k)).lookup x=some k:=by
    by_cases hc:(q==NameKind.free&&env.scope.kind == .function&&env.kindOf n==some .cell)=true
    ·simp only[yy,if_pos hc,zz,hx]at h;exact h
    ·simp only[yy,if_neg hc,zz,hx]at h;exact h
   rcases ih h' with z | ⟨z,z'⟩
   ·exact .inl (by rw[zz,hx];exact z)
   ·exact .inr ⟨z,by rw[zz,hx];exact z'⟩
theorem ck:∀(names:List (Str×zX)) (n:Nat) (acc:List (Str×Addr)),zh n names acc=zh n names []++acc
 | [],n,acc=>rfl
 | (x,k)::r,n,acc=>by
  unfold zh;split
  ·rw[ck r (n+1) ((x,n)::acc),ck r (n+1) [(x,n)],Cq];rfl
  ·exact ck r n acc
theorem eX:∀(names:List (Str×zX)) (n:Nat) (acc:List (Str×Addr)) {x:Str} {c:Addr},(x,c)∈zh n names acc->(x,NameKind.cell)∈names∨(x,c)∈acc
 | [],n,acc,x,c,h=>.inr h
 | (y,k)::r,n,acc,x,c,h=>by
  unfold zh at h;split at h
  ·rename_i hk;rcases eX r _ _ h with q | q
   ·exact .inl (.tail _ q)
   ·rcases wn.mp q with z | z
    ·cases z
     have:k = .cell:=by simpa using hk
     subst this;exact .inl (.head _)
    ·exact .inr z
  ·rcases eX r _ _ h with q | q
   ·exact .inl (.tail _ q)
   ·exact .inr q
theorem eY:∀(names:List (Str×zX)) (n:Nat) (acc:List (Str×Addr)) {x:Str},(x,NameKind.cell)∈names->∃c,(x,c)∈zh n names acc
 | [],n,acc,x,h=>nomatch h
 | (y,k)::r,n,acc,x,h=>by
  unfold zh;rcases wn.mp h with z | z
  ·cases z
   rw[if_pos (show(NameKind.cell==NameKind.cell)=true from rfl),ck];exact⟨n,zL.mpr (.inr (.head _))⟩
  ·split
   ·exact eY r _ _ z
   ·exact eY r _ _ z
def fh (scope:zA)(C:Addr)(env:Env):List (Str×Addr):=zh (C+1) scope.names (fg scope env)
def blkC (X:Cx)(scope:zA)(N:List Str)(s:dL)(H:Hp)(C:Addr)(fp:List Addr):Cx where
 prog:=X.prog
 w:=X.w
 K:=X.K
 mg:=X.mg
 base:=X.base
 A:=X.A
 N:=N
 s₀:=s
 H₀:=H
 env:=EC scope (fh scope C X.env) C X.env
 outer:=X.stack
 stack:=X.stack
 ex:=fp
 fn:=λx=>scope.names.lookup x==some .cell
 calm:=X.calm
 pn:=[]
 xe:=λ_ _=>False
end
section
variable {M:C1}{A:yI}{E:bd->dL->Prop}{s:dL}
theorem fk {scope:zA}{cl:List (Str×Addr)}{env:Env}{Q:Env->dL->Prop}
  (h:Q {scope,locals:=s.heap.objs.size,globals:=env.globals,cells:=zh (s.heap.objs.size+1) scope.names cl,qual:=env.qual,func:=none,code:=env.code,frame:=env.frame,builtins:=env.builtins}
   {s with heap:=AZ (s.heap.push {cls:=.type "dict",data:=.dict #[]}) scope.names}) :
  o0 M A (Ck scope env.globals cl [] env.qual none .none (some env)) Q E s:=by
 simp only[Ck,DB,if_true];refine bn (wpAny_alloc ?_);refine bn (wpAny_layCells _ (λname kind cells=>by cases hkc:kind==NameKind.cell <;> simp[hkc]) _ _ _ _ ?_);rw[show({s with heap:=s.heap.push {cls:=.type "dict",data:=.dict #[]}}:dL).heap.objs.size=s.heap.objs.size+1 from zK ..];refine bn ?_;rw[List.forIn_nil];exact wv (wv h)
end
section
variable {X:Cx}
structure BlkC (X:Cx)(scope:zA)(own:List Str)(js:List Nat):Prop where
 kind:scope.kind = .function
 cells:∀y∈scope.names,y.2 = .cell->scope.names.lookup y.1=some .cell
 names:∀y∈scope.names,y.2 = .local->scope.names.lookup y.1=some .local
 free:∀y∈scope.names,y.2 = .free->X.env.kindOf y.1=some .cell∨X.env.kindOf y.1=some .free
 uniq:∀x,(x,NameKind.free)∈scope.names->scope.names.lookup x=some .free
 nd:(own++capN X.N js).Nodup
 cap:∀j∈js,j<X.N.length/\((X.N[j]?).getD "",NameKind.free)∈scope.names
theorem dr {scope:zA}{C:Addr}{env:Env}{x:Str}{c:Addr}(h:(fh scope C env).lookup x=some c):((x,c)∈zh (C+1) scope.names [])∨env.cells.lookup x=some c:=by
 unfold fh at h;rw[ck,Cd]at h;cases e:(zh (C+1) scope.names []).lookup x with
 | some d=>rw[e]at h;cases h;exact .inl (yL e)
 | none=>rw[e]at h;exact .inr (j7 h)
theorem j_ {scope:zA}{C:Addr}{env:Env}{x:Str}(h:(x,NameKind.cell)∈scope.names):∃c,(fh scope C env).lookup x=some c/\(x,c)∈zh (C+1) scope.names []:=by
 obtain⟨c,hc⟩:=eY scope.names (C+1) [] h;obtain⟨d,hd⟩:=du hc;refine⟨d,?_,yL hd⟩;unfold fh;rw[ck,Cd,hd];rfl
theorem ka {scope:zA}{C:Addr}{env:Env}{x:Str}{c:Addr}(hn:(x,NameKind.cell)∉scope.names)(h:(x,NameKind.free)∈scope.names)(hc:env.cells.lookup x=some c):(fh scope C env).lookup x=some c:=by
 unfold fh;rw[ck,Cd];have:(zh (C+1) scope.names []).lookup x=none:=by
  cases e:(zh (C+1) scope.names []).lookup x with
  | none=>rfl
  | some d =>
   rcases eX _ _ _ (yL e)with q | q
   ·exact(hn q).elim
   ·cases q
 rw[this];exact pQ h hc
theorem oV {scope:zA}{own:List Str}{js:List Nat}{pins:List (Addr×Obj)}{σ:St}{H:Hp}{s:dL}{fp:List Addr}{C:Addr}{h1:Heap}{tk:Nat}(B:BlkC X scope own js)(I:Inv X pins σ H s)
  (hfp:∀b∈fp,FpOk X pins H b) (hfo:∀b∈fp,∃o,s.heap.get? b=some o) (hC:s.heap.objs.size<=C) (hns:h1.Ns C λ_=>none) (hcs:CellsOk h1 (C+1) (zh (C+1) scope.names [])) (hk:∀b o,s.heap.get? b=some o->h1.get? b=some o) :
  Inv (blkC X scope (own++capN X.N js) s H C fp) [] (bst own.length σ js) H {s with heap:=h1,toks:=tk}:=by
 have kindC:∀x,(blkC X scope (own++capN X.N js) s H C fp).env.kindOf x=some .cell∨(blkC X scope (own++capN X.N js) s H C fp).env.kindOf x=some .free->(x,NameKind.cell)∈scope.names∨(x,NameKind.free)∈scope.names:=λx hx=>by
  have hx':(Di scope X.env).names.lookup x=some .cell∨(Di scope X.env).names.lookup x=some .free:=hx;rcases hx' with z | z
  ·rcases df z with q | ⟨_,q⟩
   ·exact .inl (yL q)
   ·exact .inr (yL q)
  ·rcases df z with q | ⟨_,q⟩
   ·exact .inr (yL q)
   ·exact .inr (yL q)
 have notC:∀x,(x,NameKind.free)∈scope.names->(x,NameKind.cell)∉scope.names:=λx hf hc=>by
  have:=B.cells (x,.cell) hc rfl;rw[B.uniq x hf]at this;cases this
 have ownGt:∀ {x c},(x,c)∈zh (C+1) scope.names []->C<c/\h1.IsCell c none:=λ{x c} e=>⟨(hcs.empty x c e).2,(hcs.empty x c e).1⟩
 have has:∀x,(x,NameKind.free)∈scope.names->∃c,X.env.cells.lookup x=some c:=λx hx=>I.ok.has x (B.free (x,.free) hx rfl);have old:∀ {x c},(fh scope C X.env).lookup x=some c->((x,c)∈zh (C+1) scope.names [])∨X.env.cells.lookup x=some c:=λe=>dr e;have cellLt:∀ {x c},X.env.cells.lookup x=some c->c<s.heap.objs.size:=λ{x c} e=>by
  obtain⟨v,o,ho,_⟩:=I.cell x c e;exact lc ho
 have fpLt:∀b∈fp,b<s.heap.objs.size:=λb hb=>let ⟨_,e⟩:=hfo b hb;lc e;have fsOk:∀b∈frs X.stack,b∈X.env.locals::X.fs:=I.stkSub;refine⟨⟨I.ok.mod,?_,I.ok.glob,I.ok.blt,hC,λx y c e1 e2=>?_,λx hx=>?_,λx c z e=>?_,I.ok.hd,I.ok.frames,.inl rfl,λb hb=>⟨?_,λx c e=>?_⟩,I.bs,yt I.ok.bsz I.sz,
   λb o e hb=>?_,λb hb hf=>?_,I.stack,I.stkFree⟩,rfl,I.bare,Un.kept hk,⟨_,hns,λi x v e1 e2 e3=>?_⟩,λx c e=>?_,?_,λx c e=>?_,λp hp=>absurd hp (by show p∉[]++[];simp),I.hok.kept hk,?_⟩
 ·show(Di scope X.env).kind = .function;exact B.kind
 ·rcases old e1 with q1 | q1
  ·rcases old e2 with q2 | q2
   ·exact PySem.name_of_addr hcs.apart q1 q2
   ·exact absurd (cellLt q2) (BL.mpr (yt hC (yR (ownGt q1).1)))
  ·rcases old e2 with q2 | q2
   ·exact absurd (cellLt q1) (BL.mpr (yt hC (yR (ownGt q2).1)))
   ·exact I.ok.inj x y c q1 q2
 ·rcases kindC x hx with q | q
  ·obtain⟨c,e,_⟩:=j_ (C:=C) (env:=X.env) q;exact⟨c,e⟩
  ·obtain⟨c,e⟩:=has x q;exact⟨c,ka (notC x q) q e⟩
 ·have z0:(scope.names.lookup x==some NameKind.cell)=true:=z;have z':scope.names.lookup x=some .cell:=by simpa using z0
  obtain⟨c',e',m'⟩:=j_ (C:=C) (env:=X.env) (yL z');have e'':(fh scope C X.env).lookup x=some c:=e;rw[e']at e'';cases e''
  exact yt hC (yR (ownGt m').1)
 ·exact yn (nw (fpLt b hb) hC)
 ·rcases old e with q | q
  ·exact yQ (nw (fpLt b hb) (yt hC (yR (ownGt q).1)))
  ·exact(hfp b hb).2.2.2.2.1 x c q
 ·have e1:=I.bs b o e;obtain⟨f0,f1,f2,f3,f4,f5⟩:=hfp b hb;rcases f3 with z | z
  ·exact I.ok.noex b o e z
  ·exact absurd (nw (lc (I.ok.bs b o e).1) z) (zu _)
 ·obtain⟨f0,f1,f2,f3,f4,f5⟩:=hfp b hb;rcases wn.mp (fsOk b hf)with z | z
  ·exact f1 z
  ·exact f2 z
 ·-- a captured name's value
  have hi:own.length<=i:=by
   rcases pp i own.length with z | z
   ·exfalso;have e2':(pc own.length (none:Option V)++capt σ js)[i]? = some (some v):=e2;rw[yx (by simpa using z),Aw]at e2';split at e2' <;> cases e2'
   ·exact z
  have e1':(own++capN X.N js)[i]? = some x:=e1;have e2':(pc own.length (none:Option V)++capt σ js)[i]? = some (some v):=e2;rw[yK hi]at e1';rw[yK (by simpa using hi),Ae]at e2';unfold capN at e1';unfold capt at e2';rw[lm]at e1' e2';cases ej:js[i - own.length]? with
  | none=>rw[ej]at e1';cases e1'
  | some j =>
   rw[ej]at e1' e2';have e1'':(X.N[j]?).getD "" = x:=zC e1';have e2'':(σ[j]?).getD none=some v:=zC e2';obtain⟨hj,hm⟩:=B.cap j (yp ej);have eN:X.N[j]? = some x:=by
    rw[bv hj]at e1'' ⊢;exact congrArg some e1''
   have eS:σ[j]? = some (some v):=by
    cases q:σ[j]? with
    | none=>rw[q]at e2'';cases e2''
    | some u=>rw[q]at e2'';exact congrArg some e2''
   rw[e1'']at hm;obtain⟨m,_,hl⟩:=I.loc;have hv:Vis X.env.scope x:=by
    rcases B.free (x,.free) hm rfl with z | z
    ·exact .inr (.inl z)
    ·exact .inr (.inr z)
   obtain⟨u,r,l⟩:=hl j x v eN eS hv;obtain⟨c,hc⟩:=has x hm;refine⟨u,r,.inr ⟨?_,c,ka (notC x hm) hm hc,?_⟩⟩
   ·rcases e3 with z | z | z
    ·exfalso;have z':(Di scope X.env).names.lookup x=some .local:=z;rcases df z' with q | ⟨q,_⟩
     ·rw[B.uniq x hm]at q;cases q
     ·cases q
    ·exact .inl z
    ·exact .inr z
   ·rcases l with⟨k1,_⟩ | ⟨k2,c2,e2,ic⟩
    ·rcases B.free (x,.free) hm rfl with t | t <;> (rw[k1]at t;cases t)
    ·rw[hc]at e2;cases e2;obtain⟨o,ho,hd⟩:=ic;exact⟨o,hk c o ho,hd⟩
 ·rcases old e with q | q
  ·exact⟨none,(ownGt q).2⟩
  ·obtain⟨v,o,ho,hd⟩:=I.cell x c q;exact⟨v,o,hk c o ho,hd⟩
 ·exact I.hok.fresh hC
 ·rcases old e with q | q
  ·exact I.hok.fresh (yt hC (yR (ownGt q).1))
  ·exact I.freeC x c q
 ·rw[jF];show _=(own++capN X.N js).length;unfold capN;simp
theorem iq:∀ {names:List (Str×zX)} {n:Nat} {acc:List (Str×Addr)},(∀y∈names,y.2 ≠ .cell)->zh n names acc=acc
 | [],_,_,_=>rfl
 | (x,k)::r,n,acc,h=>by
  unfold zh;rw[if_neg (by have:=h (x,k) (.head _);simpa using this)];exact iq λy hy=>h y (.tail _ hy)
section
variable {scope:zA}{own:List Str}{js:List Nat}
theorem Blk.c (B:Blk X scope own js):BlkC X scope own js:=⟨B.kind,λy hy e=>absurd e (B.nocell y hy),B.names,B.free,B.uniq,B.nd,B.cap⟩
theorem ir (B:Blk X scope own js){N:List Str}{s:dL}{H:Hp}{C:Addr}{fp:List Addr}:blkC X scope N s H C fp=blk X scope N s H C fp:=by
 have e1:(λx=>scope.names.lookup x==some NameKind.cell)=λ_=>false:=funext λx=>by
  rw[beq_eq_false_iff_ne];exact λz=>B.nocell _ (yL z) rfl
 unfold blkC blk fh;rw[iq B.nocell,e1]
end
end
section
variable {X:Cx}
theorem Inv.young {pins:List (Addr×Obj)}{σ:St}{H:Hp}{s:dL}{h':Heap}{c:Addr}(I:Inv X pins σ H s)(hs:zf c s.heap h')(hn:H c=none)(h1:X.s₀.heap.objs.size<=c)(hL:c≠X.env.locals)
  (h2:∀x d,X.env.cells.lookup x=some d->d≠c) (h3:∀p∈X.pn++pins,p.1≠c):Inv X pins σ H {s with heap:=h'} :=
 I.turned (t':=s.toks) (λb o hb e=>(hs.2 b hb).trans e) hn hL (.inr h1) h2 h3
theorem Inv.track {pins:List (Addr×Obj)}{σ:St}{H:Hp}{s:dL}{D:Addr}{ys:List V}{its:List bd}{n:Nat}(I:Inv X pins σ H s)(hn:H D=none)(h1:X.s₀.heap.objs.size<=D)(hL:D≠X.env.locals)
  (h2:∀x d,X.env.cells.lookup x=some d->d≠D) (h3:∀p∈X.pn++pins,p.1≠D) (hz:ys.length<=ww) (r:Vals ys its) (e:s.heap.get? D=some {cls:=.type "list",data:=.seq its.toArray n}) :
  Inv X pins σ (upd H D (.lst ys)) s:=by
 have ne:∀ {b u},H b=some u->b≠D:=λ{b u} q=>bD q hn;refine⟨I.ok,I.os,I.bare,⟨I.base.keep,I.base.slot,λb o q z hx=>?_,I.base.there,λb xs q=>?_,λb o u q=>?_,λb ps q=>?_⟩,I.loc,I.cell,?_,λx c q=>?_,λp hp=>?_,λb o q=>?_,I.len⟩
 ·rw[aU (yn (nw (lc q) h1))];exact I.base.free b o q z hx
 ·have q':=I.base.tups b xs q;rw[aU (ne q')];exact q'
 ·have q':=I.base.frzs b o u q;rw[aU (ne q')];exact q'
 ·obtain⟨more,q'⟩:=I.base.tbls b ps q;exact⟨more,by rw[aU (ne q')];exact q'⟩
 ·rw[aU (zd hL)];exact I.free
 ·rw[aU (h2 x c q)];exact I.freeC x c q
 ·obtain⟨a1,a2,a3⟩:=I.pin p hp;exact⟨a1,by rw[aU (h3 p hp)];exact a2,a3⟩
 ·by_cases hb:b=D
  ·subst hb;rw[bh]at q;cases q
   exact⟨hz,its,n,r,e⟩
  ·rw[aU hb]at q;refine(I.hok b o q).stay (λ_ _ _ z=>z) (λc z=>?_) λc xs z=>?_
   ·rw[aU (ne z)];exact z
   ·rw[aU (ne z)];exact z
def xJ (X:Cx)(pins:List (Addr×Obj))(σ:St)(Q:VK)(C:Addr)(acc:bd)(s':dL):Prop :=
 ∃(D:Addr) (H:Hp) (m:Str->Option bd),acc = .ref D/\s'.heap.Ns C m/\Inv X pins σ H s'/\H C=none/\X.s₀.heap.objs.size<=C/\C≠X.env.locals/\(∀x d,X.env.cells.lookup x=some d->d≠C)/\(∀p∈X.pn++pins,p.1≠C)/\Q (.ref D) H
theorem jz {elt tg iter:Expr}{ifs:List Expr}{scope:zA}{pos:Pos}{own:List Str}{js:List Nat}{g:TG}{tc:TT}{te:TE}{Q:VK}{pins:List (Addr×Obj)}{σ:St}{s2:dL}{itv:bd}{E:bd->dL->Prop}
  {RR:bd->Addr->Ec->dL->Prop} (hc:X.calm=true) (B:BlkC X scope own js) (hg:∀s H C fp,(own++capN X.N js).Nodup->PG (blkC X scope (own++capN X.N js) s H C fp) tg g) (ht:∀s H C fp,PTs (blkC X scope (own++capN X.N js) s H C fp) ifs tc)
  (he:∀s H C fp,PE (blkC X scope (own++capN X.N js) s H C fp) elt te)
  (h:PIE X pins σ tg (λJ H1=>xI J own.length js g tc te Q σ H1) itv s2)
  (hR:∀C acc s',xJ X pins σ Q C acc s'->RR acc C (.ok .next) s') :
  o0 (sK X.prog X.w) X.A (E9 []) (λacc s3=>o0 (sK X.prog X.w) X.A (Ck scope X.env.globals (fg scope X.env) [] X.env.qual none .none (some X.env)) (λcenv s4 =>
   A_ (sK X.prog X.w) X.A (.compStart (.ListComp elt [⟨tg,iter,ifs,0⟩] scope pos) 0 itv acc {cenv with scope:=Di scope X.env}) (RR acc cenv.locals) s4) E s3) E s2:=by
 obtain⟨it,fp,tn,J,H2,rfl,I2,T,st2,f2,W,⟨m0,w0⟩,turn⟩:=h;refine zO (fk ?_);generalize hPu:s2.heap.push {cls:=.type "list",dict:=none,data:=.seq ([]:List bd).toArray}=Pu;dsimp only;have hDC:Pu.objs.size=s2.heap.objs.size+1:=by rw[<- hPu,zK]
 generalize hD:s2.heap.objs.size=D at hDC ⊢;have gD:Pu.get? D=some {cls:=.type "list",dict:=none,data:=.seq ([]:List bd).toArray}:=by
  rw[<- hPu,<- hD];exact xL _ rfl
 have hns1:(AZ (Pu.push {cls:=.type "dict",data:=.dict #[]}) scope.names).Ns Pu.objs.size λ_=>none:=(EQ Pu (.type "dict")).keeps (B6 _ _);have hcs1:CellsOk (AZ (Pu.push {cls:=.type "dict",data:=.dict #[]}) scope.names) (Pu.objs.size+1) (zh (Pu.objs.size+1) scope.names []):=by
  have ok:=cellsFrom_ok scope.names (Pu.push {cls:=.type "dict",data:=.dict #[]}) (Pu.objs.size+1) [] ⟨λ_ _ hm=>(nomatch hm),List.Pairwise.nil⟩ (by rw[zK];exact lw _);rw[zK]at ok;exact ok
 have keep0:∀b o,Pu.get? b=some o->(AZ (Pu.push {cls:=.type "dict",data:=.dict #[]}) scope.names).get? b=some o:=λb o e=>B6 _ _ b o (im _ e);generalize hh1:AZ (Pu.push {cls:=.type "dict",data:=.dict #[]}) scope.names=h1 at hns1 hcs1 keep0 ⊢;generalize hC:Pu.objs.size=C at hns1 hcs1 hDC ⊢;have ltDC:D<C:=by rw[hDC];exact AQ D
 have neDC:D≠C:=yn ltDC;have keep1:∀b o,s2.heap.get? b=some o->h1.get? b=some o:=λb o e=>keep0 b o (by
  rw[<- hPu];exact im _ e)
 have gD1:h1.get? D=some {cls:=.type "list",dict:=none,data:=.seq ([]:List bd).toArray}:=keep0 D _ gD;have szD:s2.heap.objs.size<=D:=Dy hD;have szC:s2.heap.objs.size<=C:=yt szD (yR ltDC);have old:∀ {b:Addr},b<s2.heap.objs.size->b≠D/\b≠C:=λhb=>⟨yn (nw hb szD),yn (nw hb szC)⟩
 have fpo:∀b∈fp,∃o,s2.heap.get? b=some o:=λb hb=>let ⟨o,e,_⟩:=T.obj 0 _ st2 b hb;⟨o,e⟩;have fpD:∀b∈fp,b≠D/\b≠C:=λb hb=>by
  obtain⟨o,e⟩:=fpo b hb;exact old (lc e)
 have clD:∀x d,X.env.cells.lookup x=some d->d≠D/\d≠C:=λx d e=>by
  obtain⟨v,o,ho,_⟩:=I2.cell x d e;exact old (lc ho)
 have pinD:∀p∈X.pn++pins,p.1≠D/\p.1≠C:=λp hp=>by
  exact old (lc (I2.pin p hp).1)
 have locD:D≠X.env.locals/\C≠X.env.locals:=by
  exact⟨(old I2.lt).1.symm,(old I2.lt).2.symm⟩
 let Y:=blkC X scope (own++capN X.N js) s2 H2 C fp;have IB:Inv Y [] (bst own.length σ js) H2 {s2 with heap:=h1}:=oV B I2 f2 fpo szC hns1 hcs1 keep1;have fpB:∀ {H':Hp} {pl:List (Addr×Obj)},(∀b∈fp,H' b=none)->(∀p∈pl,p.1=D)->∀b∈fp,FpOk Y pl H' b:=λ{H' pl} hn hp b hb=>by
  obtain⟨f0,f1,f3,f4,f5,f6⟩:=f2 b hb;refine⟨hn b hb,(fpD b hb).2,λz=>?_,.inl hb,λx c e=>?_,λp q=>?_⟩
  ·rcases wn.mp (I2.stkSub b z)with z | z
   ·exact f1 z
   ·exact f3 z
  ·rcases dr e with q | q
   ·obtain⟨o,eo⟩:=fpo b hb;exact yQ (nw (lc eo) (yt szC (yR (hcs1.empty _ _ q).2)))
   ·exact f5 x c q
  ·have q':p∈pl:=by simpa [Y,blkC] using q
   rw[hp p q'];exact(fpD b hb).1.symm
 have clB:∀x d,Y.env.cells.lookup x=some d->d≠D:=λx d e=>by
  rcases dr e with q | q
  ·exact yQ (Ar ltDC (hcs1.empty _ _ q).2)
  ·exact(clD x d q).1
 have notFs:D∉Y.fs:=λz=>by
  obtain⟨_,o,ho,_⟩:=IB.ok.funs.mem z;exact(old (lc (show s2.heap.get? D=some o from ho))).1 rfl
 have loop:∀s3:dL,s3={s2 with heap:=h1} ->
   A_ (sK X.prog X.w) X.A (.compLoop (.ListComp elt [⟨tg,iter,ifs,0⟩] scope pos) 0 (.ref it) (.ref D) (EC scope (fh scope C X.env) C X.env)) (RR (.ref D) C) s3:=by
  rintro s3 rfl;refine nH (λn s'=>∃(i:Nat) (ys:List V) (its:List bd) (k:Nat) (H':Hp),Inv Y [] (bst own.length σ js) H' s'/\tn i s'.heap/\(∀b∈fp,H' b=none)/\H' D=none/\Vals ys its /\
   s'.heap.get? D=some {cls:=.type "list",data:=.seq its.toArray k}/\W i n ys H') ?_ m0 ⟨0,[],[],0,H2,IB,T.keep 0 _ _ st2 (λb hb o e=>keep1 b o e),λb hb=>(f2 b hb).1,I2.hok.fresh szD,.nil,gD1,w0⟩
  rintro n s3 ⟨i,ys,its,k,H3,I3,st3,fr3,hD3,r3,g3,w3⟩;have I3p:Inv Y [(D,{cls:=.type "list",data:=.seq its.toArray k})] (bst own.length σ js) H3 s3:=I3.pins_of λp hp=>by
   have e:p=(D,{cls:=.type "list",data:=.seq its.toArray k}):=by simpa using hp
   subst e;exact⟨g3,hD3,neDC,notFs,λv z=>by cases z⟩
  have f3:∀b∈fp,FpOk Y [(D,{cls:=.type "list",data:=.seq its.toArray k})] H3 b:=fpB fr3 λp hp=>by
   have e:p=(D,{cls:=.type "list",data:=.seq its.toArray k}):=by simpa using hp
   rw[e]
  rcases turn i n ys H3 w3 with⟨stop,hz,qn⟩ | ⟨go,hz,N,hN,step⟩
  ·refine thn (T.done Y rfl rfl rfl hc i _ s3 _ H3 (λ_ _=>False) I3p f3 st3 stop) λr s4 ⟨hr,I4⟩=>?_;subst hr;refine hR C _ s4 ?_;have g4:=(I4.pin (D,{cls:=.type "list",data:=.seq its.toArray k}) (by simp[Y,blkC])).1;obtain⟨m,hn4,_⟩:=id I4.loc;have un:Un (frs X.stack) fp H2 H3 s2.heap s4.heap:=I4.base;have I5:Inv X pins σ H3 s4:=I2.call' I4.os un I4.hok I4.bare λb hb=>let ⟨_,b1,_,b3,b4,b5⟩:=f2 b hb;⟨b3,b1,b4,b5⟩;have I6:=I5.track (ys:=ys) (its:=its) (n:=k) hD3 (yt I2.sz szD) locD.1 (λx d e=>(clD x d e).1) (λp hp=>(pinD p hp).1) hz r3 g4;refine⟨D,_,m,rfl,hn4,I6,?_,yt I2.sz szC,locD.2,λx d e=>(clD x d e).2,λp hp=>(pinD p hp).2,qn D hD3⟩;rw[aU (zd neDC)];exact I4.free
  ·refine thn (T.item Y rfl rfl rfl hc i _ s3 _ H3 (λ_ _=>False) I3p f3 st3 go) λr s4 ⟨u,hr,h4⟩=>?_;subst hr;refine thn h4 λ_ s5 ⟨x,H5,I5,r5,y5,st5,fr5⟩=>?_;have f5:∀b∈fp,FpOk Y [(D,{cls:=.type "list",data:=.seq its.toArray k})] H5 b:=λb hb=>⟨fr5 b hb,(f3 b hb).2⟩
   have I5':=I5.pinned f5 (T.obj _ _ st5);refine thn (hg s2 H2 C fp B.nd _ s5 _ H5 x u _ I5' r5 (step x H5 y5)) λ_ s6 ⟨σ6,H6,I6,d6,q6⟩=>?_;refine thn (ht s2 H2 C fp _ s6 σ6 H6 _ I6 q6) λok s7 ⟨H7,I7,q7⟩=>?_;have after:∀ {s8:dL} {H8:Hp},Inv Y ([(D,{cls:=.type "list",data:=.seq its.toArray k})]++ja fp s5.heap) σ6 H8 s8 ->
     s8.heap.get? D=some {cls:=.type "list",data:=.seq its.toArray k}/\H8 D=none/\tn (i+1) s8.heap/\(∀b∈fp,H8 b=none)/\Inv Y [] (bst own.length σ js) H8 s8:=λ{s8 H8} I8=>by
    have p8:=I8.pin (D,{cls:=.type "list",data:=.seq its.toArray k}) (by simp[Y,blkC]);refine⟨p8.1,p8.2.1,T.keep _ _ _ st5 λb hb o e=>(I8.pin (b,o) (wr _ (wr _ (cP hb e)))).1,λb hb=>?_,?_⟩
    ·obtain⟨o,e,_⟩:=T.obj _ _ st5 b hb;exact(I8.pin (b,o) (wr _ (wr _ (cP hb e)))).2.1
    ·refine(I8.pins_of (pins':=[]) λp hp=>absurd hp (by simp[Y,blkC])).weak ?_ λj v e=>?_
     ·rw[I8.len,jF];show _=(own++capN X.N js).length;unfold capN;simp
     ·rcases pp j own.length with z | z
      ·exfalso;unfold bst at e;rw[yx (by simpa using z),Aw]at e;split at e <;> cases e
      ·unfold bst at e;rw[yK (by simpa using z),Ae,<- d6,zI]at e;rw[<- e];congr 1;omega
   cases ok with
   | false =>
    rw[if_neg zS]at q7 ⊢;obtain⟨m',hm,w7⟩:=hN _ _ q7;obtain⟨a1,a2,a3,a4,a5⟩:=after I7;exact⟨m',hm,i+1,ys,its,k,H7,a5,a3,a4,a2,r3,a1,w7⟩
   | true =>
    rw[if_pos rfl]at q7 ⊢;refine thn (he s2 H2 C fp _ s7 σ6 H7 _ I7 q7) λu8 s8 ⟨v8,H8,I8,r8,n8⟩=>?_;obtain⟨m',hm,w8⟩:=hN _ _ n8;obtain⟨a1,a2,a3,a4,a5⟩:=after I8;have hsz:its.toArray.size<ww:=by rw[li,<- r3.length];exact hz
    refine EW wP ⟨_,a1,rfl⟩ Cn (Cb _ _) (Cm D its.toArray k u8 (by omega)) ⟨a1,?_⟩;have q9:=B_ a1 (λxs=>xs.push u8);have sb:zf D s8.heap (s8.heap.update D (zE λxs=>xs.push u8)):=zV ..;have I9:=a5.young sb a2 szD neDC clB (λp hp=>absurd hp (by show p∉[]++[];simp));have fin:∃k',(s8.heap.update D (zE λxs=>xs.push u8)).get? D=some {cls:=.type "list",data:=.seq (its++[u8]).toArray k'}:=⟨_,by
     rw[show(its++[u8]).toArray=its.toArray.push u8 by simp];exact q9⟩
    obtain⟨k',fin⟩:=fin;exact⟨m',hm,i+1,ys++[v8],its++[u8],k',H8,I9,T.keep _ _ _ a3 (λb hb o e=>(sb.2 b (fpD b hb).1).trans e),a4,a2,r3.append (.cons r8 .nil),fin,w8⟩
 exact Eb (loop _ rfl) (T.self _ 0 _ _ _ (T.keep 0 _ _ st2 λb hb o e=>keep1 b o e) (loop _ rfl))
theorem sO {elt tg iter:Expr}{ifs:List Expr}{scope:zA}{pos:Pos}(own:List Str)(js:List Nat){wi:TI}{g:TG}{tc:TT}{te:TE}(hc:X.calm=true)(B:BlkC X scope own js)(hi:PI X tg iter wi)
  (hg:∀s H C fp,(own++capN X.N js).Nodup->PG (blkC X scope (own++capN X.N js) s H C fp) tg g) (ht:∀s H C fp,PTs (blkC X scope (own++capN X.N js) s H C fp) ifs tc) (he:∀s H C fp,PE (blkC X scope (own++capN X.N js) s H C fp) elt te)
  (hs:∀x,z9 iter X.env x=pure x:=by intro _;rfl):PE X (.ListComp elt [⟨tg,iter,ifs,0⟩] scope pos) (lE own.length js wi g tc te):=by
 intro pins s σ H Q I h;have hcl:CJ scope X.env=pure (fg scope X.env):=eV λx hx hf=>I.ok.has x.1 (B.free x hx hf);rw[eval_ListComp];refine BH (use:=none) rfl hs hcl B.kind B.names (thn (hi pins s σ H _ I h) λv s1 h1=>thn h1 λitv s2 h2=>?_);refine jz (RR:=λacc C=>EB (sK X.prog X.w) X.A X.xe none (EP X pins σ Q) acc C) hc B hg ht he h2 λC acc s' hb=>?_;obtain⟨D,H',m,rfl,hn,I',c1,c2,c3,c4,c5,q⟩:=hb;exact⟨m,hn,λh' hs'=>⟨.ref D,H',I'.young hs' c1 c2 c3 c4 c5,rfl,q⟩⟩
theorem sL {elt tg iter:Expr}{ifs:List Expr}{scope:zA}{pos pos' spos:Pos}{i:Nat}{x:Str}(own:List Str)(js:List Nat){wi:TI}{g:TG}{tc:TT}{te:TE}(hN:X.N.Nodup)(hi:X.N[i]? = some x)(hx:Loc X.env.scope x)
  (hc:X.calm=true) (B:BlkC X scope own js) (hit:PI X tg iter wi)
  (hg:∀s H C fp,(own++capN X.N js).Nodup->PG (blkC X scope (own++capN X.N js) s H C fp) tg g) (ht:∀s H C fp,PTs (blkC X scope (own++capN X.N js) s H C fp) ifs tc) (he:∀s H C fp,PE (blkC X scope (own++capN X.N js) s H C fp) elt te)
  (hf:X.fn x=true∨X.env.scope.names.lookup x=some .local:=by first | exact .inl rfl | exact .inr rfl | assumption)
  (hw:AJ (.ListComp elt [⟨tg,iter,ifs,0⟩] scope pos) (some (.Name x pos')) spos.line X.env=pure true:=by rfl)
  (hs:∀x,z9 iter X.env x=pure x:=by intro _;rfl) :
  PS X (.Assign [.Name x pos'] (.ListComp elt [⟨tg,iter,ifs,0⟩] scope pos) spos) (λD σ H=>lE own.length js wi g tc te σ H λv H'=>D.nx (σ.set i (some v)) H'):=by
 intro pins s σ H D I h;have hcl:CJ scope X.env=pure (fg scope X.env):=eV λx hx hf=>I.ok.has x.1 (B.free x hx hf);rw[Es _ _ _ _ hw];refine bn (Ax (bn ?_));show o0 _ X.A (do let _ <- comprehension (.ListComp elt [⟨tg,iter,ifs,0⟩] scope pos) scope X.env _ (E9 []) false (eval iter X.env) (some (BJ (.Name x pos') X.env))) _ _ s;refine bn (thn (Q:=λ_ s'=>SP X pins D .next s') (BH (use:=some (BJ (.Name x pos') X.env)) rfl hs hcl B.kind B.names (thn (hit pins s σ H _ I h) λv s1 h1=>thn h1 λitv s2 h2=>?_)) λ_ s' q=>wv (wv q));refine jz (Q:=λv H'=>D.nx (σ.set i (some v)) H') (RR:=λacc C=>EB (sK X.prog X.w) X.A X.xe (some (BJ (.Name x pos') X.env)) (λ_ s'=>SP X pins D .next s') acc C) hc B hg ht he h2 λC acc s' hb=>?_;obtain⟨l,H',m,rfl,hn,I',c1,c2,c3,c4,c5,q⟩:=hb;show o0 _ X.A (BJ (.Name x pos') X.env (.ref l)) _ _ _;refine E5 (lF (v:=.ref l) I' hN hi hx rfl (λs3 I3 ⟨a,sb,ha⟩=>?_) hf);have ne:C≠a:=by
  rcases ha with z | z
  ·rw[z];exact c3
  ·exact(c4 x a z).symm
 exact⟨m,hn.sameBut sb ne,λh' hs'=>⟨_,H',I3.young hs' c1 c2 c3 c4 c5,q⟩⟩
theorem g7 {elt tg iter:Expr}{ifs:List Expr}{scope:zA}{pos:Pos}(own:List Str)(js:List Nat){wi:TI}{g:TG}{tc:TT}{te:TE}(hc:X.calm=true)(B:Blk X scope own js)(hi:PI X tg iter wi)
  (hg:∀s H C fp,(own++capN X.N js).Nodup->PG (blk X scope (own++capN X.N js) s H C fp) tg g) (ht:∀s H C fp,PTs (blk X scope (own++capN X.N js) s H C fp) ifs tc) (he:∀s H C fp,PE (blk X scope (own++capN X.N js) s H C fp) elt te)
  (hs:∀x,z9 iter X.env x=pure x:=by intro _;rfl):PE X (.ListComp elt [⟨tg,iter,ifs,0⟩] scope pos) (lE own.length js wi g tc te) :=
 sO own js hc B.c hi (λs H C fp nd=>by rw[ir B];exact hg s H C fp nd) (λs H C fp=>by rw[ir B];exact ht s H C fp) (λs H C fp=>by rw[ir B];exact he s H C fp) hs
theorem kL {elt tg iter:Expr}{ifs:List Expr}{scope:zA}{pos pos' spos:Pos}{i:Nat}{x:Str}(own:List Str)(js:List Nat){wi:TI}{g:TG}{tc:TT}{te:TE}(hN:X.N.Nodup)(hi:X.N[i]? = some x)(hx:Loc X.env.scope x)
  (hc:X.calm=true) (B:Blk X scope own js) (hit:PI X tg iter wi)
  (hg:∀s H C fp,(own++capN X.N js).Nodup->PG (blk X scope (own++capN X.N js) s H C fp) tg g) (ht:∀s H C fp,PTs (blk X scope (own++capN X.N js) s H C fp) ifs tc) (he:∀s H C fp,PE (blk X scope (own++capN X.N js) s H C fp) elt te)
  (hf:X.fn x=true∨X.env.scope.names.lookup x=some .local:=by first | exact .inl rfl | exact .inr rfl | assumption)
  (hw:AJ (.ListComp elt [⟨tg,iter,ifs,0⟩] scope pos) (some (.Name x pos')) spos.line X.env=pure true:=by rfl)
  (hs:∀x,z9 iter X.env x=pure x:=by intro _;rfl) :
  PS X (.Assign [.Name x pos'] (.ListComp elt [⟨tg,iter,ifs,0⟩] scope pos) spos) (λD σ H=>lE own.length js wi g tc te σ H λv H'=>D.nx (σ.set i (some v)) H') :=
 sL own js hN hi hx hc B.c hit (λs H C fp nd=>by rw[ir B];exact hg s H C fp nd) (λs H C fp=>by rw[ir B];exact ht s H C fp) (λs H C fp=>by rw[ir B];exact he s H C fp) hf hw hs
end
section
variable {X:Cx}
def Dv (j:Int):Prop:=0<j/\j.natAbs.log2<9000
theorem Dv.small {j:Int}(h:0<j)(h2:j<1073741824):Dv j:=⟨h,by
 have e:j.natAbs≠0:=by omega
 have:j.natAbs.log2<30:=(Fw e).mpr (by omega);omega⟩
theorem kQ:OpR X (Aj .FloorDiv) (rI (λ_ j=>Dv j) λi j=>.int (i / j)):=opI λi j _ _ _ _ _ hc q=>by
 rw[<- Int.fdiv_eq_ediv_of_nonneg i (Cu hc.1)]at q;exact floordiv_int (Fk hc.1) q (.inl (PyProof.noPylong_of_log2 hc.2))
structure OkN (P:wl)(w:yF)(K:ac)(mg:Str->Option bd)(base:Heap)(k:Nat)(x:Str)(ps:List Str)(sp:Sp):Prop where
 ex:∃f fd,mg x=some (.ref f)/\zQ K (.ref f)=true/\ly K fd ps []/\(∃oc od osl,K.lookup f=some ⟨oc,od,.func fd,osl⟩)/\FnOk P w K mg base CX0 k f fd ps sp
theorem bL {k:Nat}{x:Str}{ps:List Str}{sp:Sp}{p pos:Pos}{e:Expr}{es:List Expr}{t:TA}(F:OkN X.prog X.w X.K X.mg X.base k x ps sp)(hr:Room k X.A)(ha:PA X (e::es) t)(hg:Gl X x:=by rfl)
  (hdb:(x==("__debug__" : Str))=false:=by decide) (he:yu (e::es) X.env=(false,eval e X.env)::yu es X.env:=by rfl) (hpl:(Al pos (yu es X.env)).any (·.1)=false:=by rfl) :
  PE X (.Call (.Name x p) (e::es) [] pos) (kE sp [] E0 t):=by
 obtain⟨f,fd,hm,hk,hb,lk,F⟩:=F.ex;exact kN F hr hg hm hk hb .nil xR ha hdb he hpl
structure DefN (K:ac)(mg:Str->Option bd)(x:Str)(st:Stmt)(ps:List Str):Prop where
 ex:∃f fd,mg x=some (.ref f)/\Fun K x x st f fd/\∀us:List bd,us.length=ps.length->Dq fd ⟨us,[]⟩=pure (ps.zip us)
theorem DefN.ok {P:wl}{w:yF}{K:ac}{mg:Str->Option bd}{base:Heap}{x:Str}{st:Stmt}{N ps:List Str}{k:Nat}{sp:Sp}(D:DefN K mg x st ps)(S:bG N ps (aM st))(len:∀vs H Q E,sp vs H Q E->vs.length=ps.length)
  (hbody:∀(f:Addr) (cdv:bd) (A:yI) (outer:List Env) (s:dL) (H:Hp) (vs:List V) (Q:VK) (E:XK),Room k (A.deeper (A0 x (aM st) s.heap.objs.size f cdv))->sp vs H Q E ->
   ∃t,PSs (cxOf CX0 P w K mg base N x (aM st) f cdv A outer s H E).nox (cD st) t/\t {nx:=λ_ H'=>Q .non H',rt:=Q} (iu N vs) H):OkN P w K mg base (k+1) x ps sp:=by
 obtain⟨f,fd,hm,F,hb⟩:=D.ex;refine⟨f,fd,hm,F.kp,.all hb,?_,F.ok S len λcdv A outer s H vs Q E hr h=>hbody f cdv A outer s H vs Q E hr h⟩;obtain⟨oc,od,kV,doc,pm,an,cdv,ct,osl,_,lk,_⟩:=F.ex;exact⟨oc,od,osl,lk⟩
theorem xr {K:ac}{mg:Str->Option bd}{h:Heap}{x:Str}{st:Stmt}{ps:List Str}{f:Addr}{oc:bd}{od an:Option Addr}{osl:Array (Option bd)}{kV doc pm cdv ct:bd}(KX:K.In h)(G:h.Ns yk mg)
  (a:yB K yk x=some (some (.ref f))) (l:K.lookup f=some ⟨oc,od,.func (zN x x (eU st) (cD st) (aM st) .none kV doc pm an cdv ct),osl⟩)
  (c:Ag K cdv x=true) (k:zQ K (.ref f)=true)
  (hb:∀(kV doc pm:bd) (an:Option Addr) (cdv ct:bd) (us:List bd),us.length=ps.length->Dq (zN x x (eU st) (cD st) (aM st) .none kV doc pm an cdv ct) ⟨us,[]⟩=pure (ps.zip us)):DefN K mg x st ps :=
 ⟨f,_,Ao KX G a,uk l c k,λus hl=>hb kV doc pm an cdv ct us hl⟩
theorem vn {P:wl}{w:yF}{K:ac}{mg:Str->Option bd}{x p:Str}{st:Stmt}{k:Nat}{fa:Addr}{sp:Sp}(D:DefN K mg x st [p])(hfa:mg x=some (.ref fa))
  (F:∀base:Heap,OkN P w K mg base k x [p] sp):∃fd:Ay,(∀(s:dL) (v:bd),Dl s fd ⟨[v],[]⟩ [(p,v)])/\∀base:Heap,K.In base->base.Ns yk mg->FnOk P w K mg base CX0 k fa fd [p] sp:=by
 obtain⟨f,fd,hm,F0,hb⟩:=D.ex;obtain⟨oc,od,kV,doc,pm,an,cdv,ct,osl,_,lk,_⟩:=F0.ex;refine⟨fd,λs v=>.of_eq (hb [v] rfl),λbase _ _=>?_⟩;obtain⟨f',fd',hm',_,_,⟨oc',od',osl',lk'⟩,G⟩:=(F base).ex;rw[hfa]at hm';cases hm'
 rw[hfa]at hm;cases hm
 rw[lk]at lk';cases lk'
 exact G
end
structure BI (mg:Str->Option bd):Prop where
 len_:mg "len" = none
 range_:mg "range" = none
 isinstance_:mg "isinstance" = none
 int_:mg "int" = none
 bool_:mg "bool" = none
 list_:mg "list" = none
 tuple_:mg "tuple" = none
 str_:mg "str" = none
 sum_:mg "sum" = none
 all_:mg "all" = none
 max_:mg "max" = none
 min_:mg "min" = none
 sorted_:mg "sorted" = none
 set_:mg "set" = none
 zip_:mg "zip" = none
 enumerate_:mg "enumerate" = none
 reversed_:mg "reversed" = none
 dict_:mg "dict" = none
 any_:mg "any" = none
 abs_:mg "abs" = none
 repr_:mg "repr" = none
theorem x5 {K:ac}{mg:Str->Option bd}{h:Heap}(KX:K.In h)(G:h.Ns yk mg)
  (len_:yB K yk "len" = some none) (range_:yB K yk "range" = some none) (isinstance_:yB K yk "isinstance" = some none) (int_:yB K yk "int" = some none) (bool_:yB K yk "bool" = some none) (list_:yB K yk "list" = some none) (tuple_:yB K yk "tuple" = some none) (str_:yB K yk "str" = some none) (sum_:yB K yk "sum" = some none) (all_:yB K yk "all" = some none) (max_:yB K yk "max" = some none) (min_:yB K yk "min" = some none) (sorted_:yB K yk "sorted" = some none) (set_:yB K yk "set" = some none) (zip_:yB K yk "zip" = some none) (enumerate_:yB K yk "enumerate" = some none) (reversed_:yB K yk "reversed" = some none) (dict_:yB K yk "dict" = some none) (any_:yB K yk "any" = some none) (abs_:yB K yk "abs" = some none) (repr_:yB K yk "repr" = some none):BI mg :=
 ⟨yq KX G len_,yq KX G range_,yq KX G isinstance_,yq KX G int_,yq KX G bool_,yq KX G list_,yq KX G tuple_,yq KX G str_,yq KX G sum_,yq KX G all_,yq KX G max_,yq KX G min_,yq KX G sorted_,yq KX G set_,yq KX G zip_,yq KX G enumerate_,yq KX G reversed_,yq KX G dict_,yq KX G any_,yq KX G abs_,yq KX G repr_⟩
def Grow (t:Addr)(H H':Hp):Prop:=∀b o,H b=some o->b≠t->H' b=some o
theorem Grow.refl {t:Addr}{H:Hp}:Grow t H H:=λ_ _ h _=>h
theorem Grow.upd {t:Addr}{H H':Hp}(g:Grow t H H')(o:HO):Grow t H (L2.upd H' t o):=λb u h n=>by rw[aU n];exact g b u h n
theorem Same.new {H H':Hp}{l:Addr}{o:HO}(s:Same H H')(h:H' l=none):Same H (L2.upd H' l o):=λb u e=>by
 have:=s b u e;rw[aU (bD this h)];exact this
theorem Same.seqT {K:ac}{H H':Hp}{a:Addr}{xs:List V}(e:Same H H')(h:SqT K H a xs):SqT K H' a xs:=by
 rcases h with(h | ⟨o,h⟩) | h
 ·exact .inl (.inl (e _ _ h))
 ·exact .inl (.inr ⟨o,e _ _ h⟩)
 ·exact .inr h
theorem Grow.seq {K:ac}{t:Addr}{H H':Hp}{a:Addr}{xs:List V}{kvs:List (Key×V)}(g:Grow t H H')(ht:H t=some (.dK kvs))(h:SqL K H a xs):SqL K H' a xs:=by
 rcases h with(h | ⟨o,h⟩) | h
 ·exact .inl (.inl (g _ _ h (vh h ht (by intro z;cases z))))
 ·exact .inl (.inr ⟨o,g _ _ h (vh h ht (by intro z;cases z))⟩)
 ·exact .inr h
def cE (c:Addr)(sp lf:Int):List (Key×V):=[(Sum.inr "cells",.ref c),(Sum.inr "spot",.int sp),(Sum.inr "left",.int lf)]
theorem vG:¬((Sum.inr ("cells" : Str):Key)=Sum.inr ("spot" : Str)):=by decide +kernel
theorem vH:¬((Sum.inr ("cells" : Str):Key)=Sum.inr ("left" : Str)):=by decide +kernel
theorem sy:¬((Sum.inr ("spot" : Str):Key)=Sum.inr ("left" : Str)):=by decide +kernel
theorem jU {c:Addr}{sp lf:Int}:valV (cE c sp lf) (Sum.inr "cells" : Key)=some (.ref c):=by
 simp[valV,cE]
theorem p9 {c:Addr}{sp lf:Int}:valV (cE c sp lf) (Sum.inr "spot" : Key)=some (.int sp):=by
 simp only[valV,cE,zp,decide_eq_false vG,decide_true,Ef]
theorem qa {c:Addr}{sp lf:Int}:valV (cE c sp lf) (Sum.inr "left" : Key)=some (.int lf):=by
 simp only[valV,cE,zp,decide_eq_false vH,decide_eq_false sy,decide_true,Ef]
theorem kK {c:Addr}{sp lf x:Int}:putK (cE c sp lf) (Sum.inr "left" : Key) (.int x)=cE c sp x:=by
 unfold putK;rw[if_pos (by simp[cE])];simp only[cE,yy,Ba,if_neg vH,if_neg sy,if_pos]
theorem sI {c:Addr}{sp lf x:Int}:putK (cE c sp lf) (Sum.inr "spot" : Key) (.int x)=cE c x lf:=by
 unfold putK;rw[if_pos (by simp[cE])];simp only[cE,yy,Ba,if_neg vG,if_pos,if_neg (show ¬((Sum.inr ("left" : Str):Key)=Sum.inr ("spot" : Str))from λe=>sy e.symm)]
theorem p_ {c:Addr}:jr [] [((Sum.inr ("cells" : Str):Key),V.ref c),((Sum.inr ("spot" : Str):Key),V.int 0),((Sum.inr ("left" : Str):Key),V.int 0)]=cE c 0 0:=by
 simp only[jr,y_,C4];have e1:putK ([]:List (Key×V)) (Sum.inr ("cells" : Str)) (V.ref c)=[((Sum.inr ("cells" : Str):Key),V.ref c)]:=by simp[putK]
 have e2:putK [((Sum.inr ("cells" : Str):Key),V.ref c)] (Sum.inr ("spot" : Str)) (V.int 0)=[((Sum.inr ("cells" : Str):Key),V.ref c),((Sum.inr ("spot" : Str):Key),V.int 0)]:=by
  unfold putK;rw[if_neg (by simp only[Bv,Fd,decide_eq_false vG];simp)];rfl
 have e3:putK [((Sum.inr ("cells" : Str):Key),V.ref c),((Sum.inr ("spot" : Str):Key),V.int 0)] (Sum.inr ("left" : Str)) (V.int 0)=cE c 0 0:=by
  unfold putK;rw[if_neg (by simp only[Bv,Fd,decide_eq_false vH,decide_eq_false sy];simp)];rfl
 rw[e1,e2,e3]
theorem xZ {ns:List Int}:cutV (ns.map V.int) none (some 63)=(ns.take 63).map V.int:=by
 unfold cutV;have e0:HT.sIx (ns.map V.int).length 0 none=0:=rfl;rw[e0,EM,Cs,EZ];show List.take (HT.sIx _ _ (some ((63:Nat):Int))) _=_;rw[HT.sIx_nat];rcases AF 63 (ns.map V.int).length with h | h
 ·rw[zx h]
 ·rw[zJ h,zP (lw _),zP h]
end L2
namespace L2
theorem drawn {Q:Int->Hp->Prop}{m x:Int}{H':Hp}(hm:0<m)(k:∀r:Nat,(r:Int)<m->Q (r:Nat) H'):Q (x % m) H':=by
 obtain⟨r,e⟩:=BE (EO x (Fk hm));have:=El x hm;rw[e]at this ⊢;exact k r this
theorem nY {y:Int}:-(2^64)<y % 2147483647/\y % 2147483647<2^64:=by omega
theorem dv64:Dv 64:=Dv.small (by decide) (by decide)
end L2
namespace L2
open PySem PySem.Spec PyProof.Rows
theorem vK (a b:Nat):BO (a:Int) (b:Int)=((a &&& b:Nat):Int):=by
 unfold BO;rw[decide_eq_true (Ek a),decide_eq_true (Ek b)];simp
theorem wK (a b:Nat):Ey (a:Int) (b:Int)=((a ||| b:Nat):Int):=by
 unfold Ey BO Builtin.bitNot;rw[decide_eq_false (show ¬(0:Int) <= -(a:Int) - 1 by omega),decide_eq_false (show ¬(0:Int) <= -(b:Int) - 1 by omega)];have h1:(-(-(a:Int) - 1) - 1).toNat=a:=by omega
 have h2:(-(-(b:Int) - 1) - 1).toNat=b:=by omega
 simp only[h1,h2];omega
theorem gg:∀(a b:Nat),(a ^^^ b)+2*(a &&& b)=a+b:=by
 intro a;induction a using Nat.strongRecOn with
 | ind a ih =>
  intro b;by_cases h0:a=0
  ·subst h0;simp
  ·have h:=ih (a / 2) (by omega) (b / 2);have e1:(a ^^^ b) / 2=a / 2 ^^^ b / 2:=Nat.xor_div_two;have e2:(a &&& b) / 2=a / 2 &&& b / 2:=Nat.and_div_two;have e3:(a ^^^ b) % 2=(a+b) % 2:=by
    have:=Ab a b 0;rw[Aq,Aq,Aq]at this;rcases yM a with p | p <;> rcases yM b with q | q <;> rcases yM (a ^^^ b)with r | r <;> simp[p,q,r]at this <;> omega
   have e4:(a &&& b) % 2=(a % 2)*(b % 2):=by
    have:=C0 a b 0;rw[Aq,Aq,Aq]at this;rcases yM a with p | p <;> rcases yM b with q | q <;> rcases yM (a &&& b)with r | r <;> simp[p,q,r]at this <;> simp[p,q,r]
   rcases yM a with p | p <;> rcases yM b with q | q <;> rw[p,q]at e4 <;> omega
theorem pS (a b:Nat):A9 (a:Int) (b:Int)=((a ^^^ b:Nat):Int):=by
 unfold A9;rw[wK,vK];have h1:(a ||| b)+(a &&& b)=a+b:=by
  have:=gg a b;have e:(a ||| b)=(a ^^^ b)+(a &&& b):=by
   have h2:=gg (a ^^^ b) (a &&& b);have h3:(a ^^^ b) &&& (a &&& b)=0:=by
    apply AV;intro i;simp only[C0,Ab,Ap];cases a.testBit i <;> cases b.testBit i <;> rfl
   have h4:(a ^^^ b) ^^^ (a &&& b)=a ||| b:=by
    apply AV;intro i;simp only[C0,Ab,Nat.testBit_or];cases a.testBit i <;> cases b.testBit i <;> rfl
   rw[h3,h4]at h2;omega
  omega
 have:=gg a b;omega
theorem qk (k:Nat):(1:Int)*(2:Int)^((k:Int).toNat)=((1 <<< k:Nat):Int):=by
 rw[zM,EI,Int.one_mul,DP];simp
def uW (K:ac):Sp:=λvs H Q _=>∃(a:Addr) (ns:List Int),vs=[.ref a]/\SqL K H a (ns.map V.int)/\ns.length<=63/\∀H',Q (.bl true) H'
theorem bC:zH "len" = some (.builtin "len"):=by decide +kernel
theorem tG:zH "range" = some (.type "range"):=by decide +kernel
theorem gn:zH "list" = some (.type "list"):=by decide +kernel
theorem fP:zH "tuple" = some (.type "tuple"):=by decide +kernel
theorem ur:zH "max" = some (.builtin "max"):=by decide +kernel
theorem uq:zH "min" = some (.builtin "min"):=by decide +kernel
theorem fE:zH "enumerate" = some (.type "enumerate"):=by decide +kernel
theorem jE:zH "reversed" = some (.type "reversed"):=by decide +kernel
section
variable {X:Cx}{a b e o:Expr}{es:List Expr}{ta tb te to:TE}{t:TA}{pos apos cpos:Pos}(K:ac)
theorem i5 (ha:PE X a ta)(he:∀whole,D_ a X.env whole=(do let v <- whole;standAt a.pos;holding [v] (truthy v)))(hK:X.K=K:=by rfl) :
  PT X a (λσ H Q=>ta σ H λx H'=>∃k,TruV K x H' k/\Q k H'):=by subst hK;exact sJ ha he
theorem aT (hK:X.K=K:=by rfl):IxR X (rIx K):=by subst hK;exact w_
theorem gA (hK:X.K=K:=by rfl):SlR X (rSlL K):=by subst hK;exact uY
theorem aP (hK:X.K=K:=by rfl):iD X (.builtin "len") (λxs H Q=>∃p ys,xs=[.ref p]/\(SqL K H p ys∨SqT K H p ys)/\Q (.int ys.length) H):=by subst hK;exact mw
theorem eI (hK:X.K=K:=by rfl):iD X (.type "list") (λxs H Q=>∃p ys,xs=[.ref p]/\(SqL K H p ys∨SqT K H p ys)/\∀l,H l=none->Q (.ref l) (upd H l (.lst ys))):=by subst hK;exact mv
theorem de (hK:X.K=K:=by rfl):iD X (.type "tuple") (λxs H Q=>∃p ys,xs=[.ref p]/\((SqL K H p ys/\∀l,H l=none->Q (.ref l) (upd H l (.tup ys)))∨(SqT K H p ys/\Q (.ref p) H))):=by subst hK;exact lj
theorem bJ {es:List Expr}{k:Nat}{t:TGs}{n:Nat}(hc:X.calm=true)(h:PGs X es t)(hn:(A3 es X.env).length=n:=by rfl)(hst:(A3 es X.env).findIdx? (·.1)=none:=by rfl)(hK:X.K=K:=by rfl) :
  PG X (.Tuple es k pos) (gTup K n t):=by subst hK;exact wC hc h hn hst
variable {name:Str}{T id:String}{r:V->List V->Hp->VK->Prop}
theorem da (pa:PlainAttrs T)(slot:Slot T name id)(hty:typeOf (.builtin id)=pure (.type "method_descriptor"))(hm:MtR X id r)(ho:PE X o to)(ha:PA X (e::es) t)
  (hbase:attributeBase o name X.env (eval o X.env)=eval o X.env:=by rfl)
  (hfew:((Al cpos (yu (e::es) X.env)).all (λx=>!x.1)&&(backToKw cpos (EA [] X.env)).all (λx=>x.1.isSome)&&decide ((e::es).length+([]:List Ff).length+(if([]:List Ff).isEmpty then 0 else 1)<30))=true:=by rfl)
  (hline:(apos.endLine==cpos.line)=true:=by rfl) (he:yu (e::es) X.env=(false,eval e X.env)::yu es X.env:=by rfl) (hpl:(Al cpos (yu es X.env)).any (·.1)=false:=by rfl)
  (hK:X.K=K:=by rfl):PE X (.Call (.Attribute o name apos) (e::es) [] cpos) (tBM K T r to t):=by
 subst hK;exact xQ pa slot hty hm ho ha hbase hfew hline he hpl
end
inductive D where
 | non | bl (b:Bool) | int (i:Int) | str (x:Str) | tup (ds:List D) | lst (ds:List D)
def StT (H:Hp)(a:Addr)(xs:List V):Prop:=H a=some (.tup xs)
theorem StT.sq {K:ac}{H:Hp}{a:Addr}{xs:List V}(h:StT H a xs):SqT K H a xs:=SqT.of h
instance {K:ac} {H:Hp} {a:Addr} {xs:List V}:Coe (StT H a xs) (SqT K H a xs):=⟨StT.sq⟩
def StL (H:Hp)(a:Addr)(xs:List V):Prop:=H a=some (.lst xs)
theorem StL.sq {K:ac}{H:Hp}{a:Addr}{xs:List V}(h:StL H a xs):SqL K H a xs:=SqL.of h
instance {K:ac} {H:Hp} {a:Addr} {xs:List V}:Coe (StL H a xs) (SqL K H a xs):=⟨StL.sq⟩
mutual
def RepD (K:ac)(H:Hp):V->D->Prop
 | v,.non=>v = .non
 | v,.bl b=>v = .bl b
 | v,.int i=>v = .int i
 | v,.str x=>v = .str x
 | v,.tup ds=>∃a vs,v = .ref a/\StT H a vs/\RepDs K H vs ds
 | v,.lst ds=>∃a vs,v = .ref a/\StL H a vs/\RepDs K H vs ds
def RepDs (K:ac)(H:Hp):List V->List D->Prop
 | [],[]=>True
 | v::vs,d::ds=>RepD K H v d/\RepDs K H vs ds
 | _,_=>False
end
mutual
def eqD:D->D->Bool
 | .non,.non=>true
 | .bl a,.bl b=>a==b
 | .bl a,.int b=>(if a then 1 else 0)==b
 | .int a,.bl b=>a==(if b then 1 else 0)
 | .int a,.int b=>a==b
 | .str a,.str b=>a==b
 | .tup ds,.tup es=>eqDs ds es
 | .lst ds,.lst es=>eqDs ds es
 | _,_=>false
def eqDs:List D->List D->Bool
 | [],[]=>true
 | d::ds,e::es=>eqD d e&&eqDs ds es
 | _,_=>false
end
mutual
def D.depth:D->Nat
 | .tup ds=>depths ds+1
 | .lst ds=>depths ds+1
 | _=>0
def depths:List D->Nat
 | []=>0
 | d::ds=>max d.depth (depths ds)
end
section
variable {K:ac}{H H':Hp}
theorem RepDs.length:∀ {vs:List V} {ds:List D},RepDs K H vs ds->vs.length=ds.length
 | [],[],_=>rfl
 | v::vs,d::ds,h=>by
  unfold RepDs at h;rw[wS,wS,RepDs.length h.2]
 | [],d::ds,h=>by unfold RepDs at h;exact h.elim
 | v::vs,[],h=>by unfold RepDs at h;exact h.elim
theorem RepDs.get:∀ {vs:List V} {ds:List D} {i:Nat} {d:D},RepDs K H vs ds->ds[i]? = some d->∃v,vs[i]? = some v/\RepD K H v d
 | [],[],_,_,_,e=>by simp at e
 | v::vs,d::ds,0,_,h,e=>by
  unfold RepDs at h;simp at e;subst e;exact⟨v,rfl,h.1⟩
 | v::vs,d::ds,i+1,_,h,e=>by
  unfold RepDs at h;obtain⟨u,a,b⟩:=RepDs.get (i:=i) h.2 (by simpa using e);exact⟨u,by simpa using a,b⟩
 | [],d::ds,_,_,h,_=>by unfold RepDs at h;exact h.elim
 | v::vs,[],_,_,h,_=>by unfold RepDs at h;exact h.elim
theorem RepDs.getV:∀ {vs:List V} {ds:List D} {i:Nat} {v:V},RepDs K H vs ds->vs[i]? = some v->∃d,ds[i]? = some d/\RepD K H v d
 | [],[],_,_,_,e=>by simp at e
 | v::vs,d::ds,0,_,h,e=>by
  unfold RepDs at h;simp at e;subst e;exact⟨d,rfl,h.1⟩
 | v::vs,d::ds,i+1,_,h,e=>by
  unfold RepDs at h;obtain⟨u,a,b⟩:=RepDs.getV (i:=i) h.2 (by simpa using e);exact⟨u,by simpa using a,b⟩
 | [],d::ds,_,_,h,_=>by unfold RepDs at h;exact h.elim
 | v::vs,[],_,_,h,_=>by unfold RepDs at h;exact h.elim
theorem RepDs.append:∀ {vs ws:List V} {ds es:List D},RepDs K H vs ds->RepDs K H ws es->RepDs K H (vs++ws) (ds++es)
 | [],ws,[],es,_,h=>h
 | v::vs,ws,d::ds,es,h,h'=>by
  unfold RepDs at h;show RepDs K H (v::(vs++ws)) (d::(ds++es));unfold RepDs;exact⟨h.1,RepDs.append h.2 h'⟩
 | [],_,d::ds,_,h,_=>by unfold RepDs at h;exact h.elim
 | v::vs,_,[],_,h,_=>by unfold RepDs at h;exact h.elim
theorem RepDs.one {v:V}{d:D}(h:RepD K H v d):RepDs K H [v] [d]:=by unfold RepDs;exact⟨h,by unfold RepDs;trivial⟩
theorem RepDs.nil:RepDs K H [] []:=by unfold RepDs;trivial
theorem RepDs.cons {v:V}{d:D}{vs:List V}{ds:List D}(h:RepD K H v d)(t:RepDs K H vs ds):RepDs K H (v::vs) (d::ds):=by unfold RepDs;exact⟨h,t⟩
mutual
theorem RepD.keep (hl:∀a vs,StL H a vs->StL H' a vs)(ht:∀a vs,StT H a vs->StT H' a vs):∀ {v:V} {d:D},RepD K H v d->RepD K H' v d
 | v,.non,h=>by unfold RepD at h ⊢;exact h
 | v,.bl b,h=>by unfold RepD at h ⊢;exact h
 | v,.int i,h=>by unfold RepD at h ⊢;exact h
 | v,.str x,h=>by unfold RepD at h ⊢;exact h
 | v,.tup ds,h=>by
  unfold RepD at h ⊢;obtain⟨a,vs,e,h1,h2⟩:=h;exact⟨a,vs,e,ht _ _ h1,RepDs.keep hl ht h2⟩
 | v,.lst ds,h=>by
  unfold RepD at h ⊢;obtain⟨a,vs,e,h1,h2⟩:=h;exact⟨a,vs,e,hl _ _ h1,RepDs.keep hl ht h2⟩
theorem RepDs.keep (hl:∀a vs,StL H a vs->StL H' a vs)(ht:∀a vs,StT H a vs->StT H' a vs):∀ {vs:List V} {ds:List D},RepDs K H vs ds->RepDs K H' vs ds
 | [],[],_=>RepDs.nil
 | v::vs,d::ds,h=>by
  unfold RepDs at h ⊢;exact⟨RepD.keep hl ht h.1,RepDs.keep hl ht h.2⟩
 | [],d::ds,h=>by unfold RepDs at h;exact h.elim
 | v::vs,[],h=>by unfold RepDs at h;exact h.elim
end
theorem RepD.same {v:V}{d:D}(h:RepD K H v d)(s:Same H H'):RepD K H' v d:=h.keep (λ_ _ q=>s _ _ q) λ_ _ q=>s _ _ q
theorem RepDs.same {vs:List V}{ds:List D}(h:RepDs K H vs ds)(s:Same H H'):RepDs K H' vs ds:=h.keep (λ_ _ q=>s _ _ q) λ_ _ q=>s _ _ q
end
mutual
theorem eP:∀d:D,eqD d d=true
 | .non=>by simp[eqD]
 | .bl b=>by simp[eqD]
 | .int i=>by simp[eqD]
 | .str x=>by simp[eqD]
 | .tup ds=>by unfold eqD;exact eqDs_refl ds
 | .lst ds=>by unfold eqD;exact eqDs_refl ds
theorem eqDs_refl:∀ds:List D,eqDs ds ds=true
 | []=>by simp[eqDs]
 | d::ds=>by unfold eqDs;rw[eP d,eqDs_refl ds];rfl
end
section
variable {X:Cx}{pins:List (Addr×Obj)}{σ:St}{H:Hp}{s:dL}
mutual
theorem kJ (I:Inv X pins σ H s):∀ {v:V} {d e:D},RepD X.K H v d->RepD X.K H v e->d=e
 | v,.non,e,h,h'=>by
  unfold RepD at h;subst h;cases e <;> (unfold RepD at h';first | rfl | (obtain⟨_,_,z,_⟩:=h';cases z) | cases h')
 | v,.bl b,e,h,h'=>by
  unfold RepD at h;subst h;cases e <;> (unfold RepD at h';first | (cases h';rfl) | (obtain⟨_,_,z,_⟩:=h';cases z) | cases h')
 | v,.int b,e,h,h'=>by
  unfold RepD at h;subst h;cases e <;> (unfold RepD at h';first | (cases h';rfl) | (obtain⟨_,_,z,_⟩:=h';cases z) | cases h')
 | v,.str b,e,h,h'=>by
  unfold RepD at h;subst h;cases e <;> (unfold RepD at h';first | (cases h';rfl) | (obtain⟨_,_,z,_⟩:=h';cases z) | cases h')
 | v,.tup ds,e,h,h'=>by
  unfold RepD at h;obtain⟨a,vs,rfl,h1,h2⟩:=h;cases e with
  | tup es =>
   unfold RepD at h';obtain⟨b,ws,z,g1,g2⟩:=h';cases z
   rw[I.tuple_inj g1.sq h1.sq]at g2;rw[repDs_inj I h2 g2]
  | lst es =>
   unfold RepD at h';obtain⟨b,ws,z,g1,g2⟩:=h';cases z
   obtain⟨_,_,⟨o,n,e1,c1,_⟩,_⟩:=I.list (StL.sq g1);obtain⟨_,_,⟨o',e2,c2,_⟩,_⟩:=I.tuple h1.sq;rw[e1]at e2;cases e2;rw[c1]at c2;exact absurd c2 (by decide)
  | non=>unfold RepD at h';cases h'
  | bl _=>unfold RepD at h';cases h'
  | int _=>unfold RepD at h';cases h'
  | str _=>unfold RepD at h';cases h'
 | v,.lst ds,e,h,h'=>by
  unfold RepD at h;obtain⟨a,vs,rfl,h1,h2⟩:=h;cases e with
  | lst es =>
   unfold RepD at h';obtain⟨b,ws,z,g1,g2⟩:=h';cases z
   rw[I.list_inj (StL.sq g1) (StL.sq h1)]at g2;rw[repDs_inj I h2 g2]
  | tup es =>
   unfold RepD at h';obtain⟨b,ws,z,g1,g2⟩:=h';cases z
   obtain⟨_,_,⟨o,n,e1,c1,_⟩,_⟩:=I.list (StL.sq h1);obtain⟨_,_,⟨o',e2,c2,_⟩,_⟩:=I.tuple g1.sq;rw[e1]at e2;cases e2;rw[c1]at c2;exact absurd c2 (by decide)
  | non=>unfold RepD at h';cases h'
  | bl _=>unfold RepD at h';cases h'
  | int _=>unfold RepD at h';cases h'
  | str _=>unfold RepD at h';cases h'
theorem repDs_inj (I:Inv X pins σ H s):∀ {vs:List V} {ds es:List D},RepDs X.K H vs ds->RepDs X.K H vs es->ds=es
 | [],[],[],_,_=>rfl
 | v::vs,d::ds,e::es,h,h'=>by
  unfold RepDs at h h';rw[kJ I h.1 h'.1,repDs_inj I h.2 h'.2]
 | [],d::ds,_,h,_=>by unfold RepDs at h;exact h.elim
 | v::vs,[],_,h,_=>by unfold RepDs at h;exact h.elim
 | [],_,d::ds,_,h=>by unfold RepDs at h;exact h.elim
 | v::vs,_,[],_,h=>by unfold RepDs at h;exact h.elim
end
end
theorem gP (A:yI):A.in1.units=A.units+1:=rfl
theorem j4:∀ {ds:List D} {j:Nat} {d:D},ds[j]? = some d->d.depth<=depths ds
 | [],_,_,h=>by simp at h
 | d::ds,0,_,h=>by simp at h;subst h;unfold depths;omega
 | d::ds,j+1,e,h=>by
  have:=j4 (ds:=ds) (j:=j) (by simpa using h);unfold depths;omega
def l6 (ds es:List D)(j:Nat):Bool:=match ds[j]?,es[j]? with
 | some d,some e=>eqD d e
 | _,_=>true
theorem eh:∀ {ds es:List D},ds.length=es.length->(ym ds.length).all (l6 ds es)=eqDs ds es
 | [],[],_=>by simp[eqDs]
 | d::ds,e::es,h=>by
  have ih:=eh (ds:=ds) (es:=es) (by simpa using h);rw[wS,List.range_succ_eq_map,List.all_cons,List.all_map];unfold eqDs;rw[<- ih];congr 1
 | [],_::_,h=>by simp at h
 | _::_,[],h=>by simp at h
theorem dq:∀ {ds es:List D},ds.length≠es.length->eqDs ds es=false
 | [],[],h=>absurd rfl h
 | [],_::_,_=>by simp[eqDs]
 | _::_,[],_=>by simp[eqDs]
 | d::ds,e::es,h=>by
  unfold eqDs;rw[dq (ds:=ds) (es:=es) (by simpa using h),BU]
section
variable {X:Cx}{pins:List (Addr×Obj)}{σ:St}{H:Hp}{s:dL}
theorem iJ (I:Inv X pins σ H s){m:Nat}(ih:∀ {A:yI} {v u:V} {vv uu:bd} {d e:D},d.depth<=m->A.units+m<Bf->RelV v vv->RelV u uu->RepD X.K H v d->RepD X.K H u e->B8 A s vv uu (eqD d e)){A:yI}(hu:A.units+m<Bf)
  {vs us:List V} {vvs uus:List bd} {ds es:List D} (hd:depths ds<=m) (rv:Vals vs vvs) (ru:Vals us uus) (hv:RepDs X.K H vs ds) (he:RepDs X.K H us es) :
  ∀j (h1:j<vvs.toArray.size) (h2:j<uus.toArray.size),B8 A s vvs.toArray[j] uus.toArray[j] (l6 ds es j):=by
 intro j h1 h2;rw[li]at h1 h2;have l1:=rv.length;have l2:=ru.length;have g1:vs[j]? = some vs[j]:=bv (by omega);have g2:us[j]? = some us[j]:=bv (by omega);obtain⟨x,ex,rx⟩:=rv.get g1;obtain⟨y,ey,ry⟩:=ru.get g2;obtain⟨d,ed,rd⟩:=hv.getV g1;obtain⟨e,ee,re⟩:=he.getV g2;rw[bv h1]at ex;rw[bv h2]at ey;cases ex
 cases ey
 have:l6 ds es j=eqD d e:=by unfold l6;rw[ed,ee]
 rw[this,DE,DE];exact ih (yt (j4 ed) hd) hu rx ry rd re
theorem tZ (I:Inv X pins σ H s)(n:Nat)(ih:0<n->∀ {A:yI} {v u:V} {vv uu:bd} {d e:D},d.depth<=n - 1->A.units+(n - 1)<Bf->RelV v vv->RelV u uu->RepD X.K H v d->RepD X.K H u e->B8 A s vv uu (eqD d e))
  {A:yI} {v u:V} {vv uu:bd} {d e:D} (hd:d.depth<=n) (hu:A.units+n<Bf) (rv:RelV v vv) (ru:RelV u uu) (hv:RepD X.K H v d) (he:RepD X.K H u e):CY A s vv uu (eqD d e)/\B8 A s vv uu (eqD d e):=by
 have hu0:A.units<Bf:=by omega
 have isL:∀ {a xs},StL H a xs->∃its:List bd,Vals xs its/\s.heap.IsList a its.toArray:=λq=>by
  obtain⟨its,r,p,_⟩:=I.list q.sq;exact⟨its,r,p.isList⟩
 have isT:∀ {a xs},StT H a xs->∃its:List bd,Vals xs its/\s.heap.IsTuple a its.toArray:=λq=>by
  obtain⟨its,r,p,_⟩:=I.tuple q.sq;exact⟨its,r,p⟩
 cases d with
 | non =>
  unfold RepD at hv;subst hv;cases rv;cases e with
  | non=>unfold RepD at he;subst he;cases ru;exact⟨.none_none,.same _⟩
  | bl b=>unfold RepD at he;subst he;cases ru;exact⟨.none_bool _,.none_bool _⟩
  | int b=>unfold RepD at he;subst he;obtain⟨t,rfl⟩:=ru;exact⟨.none_int _ _,.none_int _ _⟩
  | str b=>unfold RepD at he;subst he;obtain⟨t,rfl⟩:=ru;exact⟨.none_str _ _,.none_str _ _⟩
  | tup es=>unfold RepD at he;obtain⟨a,vs,rfl,q,_⟩:=he;cases ru;obtain⟨its,_,q⟩:=isT q;exact⟨.none_tuple q hu0,.none_tuple q hu0⟩
  | lst es=>unfold RepD at he;obtain⟨a,vs,rfl,q,_⟩:=he;cases ru;obtain⟨its,_,q⟩:=isL q;exact⟨.none_list q hu0,.none_list q hu0⟩
 | bl x =>
  unfold RepD at hv;subst hv;cases rv;cases e with
  | non=>unfold RepD at he;subst he;cases ru;exact⟨.bool_none _,.bool_none _⟩
  | bl b=>unfold RepD at he;subst he;cases ru;exact⟨.bool_bool _ _,.bool_bool _ _⟩
  | int b=>unfold RepD at he;subst he;obtain⟨t,rfl⟩:=ru;exact⟨.bool_int _ _ _,.bool_int _ _ _⟩
  | str b=>unfold RepD at he;subst he;obtain⟨t,rfl⟩:=ru;exact⟨.bool_str _ _ _,.bool_str _ _ _⟩
  | tup es=>unfold RepD at he;obtain⟨a,vs,rfl,q,_⟩:=he;cases ru;obtain⟨its,_,q⟩:=isT q;exact⟨.bool_tuple _ q hu0,.bool_tuple _ q hu0⟩
  | lst es=>unfold RepD at he;obtain⟨a,vs,rfl,q,_⟩:=he;cases ru;obtain⟨its,_,q⟩:=isL q;exact⟨.bool_list _ q hu0,.bool_list _ q hu0⟩
 | int x =>
  unfold RepD at hv;subst hv;obtain⟨t0,rfl⟩:=rv;cases e with
  | non=>unfold RepD at he;subst he;cases ru;exact⟨.int_none _ _,.int_none _ _⟩
  | bl b=>unfold RepD at he;subst he;cases ru;exact⟨.int_bool _ _ _,.int_bool _ _ _⟩
  | int b=>unfold RepD at he;subst he;obtain⟨t,rfl⟩:=ru;exact⟨.int_int _ _ _ _,.int_int _ _ _ _⟩
  | str b=>unfold RepD at he;subst he;obtain⟨t,rfl⟩:=ru;exact⟨.int_str _ _ _ _,.int_str _ _ _ _⟩
  | tup es=>unfold RepD at he;obtain⟨a,vs,rfl,q,_⟩:=he;cases ru;obtain⟨its,_,q⟩:=isT q;exact⟨.int_tuple _ _ q hu0,.int_tuple _ _ q hu0⟩
  | lst es=>unfold RepD at he;obtain⟨a,vs,rfl,q,_⟩:=he;cases ru;obtain⟨its,_,q⟩:=isL q;exact⟨.int_list _ _ q hu0,.int_list _ _ q hu0⟩
 | str x =>
  unfold RepD at hv;subst hv;obtain⟨t0,rfl⟩:=rv;cases e with
  | non=>unfold RepD at he;subst he;cases ru;exact⟨.str_none _ _,.str_none _ _⟩
  | bl b=>unfold RepD at he;subst he;cases ru;exact⟨.str_bool _ _ _,.str_bool _ _ _⟩
  | int b=>unfold RepD at he;subst he;obtain⟨t,rfl⟩:=ru;exact⟨.str_int _ _ _ _,.str_int _ _ _ _⟩
  | str b=>unfold RepD at he;subst he;obtain⟨t,rfl⟩:=ru;exact⟨.str_str _ _ _ _,.str_str _ _ _ _⟩
  | tup es=>unfold RepD at he;obtain⟨a,vs,rfl,q,_⟩:=he;cases ru;obtain⟨its,_,q⟩:=isT q;exact⟨.str_tuple _ _ q hu0,.str_tuple _ _ q hu0⟩
  | lst es=>unfold RepD at he;obtain⟨a,vs,rfl,q,_⟩:=he;cases ru;obtain⟨its,_,q⟩:=isL q;exact⟨.str_list _ _ q hu0,.str_list _ _ q hu0⟩
 | tup ds =>
  have hv0:=hv;unfold RepD at hv;obtain⟨a,vs,rfl,q,hq⟩:=hv;cases rv
  obtain⟨its,r1,q1⟩:=isT q;cases e with
  | non=>unfold RepD at he;subst he;cases ru;exact⟨.tuple_none q1 hu0,.tuple_none q1 hu0⟩
  | bl b=>unfold RepD at he;subst he;cases ru;exact⟨.tuple_bool _ q1 hu0,.tuple_bool _ q1 hu0⟩
  | int b=>unfold RepD at he;subst he;obtain⟨t,rfl⟩:=ru;exact⟨.tuple_int _ _ q1 hu0,.tuple_int _ _ q1 hu0⟩
  | str b=>unfold RepD at he;subst he;obtain⟨t,rfl⟩:=ru;exact⟨.tuple_str _ _ q1 hu0,.tuple_str _ _ q1 hu0⟩
  | lst es=>unfold RepD at he;obtain⟨b,ws,rfl,g,_⟩:=he;cases ru;obtain⟨its2,_,g1⟩:=isL g;exact⟨.tuple_list q1 g1 hu0,.tuple_list q1 g1 hu0⟩
  | tup es =>
   have he0:=he;unfold RepD at he;obtain⟨b,ws,rfl,g,hg⟩:=he;cases ru
   obtain⟨its2,r2,g1⟩:=isT g;have hd':depths ds+1<=n:=by simpa [D.depth] using hd
   have l1:=r1.length;have l2:=r2.length;have m1:=hq.length;have m2:=hg.length;have rc:CY A s (.ref a) (.ref b) (eqD (.tup ds) (.tup es)):=by
    have:=SeqAt.RcAt.tuples (e:=l6 ds es) q1 g1 hu0 (iJ I (λ{A} {v} {u} {vv} {uu} {d} {e}=>ih (by omega) (A:=A)) (A:=A.in1) (by rw[gP];omega) (m:=n - 1) (by omega) r1 r2 hq hg);rw[li,li]at this;unfold eqD;by_cases hl:ds.length=es.length
    ·have z:(its.length==its2.length)=true:=by rw[beq_iff_eq];omega
     have mm:min its.length its2.length=ds.length:=by omega
     rw[z,E3,mm,eh hl]at this;exact this
    ·have z:(its.length==its2.length)=false:=by rw[beq_eq_false_iff_ne];omega
     rw[z,BU]at this;rw[dq hl];exact this
   refine⟨rc,?_⟩;by_cases hab:a=b
   ·subst hab;rw[kJ I hv0 he0,eP];exact .same _
   ·exact .of_refs hab rc
 | lst ds =>
  have hv0:=hv;unfold RepD at hv;obtain⟨a,vs,rfl,q,hq⟩:=hv;cases rv
  obtain⟨its,r1,q1⟩:=isL q;cases e with
  | non=>unfold RepD at he;subst he;cases ru;exact⟨.list_none q1 hu0,.list_none q1 hu0⟩
  | bl b=>unfold RepD at he;subst he;cases ru;exact⟨.list_bool _ q1 hu0,.list_bool _ q1 hu0⟩
  | int b=>unfold RepD at he;subst he;obtain⟨t,rfl⟩:=ru;exact⟨.list_int _ _ q1 hu0,.list_int _ _ q1 hu0⟩
  | str b=>unfold RepD at he;subst he;obtain⟨t,rfl⟩:=ru;exact⟨.list_str _ _ q1 hu0,.list_str _ _ q1 hu0⟩
  | tup es=>unfold RepD at he;obtain⟨b,ws,rfl,g,_⟩:=he;cases ru;obtain⟨its2,_,g1⟩:=isT g;exact⟨.list_tuple q1 g1 hu0,.list_tuple q1 g1 hu0⟩
  | lst es =>
   have he0:=he;unfold RepD at he;obtain⟨b,ws,rfl,g,hg⟩:=he;cases ru
   obtain⟨its2,r2,g1⟩:=isL g;have hd':depths ds+1<=n:=by simpa [D.depth] using hd
   have l1:=r1.length;have l2:=r2.length;have m1:=hq.length;have m2:=hg.length;have rc:CY A s (.ref a) (.ref b) (eqD (.lst ds) (.lst es)):=by
    unfold eqD;by_cases hl:ds.length=es.length
    ·have:=SeqAt.RcAt.lists (e:=l6 ds es) q1 g1 (by rw[li,li];omega) hu0 (iJ I (λ{A} {v} {u} {vv} {uu} {d} {e}=>ih (by omega) (A:=A)) (A:=A.in1) (by rw[gP];omega) (m:=n - 1) (by omega) r1 r2 hq hg);rw[li,show its.length=ds.length by omega,eh hl]at this;exact this
    ·rw[dq hl];exact SeqAt.RcAt.lists_lengths q1 g1 (by rw[li,li,bne_iff_ne];omega) hu0
   refine⟨rc,?_⟩;by_cases hab:a=b
   ·subst hab;rw[kJ I hv0 he0,eP];exact .same _
   ·exact .of_refs hab rc
theorem qy (I:Inv X pins σ H s):∀(n:Nat) {A:yI} {v u:V} {vv uu:bd} {d e:D},d.depth<=n->A.units+n<Bf->RelV v vv->RelV u uu->RepD X.K H v d->RepD X.K H u e ->
  CY A s vv uu (eqD d e)/\B8 A s vv uu (eqD d e):=by
 intro n;induction n with
 | zero=>exact λhd hu=>tZ I 0 (λhlt=>absurd hlt (by omega)) hd hu
 | succ n ih=>exact λhd hu=>tZ I (n+1) (λ_ A v u vv uu d e h1 h2 h3 h4 h5 h6=>(ih (A:=A) h1 h2 h3 h4 h5 h6).2) hd hu
end
section
variable {X:Cx}(K:ac)
def rEqD (K:ac):R2:=λx y H Q=>∃d e,RepD K H x d/\RepD K H y e/\d.depth<=60/\Q (.bl (eqD d e)) H
def rNeD (K:ac):R2:=λx y H Q=>∃d e,RepD K H x d/\RepD K H y e/\d.depth<=60/\Q (.bl (!eqD d e)) H
theorem jf (hu:X.A.units+64<Bf)(hK:X.K=K:=by rfl):OpR X (A2 .Eq) (rEqD K):=by
 subst hK;intro pins s σ H x y v u Q I rx ry h;obtain⟨d,e,hd,he,hz,q⟩:=h;exact(qy I 60 hz (by omega) rx ry hd he).1 X.prog X.w _ _ ⟨.bl _,H,I,rfl,q⟩
theorem wx {pins:List (Addr×Obj)}{σ:St}{H:Hp}{s:dL}(I:Inv X pins σ H s){A:yI}{v u:V}{vv uu:bd}{d e:D}(hd:d.depth<=60)(hu:A.units+61<Bf)(rv:RelV v vv)(ru:RelV u uu)(hv:RepD X.K H v d)(he:RepD X.K H u e) :
  SeqAt.RcNeAt A s vv uu (!eqD d e):=by
 have hu0:A.units<Bf:=by omega
 have isL:∀ {a xs},StL H a xs->∃its:List bd,Vals xs its/\s.heap.IsList a its.toArray:=λq=>by
  obtain⟨its,r,p,_⟩:=I.list q.sq;exact⟨its,r,p.isList⟩
 have isT:∀ {a xs},StT H a xs->∃its:List bd,Vals xs its/\s.heap.IsTuple a its.toArray:=λq=>by
  obtain⟨its,r,p,_⟩:=I.tuple q.sq;exact⟨its,r,p⟩
 cases d with
 | non =>
  unfold RepD at hv;subst hv;cases rv;cases e with
  | non=>unfold RepD at he;subst he;cases ru;exact .none_none
  | bl b=>unfold RepD at he;subst he;cases ru;exact .none_bool _
  | int b=>unfold RepD at he;subst he;obtain⟨t,rfl⟩:=ru;exact .none_int _ _
  | str b=>unfold RepD at he;subst he;obtain⟨t,rfl⟩:=ru;exact .none_str _ _
  | tup es=>unfold RepD at he;obtain⟨a,vs,rfl,q,_⟩:=he;cases ru;obtain⟨its,_,q⟩:=isT q;exact .none_tuple q hu0
  | lst es=>unfold RepD at he;obtain⟨a,vs,rfl,q,_⟩:=he;cases ru;obtain⟨its,_,q⟩:=isL q;exact .none_list q hu0
 | bl x =>
  unfold RepD at hv;subst hv;cases rv;cases e with
  | non=>unfold RepD at he;subst he;cases ru;exact .bool_none _
  | bl b=>unfold RepD at he;subst he;cases ru;exact .bool_bool _ _
  | int b=>unfold RepD at he;subst he;obtain⟨t,rfl⟩:=ru;exact .bool_int _ _ _
  | str b=>unfold RepD at he;subst he;obtain⟨t,rfl⟩:=ru;exact .bool_str _ _ _
  | tup es=>unfold RepD at he;obtain⟨a,vs,rfl,q,_⟩:=he;cases ru;obtain⟨its,_,q⟩:=isT q;exact .bool_tuple _ q hu0
  | lst es=>unfold RepD at he;obtain⟨a,vs,rfl,q,_⟩:=he;cases ru;obtain⟨its,_,q⟩:=isL q;exact .bool_list _ q hu0
 | int x =>
  unfold RepD at hv;subst hv;obtain⟨t0,rfl⟩:=rv;cases e with
  | non=>unfold RepD at he;subst he;cases ru;exact .int_none _ _
  | bl b=>unfold RepD at he;subst he;cases ru;exact .int_bool _ _ _
  | int b=>unfold RepD at he;subst he;obtain⟨t,rfl⟩:=ru;exact .int_int _ _ _ _
  | str b=>unfold RepD at he;subst he;obtain⟨t,rfl⟩:=ru;exact .int_str _ _ _ _
  | tup es=>unfold RepD at he;obtain⟨a,vs,rfl,q,_⟩:=he;cases ru;obtain⟨its,_,q⟩:=isT q;exact .int_tuple _ _ q hu0
  | lst es=>unfold RepD at he;obtain⟨a,vs,rfl,q,_⟩:=he;cases ru;obtain⟨its,_,q⟩:=isL q;exact .int_list _ _ q hu0
 | str x =>
  unfold RepD at hv;subst hv;obtain⟨t0,rfl⟩:=rv;cases e with
  | non=>unfold RepD at he;subst he;cases ru;exact .str_none _ _
  | bl b=>unfold RepD at he;subst he;cases ru;exact .str_bool _ _ _
  | int b=>unfold RepD at he;subst he;obtain⟨t,rfl⟩:=ru;exact .str_int _ _ _ _
  | str b=>unfold RepD at he;subst he;obtain⟨t,rfl⟩:=ru;exact .str_str _ _ _ _
  | tup es=>unfold RepD at he;obtain⟨a,vs,rfl,q,_⟩:=he;cases ru;obtain⟨its,_,q⟩:=isT q;exact .str_tuple _ _ q hu0
  | lst es=>unfold RepD at he;obtain⟨a,vs,rfl,q,_⟩:=he;cases ru;obtain⟨its,_,q⟩:=isL q;exact .str_list _ _ q hu0
 | tup ds =>
  unfold RepD at hv;obtain⟨a,vs,rfl,q,hq⟩:=hv;cases rv
  obtain⟨its,r1,q1⟩:=isT q;cases e with
  | non=>unfold RepD at he;subst he;cases ru;exact .tuple_none q1 hu0
  | bl b=>unfold RepD at he;subst he;cases ru;exact .tuple_bool _ q1 hu0
  | int b=>unfold RepD at he;subst he;obtain⟨t,rfl⟩:=ru;exact .tuple_int _ _ q1 hu0
  | str b=>unfold RepD at he;subst he;obtain⟨t,rfl⟩:=ru;exact .tuple_str _ _ q1 hu0
  | lst es=>unfold RepD at he;obtain⟨b,ws,rfl,g,_⟩:=he;cases ru;obtain⟨its2,_,g1⟩:=isL g;exact .tuple_list q1 g1 hu0
  | tup es =>
   unfold RepD at he;obtain⟨b,ws,rfl,g,hg⟩:=he;cases ru
   obtain⟨its2,r2,g1⟩:=isT g;have hd':depths ds+1<=60:=by simpa [D.depth] using hd
   have l1:=r1.length;have l2:=r2.length;have m1:=hq.length;have m2:=hg.length;have:=Fs (e:=l6 ds es) q1 g1 hu0 (iJ I (λ{A} {v} {u} {vv} {uu} {d} {e} a1 a2 a3 a4 a5 a6=>(qy I 60 a1 a2 a3 a4 a5 a6).2) (A:=A.in1) (by rw[gP];omega) (m:=60) (by omega) r1 r2 hq hg);rw[li,li]at this;unfold eqD;by_cases hl:ds.length=es.length
   ·have z:(its.length==its2.length)=true:=by rw[beq_iff_eq];omega
    have mm:min its.length its2.length=ds.length:=by omega
    rw[z,E3,mm,eh hl]at this;exact this
   ·have z:(its.length==its2.length)=false:=by rw[beq_eq_false_iff_ne];omega
    rw[z,BU]at this;rw[dq hl];exact this
 | lst ds =>
  unfold RepD at hv;obtain⟨a,vs,rfl,q,hq⟩:=hv;cases rv
  obtain⟨its,r1,q1⟩:=isL q;cases e with
  | non=>unfold RepD at he;subst he;cases ru;exact .list_none q1 hu0
  | bl b=>unfold RepD at he;subst he;cases ru;exact .list_bool _ q1 hu0
  | int b=>unfold RepD at he;subst he;obtain⟨t,rfl⟩:=ru;exact .list_int _ _ q1 hu0
  | str b=>unfold RepD at he;subst he;obtain⟨t,rfl⟩:=ru;exact .list_str _ _ q1 hu0
  | tup es=>unfold RepD at he;obtain⟨b,ws,rfl,g,_⟩:=he;cases ru;obtain⟨its2,_,g1⟩:=isT g;exact .list_tuple q1 g1 hu0
  | lst es =>
   unfold RepD at he;obtain⟨b,ws,rfl,g,hg⟩:=he;cases ru
   obtain⟨its2,r2,g1⟩:=isL g;have hd':depths ds+1<=60:=by simpa [D.depth] using hd
   have l1:=r1.length;have l2:=r2.length;have m1:=hq.length;have m2:=hg.length;unfold eqD;by_cases hl:ds.length=es.length
   ·have:=Fu (e:=l6 ds es) q1 g1 (by rw[li,li];omega) hu0 (iJ I (λ{A} {v} {u} {vv} {uu} {d} {e} a1 a2 a3 a4 a5 a6=>(qy I 60 a1 a2 a3 a4 a5 a6).2) (A:=A.in1) (by rw[gP];omega) (m:=60) (by omega) r1 r2 hq hg);rw[li,show its.length=ds.length by omega,eh hl]at this;exact this
   ·rw[dq hl];exact Ft q1 g1 (by rw[li,li,bne_iff_ne];omega) hu0
theorem ib (hu:X.A.units+64<Bf)(hK:X.K=K:=by rfl):OpR X (A2 .NotEq) (rNeD K):=by
 subst hK;intro pins s σ H x y v u Q I rx ry h;obtain⟨d,e,hd,he,hz,q⟩:=h;exact wx I hz (by omega) rx ry hd he X.prog X.w _ _ ⟨.bl _,H,I,rfl,q⟩
end
def qt (ks:List Nat):Nat:=ks.foldl (λr k=>r ^^^ (1 <<< k)) 0
theorem qr (k:Nat):∀ks:List Nat,(qt ks).testBit k=decide (ks.count k % 2=1):=by
 intro ks;have gen:∀(ks:List Nat) (r:Nat),(ks.foldl (λr k=>r ^^^ (1 <<< k)) r).testBit k=(r.testBit k ^^ decide (ks.count k % 2=1)):=by
  intro ks;induction ks with
  | nil=>intro r;simp
  | cons a t ih =>
   intro r;rw[y_,ih,Ab,Ev,Ca,List.count_cons];by_cases h:a=k
   ·subst h;simp only[decide_true,beq_self_eq_true,if_true];rcases yM (t.count a)with p | p
    ·have q:(t.count a+1) % 2=1:=by omega
     simp[p,q]
    ·have q:(t.count a+1) % 2=0:=by omega
     simp[p,q]
   ·have hb:(a==k)=false:=beq_eq_false_iff_ne.mpr h;simp[h,hb]
 have:=gen ks 0;simpa [qt] using this
abbrev natsD (ks:List Nat):List D:=ks.map λj=>D.int (j:Nat)
section
variable {X:Cx}
theorem gE {x:Str}{v:V}{pos:Pos}(h:∃u,X.mg x=some u/\RelV v u)(hg:Gl X x)(hd:(x==("__debug__" : Str))=false:=by decide):PE X (.Name x pos) (tC v):=by
 obtain⟨u,hm,r⟩:=h;exact u_ hg hm r hd
end
structure Net where
 m:Nat
 js:List (Nat×Nat)
 os:List Nat
abbrev pairD (p:Nat×Nat):D:=.tup [.int (p.1:Nat),.int (p.2:Nat)]
def netD (N:Net):D:=.tup [.int (N.m:Nat),.tup (N.js.map pairD),.tup (natsD N.os)]
def aD (rows:List Nat)(p:Nat×Nat):List Nat:=rows++[rows.getD p.1 0 ^^^ rows.getD p.2 0]
def aO (m:Nat):List Nat:=(ym m).map λk=>1 <<< k
def bQ (N:Net):List Nat:=N.js.foldl aD (aO N.m)
def okIx:Nat->List (Nat×Nat)->Prop
 | _,[]=>True
 | n,p::r=>p.1<p.2/\p.2<n/\okIx (n+1) r
def okJs:List Nat->List (Nat×Nat)->Prop
 | _,[]=>True
 | rows,p::r=>p.1<p.2/\p.2<rows.length/\rows.getD p.1 0≠rows.getD p.2 0/\okJs (aD rows p) r
structure bN (N:Net):Prop where
 m1:1<=N.m
 m12:N.m<=12
 jl:N.js.length<=132
 js:okJs (aO N.m) N.js
 o1:1<=N.os.length
 o24:N.os.length<=24
 os:∀o∈N.os,o<N.m+N.js.length
theorem bW (rows:List Nat)(p:Nat×Nat):(aD rows p).length=rows.length+1:=by simp[aD]
theorem cV:∀ {js:List (Nat×Nat)} {rows:List Nat},okJs rows js->okIx rows.length js
 | [],_,_=>trivial
 | p::r,rows,h=>by
  obtain⟨h1,h2,_,h4⟩:=h;have:=cV h4;rw[bW]at this;exact⟨h1,h2,this⟩
theorem bY:∀ {js:List (Nat×Nat)} {n i:Nat} {p:Nat×Nat},okIx n js->js[i]? = some p->p.1<p.2/\p.2<n+i
 | [],_,_,_,_,h=>by simp at h
 | q::r,n,0,p,h,e=>by
  simp at e;subst e;exact⟨h.1,by have:=h.2.1;omega⟩
 | q::r,n,i+1,p,h,e=>by
  have:=bY (n:=n+1) (i:=i) (p:=p) h.2.2 (by simpa using e);exact⟨this.1,by omega⟩
theorem oo:∀ {js:List (Nat×Nat)} {rows:List Nat} {i:Nat} {p:Nat×Nat},okJs rows js->js[i]? = some p ->
  ((js.take i).foldl aD rows).getD p.1 0≠((js.take i).foldl aD rows).getD p.2 0
 | [],_,_,_,_,h=>by simp at h
 | q::r,rows,0,p,h,e=>by
  simp at e;subst e;exact h.2.2.1
 | q::r,rows,i+1,p,h,e=>oo (js:=r) (rows:=aD rows q) (i:=i) (p:=p) h.2.2.2 (by simpa using e)
theorem cb (js:List (Nat×Nat)):∀rows:List Nat,(js.foldl aD rows).length=rows.length+js.length:=by
 induction js with
 | nil=>intro rows;rfl
 | cons p r ih=>intro rows;rw[y_,ih,bW,wS];omega
theorem l4 {js:List (Nat×Nat)}{i:Nat}{p:Nat×Nat}(h:js[i]? = some p)(rows:List Nat):(js.take (i+1)).foldl aD rows=aD ((js.take i).foldl aD rows) p:=by
 rw[Ah,h,B7,zn];rfl
theorem bf (m:Nat):(aO m).length=m:=by simp[aO]
theorem sC (N:Net):(bQ N).length=N.m+N.js.length:=by unfold bQ;rw[cb,bf]
theorem jk:∀ {js:List (Nat×Nat)} {rows:List Nat} {p:Nat×Nat},okJs rows js->p.1<p.2->p.2<rows.length+js.length->(js.foldl aD rows).getD p.1 0≠(js.foldl aD rows).getD p.2 0->okJs rows (js++[p])
 | [],rows,p,_,h1,h2,h3=>⟨h1,by simpa using h2,h3,trivial⟩
 | q::r,rows,p,h,h1,h2,h3=>⟨h.1,h.2.1,h.2.2.1,jk h.2.2.2 h1 (by rw[bW];simp at h2;omega) h3⟩
inductive Sv where
 | un | vl (d:D) | ow (ds:List D) | tp (n:Nat) | dk (kvs:List (Key×D)) | dt (kvs:List (List Key×D)) | ex (C:Addr) (fs:Option (List (Str×D))) | sc (ns:List Int) | px (d:D) (C:Addr) (fs:Option (List (Str×D))) | xl (es:List (Addr×Option (List (Str×D)))) | ob (C:Addr) (fs:List (Str×D)) | ll (xss:List (List D)) | ds (C:Addr) (n w:List (Key×D))
def Sv.own:Sv->Bool
 | .ow _=>true
 | .tp _=>true
 | .dk _=>true
 | .dt _=>true
 | .ll _=>true
 | .ds _ _ _=>true
 | _=>false
abbrev En:=List Sv
inductive R where
 | d (d:D) | o (i:Nat) | n (s:Sv) | t (n:String) | x (s:Sv)
abbrev R.f (ds:List D):R:=.n (.ow ds)
def gt:En->Nat->Sv
 | [],_=>.un
 | s::_,0=>s
 | _::r,n+1=>gt r n
def pt:En->Nat->Sv->En
 | [],_,_=>[]
 | _::r,0,s=>s::r
 | x::r,n+1,s=>x::pt r n s
theorem ft:∀(ρ:En) (i:Nat) (s:Sv),(pt ρ i s).length=ρ.length
 | [],_,_=>rfl
 | _::_,0,_=>rfl
 | x::r,n+1,s=>by simp[pt,ft r n s]
theorem bU:∀(ρ:En) (i j:Nat) (s:Sv),i≠j->gt (pt ρ i s) j=gt ρ j
 | [],_,_,_,_=>rfl
 | _::_,0,0,_,h=>absurd rfl h
 | _::_,0,j+1,_,_=>rfl
 | x::r,i+1,0,s,_=>rfl
 | x::r,i+1,j+1,s,h=>bU r i j s (by omega)
theorem jN:∀(ρ:En) (i:Nat) (s:Sv),i<ρ.length->gt (pt ρ i s) i=s
 | [],_,_,h=>by simp at h
 | _::_,0,_,_=>rfl
 | x::r,i+1,s,h=>jN r i s (by simpa using h)
theorem ig:∀(ρ:En) (i:Nat),ρ.length<=i->gt ρ i = .un
 | [],_,_=>rfl
 | x::r,0,h=>by simp at h
 | x::r,i+1,h=>ig r i (by simpa using h)
theorem jc {ρ:En}{i:Nat}(h:(gt ρ i).own=true):i<ρ.length:=by
 rcases pp i ρ.length with q | q
 ·exact q
 ·rw[ig ρ i q]at h;cases h
def bZ (σ:St)(ρ:En)(a:Addr):Prop:=∃i,(gt ρ i).own=true/\σ[i]? = some (some (.ref a))
open Classical in
noncomputable def hid (H:Hp)(S:Addr->Prop):Hp:=λa=>if S a then none else H a
theorem dz {H:Hp}{S:Addr->Prop}{a:Addr}{o:HO}:hid H S a=some o↔¬S a/\H a=some o:=by
 unfold hid;split
 ·rename_i h;simp[h]
 ·rename_i h;simp[h]
theorem dU {H:Hp}{S:Addr->Prop}{a:Addr}{o:HO}(h:¬S a)(e:H a=some o):hid H S a=some o:=dz.mpr ⟨h,e⟩
theorem bT {H H':Hp}{S S':Addr->Prop}(h:∀a o,H a=some o->¬S a->H' a=some o/\¬S' a):Same (hid H S) (hid H' S'):=λa o e=>by
 obtain⟨n,e⟩:=dz.mp e;obtain⟨e',n'⟩:=h a o e n;exact dU n' e'
theorem cn {H:Hp}{S:Addr->Prop}:Same (hid H S) H:=λa o e=>(dz.mp e).2
structure Fr where
 H0:Hp
 Z:Addr->Prop
 M:Addr->Prop
 I:Nat->Addr->Prop
 P:Nat->Addr->Prop
def Fr.pin (F:Fr)(i:Nat)(a:Addr):Prop:=F.I i a∨F.P i a
def hs (F:Fr)(σ:St)(ρ:En):Addr->Prop:=λa=>F.Z a∨bZ σ ρ a
def exP (e C:Addr)(od:Option Addr):Heap->Prop:=λh=>∃oe vs,h.get? e=some oe/\oe.cls = .ref C/\oe.dict=od/\oe.data = .fields vs
def exD (K:ac)(Hh:Hp):Option (List (Str×D))->Option Addr->Prop
 | none,none=>True
 | some fs,some dx=>∃ks,Hh dx=some (.xd ks)/\ks.map yX=fs.map yX/\RepDs K Hh (ks.map zk) (fs.map zk)
 | _,_=>False
theorem exD.same {K:ac}{Hh Hh':Hp}:∀ {fs:Option (List (Str×D))} {od:Option Addr},exD K Hh fs od->Same Hh Hh'->exD K Hh' fs od
 | none,none,h,_=>h
 | some fs,some dx,⟨ks,h1,h2,h3⟩,g=>⟨ks,g _ _ h1,h2,h3.same g⟩
 | none,some _,h,_=>h.elim
 | some _,none,h,_=>h.elim
def Exs (K:ac)(Hh:Hp):List V->List (Addr×Option (List (Str×D)))->Prop
 | [],[]=>True
 | x::vs,c::es=>(∃e od,x = .ref e/\Hh e=some (.ext (exP e c.1 od))/\exD K Hh c.2 od)/\Exs K Hh vs es
 | _,_=>False
theorem Exs.same {K:ac}{Hh Hh':Hp}:∀ {vs:List V} {es:List (Addr×Option (List (Str×D)))},Exs K Hh vs es->Same Hh Hh'->Exs K Hh' vs es
 | [],[],h,_=>h
 | x::vs,c::es,⟨⟨e,od,h1,h2,h3⟩,h4⟩,g=>⟨⟨e,od,h1,g _ _ h2,h3.same g⟩,Exs.same h4 g⟩
 | [],_::_,h,_=>h.elim
 | _::_,[],h,_=>h.elim
def LlP (a:Addr)(bs:List Addr)(vss:List (List V)):wl->yF->Heap->Prop:=λ_ _ h=>bs.length<=ww/\bs.Nodup/\(∃n,h.get? a=some {cls:=.type "list",data:=.seq (bs.map Value.ref).toArray n})/\vss.length=bs.length /\
 ∀(k:Nat) (b:Addr) (vs:List V),bs[k]? = some b->vss[k]? = some vs->vs.length<=ww/\∃(its:List bd) (n:Nat),Vals vs its/\h.get? b=some {cls:=.type "list",data:=.seq its.toArray n}
def r6 (K:ac)(H:Hp)(vss:List (List V))(dss:List (List D)):Prop:=vss.length=dss.length/\∀(k:Nat) (vs:List V) (ds:List D),vss[k]? = some vs->dss[k]? = some ds->RepDs K H vs ds
theorem r6.same {K:ac}{H H':Hp}{vss:List (List V)}{dss:List (List D)}(h:r6 K H vss dss)(g:Same H H'):r6 K H' vss dss:=⟨h.1,λk vs ds a b=>(h.2 k vs ds a b).same g⟩
def DsP (x C dx d1 d2:Addr)(f1 f2:Str)(k1 k2:List (Key×V)):wl->yF->Heap->Prop:=λP w h=>dx≠x/\d1≠x/\d2≠x/\dx≠d1/\dx≠d2/\d1≠d2/\c_ P w (λb=>if b=dx then some (.own x)else none) h x (.ins C dx [(f1,.ref d1),(f2,.ref d2)]) /\
 c_ P w (λ_=>none) h d1 (.dK k1)/\c_ P w (λ_=>none) h d2 (.dK k2)
def SvOk (K:ac)(Hh H:Hp)(v:Option (Option V)):Sv->Prop
 | .xl es=>∃l vs,v=some (some (.ref l))/\Hh l=some (.lst vs)/\Exs K Hh vs es
 | .ob C fs=>∃a dx ks,v=some (some (.ref a))/\Hh a=some (.ins C dx ks)/\ks.map yX=fs.map yX/\RepDs K Hh (ks.map zk) (fs.map zk)
 | .ll xss=>∃l bs vss,v=some (some (.ref l))/\H l=some (.big bs (LlP l bs vss))/\r6 K Hh vss xss
 | .ds C n w=>∃x dx d1 d2 k1 k2,v=some (some (.ref x))/\H x=some (.big [dx,d1,d2] (DsP x C dx d1 d2 "nets" "wishes" k1 k2))/\k1.map yX=n.map yX/\RepDs K Hh (k1.map zk) (n.map zk)/\k2.map yX=w.map yX/\RepDs K Hh (k2.map zk) (w.map zk)
 | .px d C fs=>∃p x e od,v=some (some (.ref p))/\Hh p=some (.tup [x,.ref e])/\RepD K Hh x d/\Hh e=some (.ext (exP e C od))/\exD K Hh fs od
 | .sc ns=>∃c,v=some (some (.ref c))/\SqL K Hh c (Bi V.int ns)
 | .ex C fs=>∃e od,v=some (some (.ref e))/\Hh e=some (.ext (exP e C od))/\exD K Hh fs od
 | .un=>True
 | .vl d=>∃x,v=some (some x)/\RepD K Hh x d
 | .ow ds=>∃l vs,v=some (some (.ref l))/\H l=some (.lst vs)/\RepDs K Hh vs ds
 | .tp n=>∃t c ns sp lf,v=some (some (.ref t))/\H t=some (.dK (cE c sp lf))/\SqL K Hh c (Bi V.int ns)/\0<=sp/\sp<=n/\0<=lf
 | .dk kvs=>∃t ks,v=some (some (.ref t))/\H t=some (.dK ks)/\ks.map yX=kvs.map yX/\RepDs K Hh (ks.map zk) (kvs.map zk)
 | .dt kvs=>∃t ks,v=some (some (.ref t))/\H t=some (.dT ks)/\ks.map yX=kvs.map yX/\RepDs K Hh (ks.map zk) (kvs.map zk)
theorem SvOk.keep {K:ac}{Hh Hh' H H':Hp}{v:Option (Option V)}{s:Sv}(h:SvOk K Hh H v s)(g:Same Hh Hh')(k:∀l o,s.own=true->v=some (some (.ref l))->H l=some o->H' l=some o):SvOk K Hh' H' v s:=by
 cases s with
 | un=>trivial
 | vl d=>obtain⟨x,e,r⟩:=h;exact⟨x,e,r.same g⟩
 | ow ds=>obtain⟨l,vs,e,a,r⟩:=h;exact⟨l,vs,e,k _ _ rfl e a,r.same g⟩
 | tp n=>obtain⟨t,c,ns,sp,lf,e,a,b,r⟩:=h;exact⟨t,c,ns,sp,lf,e,k _ _ rfl e a,g.seq b,r⟩
 | dk kvs=>obtain⟨t,ks,e,a,b,r⟩:=h;exact⟨t,ks,e,k _ _ rfl e a,b,r.same g⟩
 | dt kvs=>obtain⟨t,ks,e,a,b,r⟩:=h;exact⟨t,ks,e,k _ _ rfl e a,b,r.same g⟩
 | ex C fs=>obtain⟨t,od,e,a,b⟩:=h;exact⟨t,od,e,g _ _ a,b.same g⟩
 | sc ns=>obtain⟨c,e,a⟩:=h;exact⟨c,e,g.seq a⟩
 | px d C fs=>obtain⟨p,x,e,od,a,b,c,d',e'⟩:=h;exact⟨p,x,e,od,a,g _ _ b,c.same g,g _ _ d',e'.same g⟩
 | xl es=>obtain⟨p,vs,a,b,c⟩:=h;exact⟨p,vs,a,g _ _ b,c.same g⟩
 | ob C fs=>obtain⟨p,dx,ks,a,b,c,d⟩:=h;exact⟨p,dx,ks,a,g _ _ b,c,d.same g⟩
 | ll xss=>obtain⟨l,bs,vss,e,a,r⟩:=h;exact⟨l,bs,vss,e,k _ _ rfl e a,r.same g⟩
 | ds C n w=>obtain⟨x,dx,d1,d2,k1,k2,e,a,r1,r2,r3,r4⟩:=h;exact⟨x,dx,d1,d2,k1,k2,e,k _ _ rfl e a,r1,r2.same g,r3,r4.same g⟩
theorem SvOk.alive {K:ac}{Hh H:Hp}{v:Option (Option V)}{s:Sv}(h:SvOk K Hh H v s)(ho:s.own=true):∃l o,v=some (some (.ref l))/\H l=some o:=by
 cases s with
 | un=>cases ho
 | vl d=>cases ho
 | ow ds=>obtain⟨l,vs,e,a,r⟩:=h;exact⟨l,_,e,a⟩
 | tp n=>obtain⟨t,c,ns,sp,lf,e,a,b,r⟩:=h;exact⟨t,_,e,a⟩
 | dk kvs=>obtain⟨t,ks,e,a,b,r⟩:=h;exact⟨t,_,e,a⟩
 | dt kvs=>obtain⟨t,ks,e,a,b,r⟩:=h;exact⟨t,_,e,a⟩
 | ex C fs=>cases ho
 | sc ns=>cases ho
 | px d C fs=>cases ho
 | xl es=>cases ho
 | ob C fs=>cases ho
 | ll xss=>obtain⟨l,bs,vss,e,a,r⟩:=h;exact⟨l,_,e,a⟩
 | ds C n w=>obtain⟨x,dx,d1,d2,k1,k2,e,a,r⟩:=h;exact⟨x,_,e,a⟩
def Nt (H:Hp)(a:Addr):Prop:=H a≠none/\∀xs,H a≠some (.tup xs)
theorem wN {H:Hp}{a l:Addr}{o:HO}(al:a≠l)(h:Nt H a):Nt (upd H l o) a:=by unfold Nt;rw[aU al];exact h
structure Rel (K:ac)(F:Fr)(σ:St)(ρ:En)(H:Hp):Prop where
 len:σ.length=ρ.length
 fr:∀a o,F.H0 a=some o->¬F.M a->H a=some o
 zl:∀a,F.Z a->Nt H a
 zo:∀a,bZ σ ρ a->¬F.Z a
 ow:∀i a,(gt ρ i).own=true->σ[i]? = some (some (.ref a))->(F.I i a/\F.M a)∨F.H0 a=none
 mi:∀i a,F.pin i a->σ[i]? = some (some (.ref a))
 ml:∀a,F.M a->F.H0 a≠none
 ma:∀a,F.M a->H a≠none
 nd:∀i j a,(gt ρ i).own=true->(gt ρ j).own=true->σ[i]? = some (some (.ref a))->σ[j]? = some (some (.ref a))->i=j
 sl:∀i,SvOk K (hid H (hs F σ ρ)) H σ[i]? (gt ρ i)
structure Kp (σ:St)(ρ ρ':En)(H H':Hp):Prop where
 st:∀a o,H a=some o->¬bZ σ ρ a->H' a=some o
 sb:∀i,(gt ρ' i).own=true->(gt ρ i).own=true
theorem Kp.so {σ:St}{ρ ρ':En}{H H':Hp}(k:Kp σ ρ ρ' H H'){a:Addr}(h:bZ σ ρ' a):bZ σ ρ a:=by
 obtain⟨i,hi,e⟩:=h;exact⟨i,k.sb i hi,e⟩
theorem Kp.refl {σ:St}{ρ:En}{H:Hp}:Kp σ ρ ρ H H:=⟨λ_ _ e _=>e,λ_ h=>h⟩
theorem Kp.trans {σ:St}{ρ ρ1 ρ2:En}{H H1 H2:Hp}(a:Kp σ ρ ρ1 H H1)(b:Kp σ ρ1 ρ2 H1 H2):Kp σ ρ ρ2 H H2 :=
 ⟨λx o e n=>b.st x o (a.st x o e n) λz=>n (a.so z),λx z=>a.sb x (b.sb x z)⟩
theorem Kp.fresh {σ:St}{ρ:En}{H:Hp}{l:Addr}{o:HO}(h:H l=none):Kp σ ρ ρ H (upd H l o) :=
 ⟨λa u e _=>by rw[aU (bD e h)];exact e,λ_ h=>h⟩
section
variable {K:ac}{F:Fr}{σ:St}{ρ ρ':En}{H H':Hp}
theorem dG (r:Rel K F σ ρ H){a:Addr}(h:bZ σ ρ a):H a≠none:=by
 obtain⟨i,hi,e⟩:=h;obtain⟨l,o,e',h'⟩:=(r.sl i).alive hi;rw[e]at e';injection e' with e';injection e' with e';injection e' with e';rw[e',h'];exact λz=>nomatch z
theorem oF (r:Rel K F σ ρ H){a:Addr}(h:hs F σ ρ a):H a≠none:=by
 rcases h with h | h
 ·exact(r.zl a h).1
 ·exact dG r h
theorem SvOk.nt {K:ac}{Hh H:Hp}{v:Option (Option V)}{s:Sv}(h:SvOk K Hh H v s)(ho:s.own=true):∃l,v=some (some (.ref l))/\Nt H l:=by
 cases s with
 | un=>cases ho
 | vl d=>cases ho
 | ow ds=>obtain⟨l,vs,e,a,r⟩:=h;exact⟨l,e,by rw[a];exact(λz=>nomatch z),by rw[a];exact λ_ z=>nomatch z⟩
 | tp n=>obtain⟨l,c,ns,sp,lf,e,a,b,r⟩:=h;exact⟨l,e,by rw[a];exact(λz=>nomatch z),by rw[a];exact λ_ z=>nomatch z⟩
 | dk kvs=>obtain⟨l,ks,e,a,b,r⟩:=h;exact⟨l,e,by rw[a];exact(λz=>nomatch z),by rw[a];exact λ_ z=>nomatch z⟩
 | dt kvs=>obtain⟨l,ks,e,a,b,r⟩:=h;exact⟨l,e,by rw[a];exact(λz=>nomatch z),by rw[a];exact λ_ z=>nomatch z⟩
 | ex C fs=>cases ho
 | sc ns=>cases ho
 | px d C fs=>cases ho
 | xl es=>cases ho
 | ob C fs=>cases ho
 | ll xss=>obtain⟨l,bs,vss,e,a,r⟩:=h;exact⟨l,e,by rw[a];exact(λz=>nomatch z),by rw[a];exact λ_ z=>nomatch z⟩
 | ds C n w=>obtain⟨l,dx,d1,d2,k1,k2,e,a,r⟩:=h;exact⟨l,e,by rw[a];exact(λz=>nomatch z),by rw[a];exact λ_ z=>nomatch z⟩
theorem oh (r:Rel K F σ ρ H){a:Addr}(h:bZ σ ρ a):Nt H a:=by
 obtain⟨i,hi,e⟩:=h;obtain⟨l,e',h'⟩:=(r.sl i).nt hi;rw[e]at e';injection e' with e';injection e' with e';injection e' with e';rw[e'];exact h'
theorem sY (r:Rel K F σ ρ H){a:Addr}(h:hs F σ ρ a):Nt H a:=by
 rcases h with h | h
 ·exact r.zl a h
 ·exact oh r h
theorem jw (r:Rel K F σ ρ H){l:Addr}(h:H l=none):¬hs F σ ρ l:=λz=>oF r z h
theorem tf (r:Rel K F σ ρ H){l:Addr}(h:H l=none):F.H0 l=none:=by
 cases h0:F.H0 l with
 | none=>rfl
 | some o =>
  by_cases q:F.M l
  ·exact absurd h (r.ma l q)
  ·have:=r.fr l o h0 q;rw[h]at this;cases this
theorem Kp.vis (k:Kp σ ρ ρ' H H'):Same (hid H (hs F σ ρ)) (hid H' (hs F σ ρ')):=bT λa o e n =>
 ⟨k.st a o e λz=>n (.inr z),λz=>by
  rcases z with z | z
  ·exact n (.inl z)
  ·exact n (.inr (k.so z))⟩
theorem pM {a:Addr}(g:Same H H')(h:H a≠none):H' a≠none:=λe=>by
 cases h':H a with
 | none=>exact h h'
 | some o=>rw[g a o h']at e;cases e
theorem vy {a:Addr}(g:Same H H')(h:Nt H a):Nt H' a:=by
 cases h':H a with
 | none=>exact(h.1 h').elim
 | some o =>
  have e:=g a o h';unfold Nt;rw[e,<- h'];exact h
theorem Rel.grow (r:Rel K F σ ρ H)(g:Same H H'):Rel K F σ ρ H' where
 len:=r.len
 fr:=λa o e n=>g a o (r.fr a o e n)
 zl:=λa z=>vy g (r.zl a z)
 zo:=r.zo
 ow:=r.ow
 mi:=r.mi
 ml:=r.ml
 ma:=λa z=>pM g (r.ma a z)
 nd:=r.nd
 sl:=λi=>(r.sl i).keep (bT λa o e n=>⟨g a o e,n⟩) λl o _ _ e=>g l o e
theorem Rel.fresh (r:Rel K F σ ρ H){l:Addr}{o:HO}(h:H l=none):Rel K F σ ρ (upd H l o):=r.grow ((Same.refl H).new h)
theorem qz:∀(ρ:En) (i:Nat) (s:Sv),ρ.length<=i->pt ρ i s=ρ
 | [],_,_,_=>rfl
 | x::r,0,s,h=>by simp at h
 | x::r,i+1,s,h=>by simp[pt,qz r i s (by simpa using h)]
theorem fv {i j:Nat}{s:Sv}(hs:s.own=false)(hj:(gt (pt ρ i s) j).own=true):i≠j/\(gt ρ j).own=true:=by
 by_cases ij:i=j
 ·subst ij;rcases pp i ρ.length with q | q
  ·rw[jN ρ i s q,hs]at hj;cases hj
  ·rw[ig _ i (by rw[ft];exact q)]at hj;cases hj
 ·rw[bU ρ i j s ij]at hj;exact⟨ij,hj⟩
theorem Rel.setS (r:Rel K F σ ρ H){i:Nat}{v:V}{s:Sv}(hs':s.own=false)(hd:SvOk K (hid H (hs F σ ρ)) H (some (some v)) s)(hm:∀a,¬F.pin i a):Rel K F (σ.set i (some v)) (pt ρ i s) H:=by
 rcases pp i ρ.length with hi | hi;case inr =>
  rw[qz ρ i s hi,Bu (by rw[r.len];exact hi)];exact r
 have sub:∀a,bZ (σ.set i (some v)) (pt ρ i s) a->bZ σ ρ a:=λa ⟨j,hj,e⟩=>by
  obtain⟨ij,hj⟩:=fv hs' hj;rw[xz ij]at e;exact⟨j,hj,e⟩
 have vis:Same (hid H (hs F σ ρ)) (hid H (hs F (σ.set i (some v)) (pt ρ i s))):=bT λa o e n=>⟨e,λz=>n (z.imp id (sub a))⟩
 refine⟨by rw[zY,ft,r.len],r.fr,r.zl,λa h=>r.zo a (sub a h),λj a hj e=>?_,λj a h=>?_,r.ml,r.ma,λj k a hj hk ej ek=>?_,λj=>?_⟩
 ·obtain⟨ij,hj⟩:=fv hs' hj;rw[xz ij]at e;exact r.ow j a hj e
 ·have:i≠j:=λe=>hm a (e▸h);rw[xz this];exact r.mi j a h
 ·obtain⟨nj,hj⟩:=fv hs' hj;obtain⟨nk,hk⟩:=fv hs' hk;rw[xz nj]at ej;rw[xz nk]at ek;exact r.nd j k a hj hk ej ek
 ·by_cases ij:i=j
  ·subst ij;rw[jN ρ i _ hi,y6 (by rw[r.len];exact hi)];exact hd.keep vis λl o ho=>by rw[hs']at ho;cases ho
  ·rw[bU ρ i j _ ij,xz ij];exact(r.sl j).keep vis λl o _ _ e=>e
theorem Rel.set (r:Rel K F σ ρ H){i:Nat}{v:V}{d:D}(hd:RepD K (hid H (hs F σ ρ)) v d)(hm:∀a,¬F.pin i a):Rel K F (σ.set i (some v)) (pt ρ i (.vl d)) H :=
 r.setS rfl ⟨v,rfl,hd⟩ hm
theorem Rel.setF (r:Rel K F σ ρ H){i:Nat}{l:Addr}{o:HO}{s:Sv}(hs':s.own=true)(hd:SvOk K (hid H (hs F σ ρ)) (upd H l o) (some (some (.ref l))) s)(hn:H l=none)(hm:∀a,¬F.pin i a) :
  Rel K F (σ.set i (some (.ref l))) (pt ρ i s) (upd H l o):=by
 have rf:=r.fresh (o:=o) hn;rcases pp i ρ.length with hi | hi;case inr =>
  rw[qz ρ i s hi,Bu (by rw[r.len];exact hi)];exact rf
 have at1:∀ {a},(σ.set i (some (V.ref l)))[i]? = some (some (.ref a))->a=l:=λe=>by
  rw[y6 (by rw[r.len];exact hi)]at e;injection e with e;injection e with e;injection e with e;exact e.symm
 have sub:∀a,bZ (σ.set i (some (.ref l))) (pt ρ i s) a->bZ σ ρ a∨a=l:=λa h=>by
  obtain⟨j,hj,e⟩:=h;by_cases ij:i=j
  ·subst ij;exact .inr (at1 e)
  ·rw[bU ρ i j _ ij]at hj;rw[xz ij]at e;exact .inl ⟨j,hj,e⟩
 have vis:Same (hid H (hs F σ ρ)) (hid (upd H l o) (hs F (σ.set i (some (.ref l))) (pt ρ i s))):=bT λa u e n=>by
  have al:=bD e hn;refine⟨by rw[aU al];exact e,λz=>?_⟩;rcases z with z | z
  ·exact n (.inl z)
  ·rcases sub a z with z | z
   ·exact n (.inr z)
   ·exact al z
 have nol:∀j,(gt ρ j).own=true->σ[j]? ≠ some (some (.ref l)):=λj hj e=>dG r ⟨j,hj,e⟩ hn;refine⟨by rw[zY,ft,r.len],rf.fr,rf.zl,λa h=>?_,λj a hj e=>?_,λj a h=>?_,r.ml,rf.ma,λj k a hj hk ej ek=>?_,λj=>?_⟩
 ·rcases sub a h with h | h
  ·exact r.zo a h
  ·subst h;exact λz=>(r.zl _ z).1 hn
 ·by_cases ij:i=j
  ·subst ij;rw[at1 e];exact .inr (tf r hn)
  ·rw[bU ρ i j _ ij]at hj;rw[xz ij]at e;exact r.ow j a hj e
 ·have:i≠j:=λe=>hm a (e▸h);rw[xz this];exact r.mi j a h
 ·by_cases nj:i=j
  ·by_cases nk:i=k
   ·omega
   ·subst nj;have:=at1 ej;subst this;rw[bU ρ i k _ nk]at hk;rw[xz nk]at ek;exact absurd ek (nol k hk)
  ·rw[bU ρ i j _ nj]at hj;rw[xz nj]at ej;by_cases nk:i=k
   ·subst nk;have:=at1 ek;subst this;exact absurd ej (nol j hj)
   ·rw[bU ρ i k _ nk]at hk;rw[xz nk]at ek;exact r.nd j k a hj hk ej ek
 ·by_cases ij:i=j
  ·subst ij;rw[jN ρ i _ hi,y6 (by rw[r.len];exact hi)];exact hd.keep vis λ_ _ _ _ e=>e
  ·rw[bU ρ i j _ ij,xz ij];exact(r.sl j).keep vis λa o ho e h=>by
    rw[aU (bD h hn)];exact h
theorem Rel.write (r:Rel K F σ ρ H){i:Nat}{l:Addr}{o:HO}{s:Sv}(hi:(gt ρ i).own=true)(el:σ[i]? = some (some (.ref l)))(hs':s.own=true)(new:SvOk K (hid H (hs F σ ρ)) (upd H l o) (some (some (.ref l))) s):Rel K F σ (pt ρ i s) (upd H l o)/\Kp σ ρ (pt ρ i s) H (upd H l o):=by
 have lt:=jc hi;have own':∀j,(gt (pt ρ i s) j).own=true->(gt ρ j).own=true:=λj h=>by
  by_cases ij:i=j
  ·subst ij;exact hi
  ·rw[bU ρ i j _ ij]at h;exact h
 have sub:∀a,bZ σ (pt ρ i s) a->bZ σ ρ a:=λa ⟨j,hj,e⟩=>⟨j,own' j hj,e⟩
 have hso:bZ σ ρ l:=⟨i,hi,el⟩
 have vis:Same (hid H (hs F σ ρ)) (hid (upd H l o) (hs F σ (pt ρ i s))):=bT λa u e n=>by
  have al:a≠l:=λz=>n (.inr (z▸hso));exact⟨by rw[aU al];exact e,λz=>n (z.imp id (sub a))⟩
 have up:∀ {a},H a≠none->(upd H l o) a≠none:=λ{a} h e=>by
  by_cases al:a=l
  ·subst al;rw[bh]at e;cases e
  ·rw[aU al]at e;exact h e
 refine⟨⟨by rw[ft,r.len],λa u e n=>?_,λa z=>wN (λq=>r.zo l hso (q▸z)) (r.zl a z),λa h=>r.zo a (sub a h),λj a hj e=>r.ow j a (own' j hj) e,r.mi,r.ml,λa z=>up (r.ma a z),λj k a hj hk ej ek=>r.nd j k a (own' j hj) (own' k hk) ej ek,λj=>?_⟩,⟨λa u e n=>?_,own'⟩⟩
 ·have al:a≠l:=λz=>by
   subst z;rcases r.ow i _ hi el with⟨_,q⟩ | q
   ·exact n q
   ·rw[e]at q;cases q
  rw[aU al];exact r.fr a u e n
 ·by_cases ij:i=j
  ·subst ij;rw[jN ρ i s lt,el];exact new.keep vis λ_ _ _ _ e=>e
  ·rw[bU ρ i j _ ij];refine(r.sl j).keep vis λa u ho e h=>?_;have al:a≠l:=λz=>ij (r.nd i j l hi ho el (z▸e));rw[aU al];exact h
 ·have al:a≠l:=λz=>n (z▸hso);rw[aU al];exact e
theorem Rel.frz (r:Rel K F σ ρ H){i:Nat}{ds:List D}(hi:gt ρ i = .ow ds):∃l,σ[i]? = some (some (.ref l))/\Rel K F σ (pt ρ i (.vl (.lst ds))) H/\Kp σ ρ (pt ρ i (.vl (.lst ds))) H H/\RepD K (hid H (hs F σ (pt ρ i (.vl (.lst ds))))) (.ref l) (.lst ds):=by
 have ho:(gt ρ i).own=true:=by rw[hi];rfl
 have lt:=jc ho;have q:=r.sl i;rw[hi]at q;obtain⟨l,vs,el,hl,hd⟩:=q;have own':∀j,(gt (pt ρ i (.vl (.lst ds))) j).own=true->i≠j/\(gt ρ j).own=true:=λj h=>fv rfl h;have sub:∀a,bZ σ (pt ρ i (.vl (.lst ds))) a->bZ σ ρ a/\a≠l:=λa ⟨j,hj,e⟩=>by
  obtain⟨ij,hj⟩:=own' j hj;exact⟨⟨j,hj,e⟩,λz=>ij (r.nd i j l ho hj el (z▸e))⟩
 have vis:Same (hid H (hs F σ ρ)) (hid H (hs F σ (pt ρ i (.vl (.lst ds))))):=bT λa u e n=>⟨e,λz=>n (z.imp id λz=>(sub a z).1)⟩
 have vl:¬hs F σ (pt ρ i (.vl (.lst ds))) l:=λz=>by
  rcases z with z | z
  ·exact r.zo l ⟨i,ho,el⟩ z
  ·exact(sub l z).2 rfl
 have rd:RepD K (hid H (hs F σ (pt ρ i (.vl (.lst ds))))) (.ref l) (.lst ds):=by
  unfold RepD;exact⟨l,vs,rfl,dU vl hl,hd.same vis⟩
 refine⟨l,el,⟨by rw[ft,r.len],r.fr,r.zl,λa h=>r.zo a (sub a h).1,λj a hj e=>r.ow j a (own' j hj).2 e,r.mi,r.ml,r.ma,λj k a hj hk ej ek=>r.nd j k a (own' j hj).2 (own' k hk).2 ej ek,λj=>?_⟩,⟨λ_ _ e _=>e,λj h=>(own' j h).2⟩,rd⟩;by_cases ij:i=j
 ·subst ij;rw[jN ρ i _ lt,el];exact⟨_,rfl,rd⟩
 ·rw[bU ρ i j _ ij];exact(r.sl j).keep vis λa u _ _ h=>h
end
def RelR (K:ac)(F:Fr)(σ:St)(ρ:En)(v:V)(H:Hp):R->Prop
 | .d d=>Rel K F σ ρ H/\RepD K (hid H (hs F σ ρ)) v d
 | .o i=>Rel K F σ ρ H/\σ[i]? = some (some v)
 | .n s=>∃Hb l o,Rel K F σ ρ Hb/\s.own=true/\SvOk K (hid Hb (hs F σ ρ)) (upd Hb l o) (some (some (.ref l))) s/\Hb l=none/\H=upd Hb l o/\v = .ref l
 | .t n=>Rel K F σ ρ H/\v = .ty n
 | .x s=>Rel K F σ ρ H/\s.own=false/\SvOk K (hid H (hs F σ ρ)) H (some (some v)) s
def Out (K:ac)(F:Fr)(σ:St)(ρ:En)(H:Hp)(ρ':En)(v:V)(H':Hp):R->Prop
 | .d d=>Rel K F σ ρ' H'/\Kp σ ρ ρ' H H'/\RepD K (hid H' (hs F σ ρ')) v d
 | .o i=>Rel K F σ ρ' H'/\Kp σ ρ ρ' H H'/\σ[i]? = some (some v)
 | .n s=>∃Hb l o,Rel K F σ ρ' Hb/\Kp σ ρ ρ' H Hb/\s.own=true/\SvOk K (hid Hb (hs F σ ρ')) (upd Hb l o) (some (some (.ref l))) s/\Hb l=none/\H'=upd Hb l o/\v = .ref l
 | .t n=>Rel K F σ ρ' H'/\Kp σ ρ ρ' H H'/\v = .ty n
 | .x s=>Rel K F σ ρ' H'/\Kp σ ρ ρ' H H'/\s.own=false/\SvOk K (hid H' (hs F σ ρ')) H' (some (some v)) s
def InF (K:ac)(F:Fr)(σ:St)(ρ:En)(H:Hp)(v:V):R->Prop
 | .d d=>RepD K (hid H (hs F σ ρ)) v d
 | .o i=>σ[i]? = some (some v)
 | .n _=>True
 | .t n=>v = .ty n
 | .x s=>s.own=false/\SvOk K (hid H (hs F σ ρ)) H (some (some v)) s
def R.frz:R->R
 | .n (.ow ds)=>.d (.lst ds)
 | r=>r
inductive InFs (K:ac) (F:Fr) (σ:St) (ρ:En) (H:Hp):List V->List R->Prop
 | nil:InFs K F σ ρ H [] []
 | cons {v:V} {r:R} {vs:List V} {rs:List R}:InF K F σ ρ H v r->InFs K F σ ρ H vs rs->InFs K F σ ρ H (v::vs) (r::rs)
def view (ρ:En):R->Option D
 | .d d=>some d
 | .o i=>(match gt ρ i with | .ow ds=>some (.lst ds) | .vl d=>some d | _=>none)
 | _=>none
section
variable {K:ac}{F:Fr}{σ:St}{ρ ρ':En}{H H':Hp}{v:V}{r:R}
theorem InF.keep (h:InF K F σ ρ H v r)(k:Kp σ ρ ρ' H H'):InF K F σ ρ' H' v r:=by
 cases r with
 | d d=>exact RepD.same h k.vis
 | o i=>exact h
 | n s=>exact h
 | t n=>exact h
 | x s=>exact⟨h.1,h.2.keep k.vis λl o ho=>by rw[h.1]at ho;cases ho⟩
theorem InFs.keep {vs:List V}{rs:List R}(h:InFs K F σ ρ H vs rs)(k:Kp σ ρ ρ' H H'):InFs K F σ ρ' H' vs rs:=by
 induction h with
 | nil=>exact .nil
 | cons a _ ih=>exact .cons (a.keep k) ih
theorem Out.inF (h:Out K F σ ρ H ρ' v H' r):Rel K F σ ρ' H'/\Kp σ ρ ρ' H H'/\InF K F σ ρ' H' v r.frz:=by
 cases r with
 | d d=>exact⟨h.1,h.2.1,h.2.2⟩
 | o i=>exact⟨h.1,h.2.1,h.2.2⟩
 | t n=>exact⟨h.1,h.2.1,h.2.2⟩
 | x s=>exact⟨h.1,h.2.1,h.2.2⟩
 | n s =>
  obtain⟨Hb,l,o,a,k0,hs',b,c,rfl,rfl⟩:=h;have k:Kp σ ρ' ρ' Hb (upd Hb l o):=Kp.fresh c;refine⟨a.fresh c,k0.trans k,?_⟩;cases s with
  | un=>trivial
  | vl d=>trivial
  | tp n=>trivial
  | dk n=>trivial
  | dt n=>trivial
  | ex n m=>trivial
  | sc n=>trivial
  | px n m k=>trivial
  | xl es=>trivial
  | ob _ _=>trivial
  | ll _=>trivial
  | ds _ _ _=>trivial
  | ow ds =>
   obtain⟨l',vs,e,h1,h2⟩:=b;injection e with e;injection e with e;injection e with e;subst e;show RepD K _ (.ref l) (.lst ds);unfold RepD;exact⟨l,vs,rfl,dU (jw a c) h1,h2.same k.vis⟩
theorem Out.rel (h:Out K F σ ρ H ρ' v H' r):RelR K F σ ρ' v H' r:=by
 cases r with
 | d d=>exact⟨h.1,h.2.2⟩
 | o i=>exact⟨h.1,h.2.2⟩
 | t n=>exact⟨h.1,h.2.2⟩
 | x s=>exact⟨h.1,h.2.2⟩
 | n s =>
  obtain⟨Hb,l,o,a,k0,hs',b,c,e1,e2⟩:=h;exact⟨Hb,l,o,a,hs',b,c,e1,e2⟩
theorem Out.after {ρ1:En}{H1:Hp}(k:Kp σ ρ ρ1 H H1)(h:Out K F σ ρ1 H1 ρ' v H' r):Out K F σ ρ H ρ' v H' r:=by
 cases r with
 | d d=>exact⟨h.1,k.trans h.2.1,h.2.2⟩
 | o i=>exact⟨h.1,k.trans h.2.1,h.2.2⟩
 | t n=>exact⟨h.1,k.trans h.2.1,h.2.2⟩
 | x s=>exact⟨h.1,k.trans h.2.1,h.2.2⟩
 | n s =>
  obtain⟨Hb,l,o,a,k0,hs',b,c,e1,e2⟩:=h;exact⟨Hb,l,o,a,k.trans k0,hs',b,c,e1,e2⟩
theorem fH {d:D}(a:Rel K F σ ρ H)(h:InF K F σ ρ H v r)(e:view ρ r=some d):RepD K H v d:=by
 cases r with
 | d d'=>injection e with e;subst e;exact RepD.same h cn
 | t n=>cases e
 | x s=>cases e
 | n s=>cases e
 | o i =>
  have q:=a.sl i;unfold view at e;cases hg:gt ρ i with
  | un=>simp[hg]at e
  | tp n=>simp[hg]at e
  | dk n=>simp[hg]at e
  | dt n=>simp[hg]at e
  | ex n m=>simp[hg]at e
  | sc n=>simp[hg]at e
  | px n m k=>simp[hg]at e
  | xl es=>simp[hg]at e
  | ob _ _=>simp[hg]at e
  | ll _=>simp[hg]at e
  | ds _ _ _=>simp[hg]at e
  | vl d' =>
   simp[hg]at e;subst e;rw[hg]at q;obtain⟨x,e1,r1⟩:=q;rw[show σ[i]? = _ from h]at e1;injection e1 with e1;injection e1 with e1;subst e1;exact r1.same cn
  | ow ds =>
   simp[hg]at e;subst e;rw[hg]at q;obtain⟨l,vs,e1,r1,r2⟩:=q;rw[show σ[i]? = _ from h]at e1;injection e1 with e1;injection e1 with e1;subst e1;unfold RepD;exact⟨l,vs,rfl,r1,r2.same cn⟩
theorem dM {ds:List D}(a:Rel K F σ ρ H)(h:InF K F σ ρ H v r)(e:view ρ r=some (.lst ds)):∃l vs,v = .ref l/\SqL K H l vs/\RepDs K (hid H (hs F σ ρ)) vs ds:=by
 cases r with
 | d d' =>
  injection e with e;subst e;have h':RepD K _ v (.lst ds):=h;unfold RepD at h';obtain⟨l,vs,e,q,r⟩:=h';exact⟨l,vs,e,cn.seq (StL.sq q),r⟩
 | t n=>cases e
 | x s=>cases e
 | n s=>cases e
 | o i =>
  have q:=a.sl i;unfold view at e;cases hg:gt ρ i with
  | un=>simp[hg]at e
  | tp n=>simp[hg]at e
  | dk n=>simp[hg]at e
  | dt n=>simp[hg]at e
  | ex n m=>simp[hg]at e
  | sc n=>simp[hg]at e
  | px n m k=>simp[hg]at e
  | xl es=>simp[hg]at e
  | ob _ _=>simp[hg]at e
  | ll _=>simp[hg]at e
  | ds _ _ _=>simp[hg]at e
  | vl d' =>
   simp[hg]at e;subst e;rw[hg]at q;obtain⟨x,e1,r1⟩:=q;rw[show σ[i]? = _ from h]at e1;injection e1 with e1;injection e1 with e1;subst e1;unfold RepD at r1;obtain⟨l,vs,e,q,r⟩:=r1;exact⟨l,vs,e,cn.seq (StL.sq q),r⟩
  | ow ds =>
   simp[hg]at e;subst e;rw[hg]at q;obtain⟨l,vs,e1,r1,r2⟩:=q;rw[show σ[i]? = _ from h]at e1;injection e1 with e1;injection e1 with e1;subst e1;exact⟨l,vs,rfl,SqL.of r1,r2⟩
theorem fG {ds:List D}(a:Rel K F σ ρ H)(h:InF K F σ ρ H v r)(e:view ρ r=some (.tup ds)):∃l vs,v = .ref l/\SqT K H l vs/\RepDs K (hid H (hs F σ ρ)) vs ds/\StT (hid H (hs F σ ρ)) l vs:=by
 have go:∀ {x:V},RepD K (hid H (hs F σ ρ)) x (.tup ds)->∃l vs,x = .ref l/\SqT K H l vs/\RepDs K (hid H (hs F σ ρ)) vs ds/\StT (hid H (hs F σ ρ)) l vs:=λh'=>by
  unfold RepD at h';obtain⟨l,vs,e,q,r⟩:=h';exact⟨l,vs,e,cn.seqT q.sq,r,q⟩
 cases r with
 | d d'=>injection e with e;subst e;exact go h
 | t n=>cases e
 | x s=>cases e
 | n s=>cases e
 | o i =>
  have q:=a.sl i;unfold view at e;cases hg:gt ρ i with
  | un=>simp[hg]at e
  | tp n=>simp[hg]at e
  | dk n=>simp[hg]at e
  | dt n=>simp[hg]at e
  | ex n m=>simp[hg]at e
  | sc n=>simp[hg]at e
  | px n m k=>simp[hg]at e
  | xl es=>simp[hg]at e
  | ob _ _=>simp[hg]at e
  | ll _=>simp[hg]at e
  | ds _ _ _=>simp[hg]at e
  | ow ds'=>simp[hg]at e
  | vl d' =>
   simp[hg]at e;subst e;rw[hg]at q;obtain⟨x,e1,r1⟩:=q;rw[show σ[i]? = _ from h]at e1;injection e1 with e1;injection e1 with e1;subst e1;exact go r1
end
abbrev Ko:=R->En->Prop
abbrev AE:=En->Ko->Prop
abbrev AT:=En->(Bool->En->Prop)->Prop
abbrev AA:=En->(List R->En->Prop)->Prop
structure lz where
 nx:En->Prop
 rt:R->En->Prop
 bk:En->Prop
 ct:En->Prop
abbrev AS:=lz->En->Prop
def Beh (K:ac)(F:Fr)(σ:St)(ρ:En)(H:Hp)(q:Ko)(Q:VK):Prop:=∀r ρ' v H',q r ρ'->Out K F σ ρ H ρ' v H' r->Q v H'
def TEok (K:ac)(t:TE)(a:AE):Prop:=∀F σ ρ H q Q,Rel K F σ ρ H->a ρ q->Beh K F σ ρ H q Q->t σ H Q
def TTok (K:ac)(t:TT)(a:AT):Prop:=∀F σ ρ H q Q,Rel K F σ ρ H->a ρ q->(∀b ρ' H',q b ρ'->Rel K F σ ρ' H'->Kp σ ρ ρ' H H'->Q b H')->t σ H Q
def TAok (K:ac)(t:TA)(a:AA):Prop:=∀F σ ρ H q Q,Rel K F σ ρ H->a ρ q->(∀rs ρ' vs H',q rs ρ'->Rel K F σ ρ' H'->InFs K F σ ρ' H' vs rs->Kp σ ρ ρ' H H'->Q vs H')->t σ H Q
def OpOk (K:ac)(r:R2)(g:R->R->AE):Prop:=∀F σ ρ H x y r1 r2 q Q,Rel K F σ ρ H->InF K F σ ρ H x r1->InF K F σ ρ H y r2->g r1 r2 ρ q->Beh K F σ ρ H q Q->r x y H Q
def CbOk (K:ac)(r:List V->Hp->VK->Prop)(g:List R->AE):Prop:=∀F σ ρ H vs rs q Q,Rel K F σ ρ H->InFs K F σ ρ H vs rs->g rs ρ q->Beh K F σ ρ H q Q->r vs H Q
section
variable {K:ac}{F:Fr}{σ:St}{ρ ρ':En}{H H':Hp}{v:V}{r:R}{q:Ko}{Q:VK}
theorem Beh.dat (b:Beh K F σ ρ H q Q)(a:Rel K F σ ρ H){d:D}(hq:q (.d d) ρ)(h:RepD K (hid H (hs F σ ρ)) v d):Q v H:=b (.d d) ρ v H hq ⟨a,.refl,h⟩
theorem Beh.int (b:Beh K F σ ρ H q Q)(a:Rel K F σ ρ H){i:Int}(hq:q (.d (.int i)) ρ):Q (.int i) H:=b.dat a hq (by unfold RepD;rfl)
theorem Beh.bl (b:Beh K F σ ρ H q Q)(a:Rel K F σ ρ H){i:Bool}(hq:q (.d (.bl i)) ρ):Q (.bl i) H:=b.dat a hq (by unfold RepD;rfl)
theorem Beh.non (b:Beh K F σ ρ H q Q)(a:Rel K F σ ρ H)(hq:q (.d .non) ρ):Q .non H:=b.dat a hq (by unfold RepD;rfl)
theorem Beh.new (b:Beh K F σ ρ H q Q)(a:Rel K F σ ρ H){ds:List D}{vs:List V}{l:Addr}(hq:q (.f ds) ρ)(hd:RepDs K (hid H (hs F σ ρ)) vs ds)(hl:H l=none):Q (.ref l) (upd H l (.lst vs)) :=
 b (.f ds) ρ _ _ hq ⟨H,l,_,a,.refl,rfl,⟨l,vs,rfl,bh,hd⟩,hl,rfl,rfl⟩
theorem Beh.newT (b:Beh K F σ ρ H q Q)(a:Rel K F σ ρ H){ds:List D}{vs:List V}{l:Addr}(hq:q (.d (.tup ds)) ρ)(hd:RepDs K (hid H (hs F σ ρ)) vs ds)(hl:H l=none):Q (.ref l) (upd H l (.tup vs)):=by
 have k:Kp σ ρ ρ H (upd H l (.tup vs)):=Kp.fresh hl;refine b (.d (.tup ds)) ρ _ _ hq ⟨a.fresh hl,k,?_⟩;unfold RepD;exact⟨l,vs,rfl,(dU (jw a hl) bh),hd.same k.vis⟩
theorem Beh.after {ρ1:En}{H1:Hp}(b:Beh K F σ ρ H q Q)(k:Kp σ ρ ρ1 H H1):Beh K F σ ρ1 H1 q Q:=λr ρ' v H' hq h=>b r ρ' v H' hq (.after k h)
def aVar (i:Nat):AE:=λρ q=>match gt ρ i with
 | .un=>False
 | .vl d=>q (.d d) ρ
 | .ow _=>q (.o i) ρ
 | .tp _=>q (.o i) ρ
 | .dk _=>q (.o i) ρ
 | .dt _=>q (.o i) ρ
 | .ex _ _=>q (.o i) ρ
 | .sc _=>q (.o i) ρ
 | .px _ _ _=>q (.o i) ρ
 | .xl _=>q (.o i) ρ
 | .ob _ _=>q (.o i) ρ
 | .ll _=>q (.o i) ρ
 | .ds _ _ _=>q (.o i) ρ
theorem af {i:Nat}:TEok K (tVar i) (aVar i):=by
 intro F σ ρ H q Q a h b;have s:=a.sl i;unfold aVar at h;cases hg:gt ρ i with
 | un=>rw[hg]at h;exact h.elim
 | vl d =>
  rw[hg]at h s;obtain⟨x,e,r⟩:=s;exact⟨x,e,b _ _ _ _ h ⟨a,.refl,r⟩⟩
 | ow ds =>
  rw[hg]at h s;obtain⟨l,vs,e,_⟩:=s;exact⟨_,e,b _ _ _ _ h ⟨a,.refl,e⟩⟩
 | tp n =>
  rw[hg]at h s;obtain⟨l,c,ns,sp,lf,e,_⟩:=s;exact⟨_,e,b _ _ _ _ h ⟨a,.refl,e⟩⟩
 | dk kvs =>
  rw[hg]at h s;obtain⟨l,ks,e,_⟩:=s;exact⟨_,e,b _ _ _ _ h ⟨a,.refl,e⟩⟩
 | dt kvs =>
  rw[hg]at h s;obtain⟨l,ks,e,_⟩:=s;exact⟨_,e,b _ _ _ _ h ⟨a,.refl,e⟩⟩
 | ex C fs =>
  rw[hg]at h s;obtain⟨l,ks,e,_⟩:=s;exact⟨_,e,b _ _ _ _ h ⟨a,.refl,e⟩⟩
 | sc ns =>
  rw[hg]at h s;obtain⟨l,e,_⟩:=s;exact⟨_,e,b _ _ _ _ h ⟨a,.refl,e⟩⟩
 | xl es =>
  rw[hg]at h s;obtain⟨l,ks,e,_⟩:=s;exact⟨_,e,b _ _ _ _ h ⟨a,.refl,e⟩⟩
 | ob C fs =>
  rw[hg]at h s;obtain⟨l,_,_,e,_⟩:=s;exact⟨_,e,b _ _ _ _ h ⟨a,.refl,e⟩⟩
 | ll xss =>
  rw[hg]at h s;obtain⟨l,_,_,e,_⟩:=s;exact⟨_,e,b _ _ _ _ h ⟨a,.refl,e⟩⟩
 | ds C n w =>
  rw[hg]at h s;obtain⟨l,_,_,_,_,_,e,_⟩:=s;exact⟨_,e,b _ _ _ _ h ⟨a,.refl,e⟩⟩
 | px d C fs =>
  rw[hg]at h s;obtain⟨l,x,e',od,e,_⟩:=s;exact⟨_,e,b _ _ _ _ h ⟨a,.refl,e⟩⟩
def aC (r:R):AE:=λρ q=>q r ρ
theorem be {i:Int}:TEok K (tC (.int i)) (aC (.d (.int i))):=λ_ _ _ _ _ _ a h b=>b.int a h
theorem lC {i:Bool}:TEok K (tC (.bl i)) (aC (.d (.bl i))):=λ_ _ _ _ _ _ a h b=>b.bl a h
theorem cB:TEok K (tC .non) (aC (.d .non)):=λ_ _ _ _ _ _ a h b=>b.non a h
def aOp (g:R->R->AE)(a b:AE):AE:=λρ q=>a ρ λr1 ρ1=>b ρ1 λr2 ρ2=>g r1.frz r2.frz ρ2 q
variable {t t' ta tb tc:TE}{a b c:AE}{rr:R2}{g:R->R->AE}
theorem aG (ho:OpOk K rr g)(ha:TEok K ta a)(hb:TEok K tb b):TEok K (tOp rr ta tb) (aOp g a b):=by
 intro F σ ρ H q Q r h k;refine ha F σ ρ H _ _ r h λr1 ρ1 x H1 h1 rel1=>?_;obtain⟨r',k1,i1⟩:=rel1.inF;refine hb F σ ρ1 H1 _ _ r' h1 λr2 ρ2 y H2 h2 rel2=>?_;obtain⟨r'',k2,i2⟩:=rel2.inF;exact ho F σ ρ2 H2 x y _ _ q Q r'' (i1.keep k2) i2 h2 (k.after (k1.trans k2))
def aUn (g:R->AE)(a:AE):AE:=λρ q=>a ρ λr1 ρ1=>g r1.frz ρ1 q
def gI (C:Int->Int->Prop)(f:Int->Int->D):R->R->AE:=λr1 r2 ρ q=>match r1,r2 with
 | .d (.int i),.d (.int j)=>C i j/\q (.d (f i j)) ρ
 | _,_=>False
theorem xh {C:Int->Int->Prop}{f:Int->Int->D}{r1 r2:R}(h:gI C f r1 r2 ρ q):∃i j,r1 = .d (.int i)/\r2 = .d (.int j)/\C i j/\q (.d (f i j)) ρ:=by
 unfold gI at h;split at h
 ·exact⟨_,_,rfl,rfl,h⟩
 ·exact h.elim
theorem InF.int {i:Int}(h:InF K F σ ρ H v (.d (.int i))):v = .int i:=by
 unfold InF RepD at h;exact h
theorem InF.blv {i:Bool}(h:InF K F σ ρ H v (.d (.bl i))):v = .bl i:=by
 unfold InF RepD at h;exact h
theorem mS {C:Int->Int->Prop}{f:Int->Int->Int}:OpOk K (rI C λi j=>.int (f i j)) (gI C λi j=>.int (f i j)):=by
 intro F σ ρ H x y r1 r2 q Q a h1 h2 h b;obtain⟨i,j,rfl,rfl,c,h⟩:=xh h;exact⟨i,j,h1.int,h2.int,c,b.int a h⟩
def gI0 (f:Int->Int->D):R->R->AE:=λr1 r2 ρ q=>match r1,r2 with
 | .d (.int i),.d (.int j)=>q (.d (f i j)) ρ
 | _,_=>False
theorem rh {f:Int->Int->D}{r1 r2:R}(h:gI0 f r1 r2 ρ q):∃i j,r1 = .d (.int i)/\r2 = .d (.int j)/\q (.d (f i j)) ρ:=by
 unfold gI0 at h;split at h
 ·exact⟨_,_,rfl,rfl,h⟩
 ·exact h.elim
theorem bj {f:Int->Int->Int}:OpOk K (rI0 λi j=>.int (f i j)) (gI0 λi j=>.int (f i j)):=by
 intro F σ ρ H x y r1 r2 q Q a h1 h2 h b;obtain⟨i,j,rfl,rfl,h⟩:=rh h;exact⟨i,j,h1.int,h2.int,b.int a h⟩
theorem cU {f:Int->Int->Bool}:OpOk K (rI0 λi j=>.bl (f i j)) (gI0 λi j=>.bl (f i j)):=by
 intro F σ ρ H x y r1 r2 q Q a h1 h2 h b;obtain⟨i,j,rfl,rfl,h⟩:=rh h;exact⟨i,j,h1.int,h2.int,b.bl a h⟩
@[irreducible] def gEq (neg:Bool):R->R->AE:=λr1 r2 ρ q=>match view ρ r1,view ρ r2 with
 | some d,some e=>d.depth<=60/\q (.d (.bl (if neg then !eqD d e else eqD d e))) ρ
 | _,_=>False
theorem ri {neg:Bool}{r1 r2:R}(h:gEq neg r1 r2 ρ q):∃d e,view ρ r1=some d/\view ρ r2=some e/\d.depth<=60/\q (.d (.bl (if neg then !eqD d e else eqD d e))) ρ:=by
 unfold gEq at h;split at h
 ·rename_i d e h1 h2;exact⟨d,e,h1,h2,h⟩
 ·exact h.elim
theorem jg:OpOk K (rEqD K) (gEq false):=by
 intro F σ ρ H x y r1 r2 q Q a h1 h2 h b;obtain⟨d,e,e1,e2,c,h⟩:=ri h;exact⟨d,e,fH a h1 e1,fH a h2 e2,c,b.bl a h⟩
theorem ie:OpOk K (rNeD K) (gEq true):=by
 intro F σ ρ H x y r1 r2 q Q a h1 h2 h b;obtain⟨d,e,e1,e2,c,h⟩:=ri h;exact⟨d,e,fH a h1 e1,fH a h2 e2,c,b.bl a h⟩
@[irreducible] def gIx:R->R->AE:=λr1 r2 ρ q=>match view ρ r1,r2 with
 | some (.lst ds),.d (.int i)=>(match atI ds i with | some d=>q (.d d) ρ | none=>False)
 | some (.tup ds),.d (.int i)=>(match atI ds i with | some d=>q (.d d) ρ | none=>False)
 | _,_=>False
theorem rP {Hh:Hp}{vs:List V}{ds:List D}{i:Int}{d:D}(h:RepDs K Hh vs ds)(e:atI ds i=some d):∃v,atI vs i=some v/\RepD K Hh v d:=by
 unfold atI at e ⊢;rw[h.length];cases hx:ixN ds.length i with
 | none=>rw[hx]at e;cases e
 | some j =>
  rw[hx]at e;exact h.get e
theorem bu:OpOk K (rIx K) gIx:=by
 intro F σ ρ H x y r1 r2 q Q a h1 h2 h b;unfold gIx at h;split at h
 ·rename_i ds i e1;split at h
  ·rename_i d e;obtain⟨l,vs,rfl,sq,rd⟩:=dM a h1 e1;obtain⟨v,e2,rv⟩:=rP rd e;exact .inl ⟨l,vs,i,v,rfl,h2.int,sq,e2,b.dat a h rv⟩
  ·exact h.elim
 ·rename_i ds i e1;split at h
  ·rename_i d e;obtain⟨l,vs,rfl,sq,rd,_⟩:=fG a h1 e1;obtain⟨v,e2,rv⟩:=rP rd e;exact .inr (.inl ⟨l,vs,i,v,rfl,h2.int,sq,e2,b.dat a h rv⟩)
  ·exact h.elim
 ·exact h.elim
variable {tt tu:TT}{at' au:AT}
def aB (a:AE):AT:=λρ q=>a ρ λr ρ1=>match r with
 | .d (.bl c)=>q c ρ1
 | _=>False
theorem v7 (ha:TEok K ta a):TTok K (tB ta) (aB a):=by
 intro F σ ρ H q Q r h k;refine ha F σ ρ H _ _ r h λr1 ρ1 x H1 h1 rel1=>?_;split at h1
 ·rename_i c;obtain⟨r',k1,i1⟩:=rel1.inF;exact⟨c,i1.blv,k _ _ _ h1 r' k1⟩
 ·exact h1.elim
theorem aY (ha:TEok K ta a):TTok K (wb ta) (aB a):=v7 ha
def aAnd (a b:AT):AT:=λρ q=>a ρ λc ρ1=>if c=true then b ρ1 q else q false ρ1
def aOr (a b:AT):AT:=λρ q=>a ρ λc ρ1=>if c=true then q true ρ1 else b ρ1 q
def aNot (a:AT):AT:=λρ q=>a ρ λc ρ1=>q (!c) ρ1
theorem kx (ha:TTok K tt at')(hb:TTok K tu au):TTok K (tAnd tt tu) (aAnd at' au):=by
 intro F σ ρ H q Q r h k;refine ha F σ ρ H _ _ r h λc ρ1 H1 h1 r1 k1=>?_;cases c with
 | true=>exact hb F σ ρ1 H1 q Q r1 h1 λb ρ2 H2 h2 r2 k2=>k _ _ _ h2 r2 (k1.trans k2)
 | false=>exact k _ _ _ h1 r1 k1
theorem dX (ha:TTok K tt at')(hb:TTok K tu au):TTok K (tOr tt tu) (aOr at' au):=by
 intro F σ ρ H q Q r h k;refine ha F σ ρ H _ _ r h λc ρ1 H1 h1 r1 k1=>?_;cases c with
 | true=>exact k _ _ _ h1 r1 k1
 | false=>exact hb F σ ρ1 H1 q Q r1 h1 λb ρ2 H2 h2 r2 k2=>k _ _ _ h2 r2 (k1.trans k2)
theorem ku (ha:TTok K tt at'):TTok K (tNot tt) (aNot at'):=λF σ ρ H q Q r h k=>ha F σ ρ H _ _ r h λc ρ1 H1 h1 r1 k1=>k _ _ _ h1 r1 k1
def truD:D->Bool
 | .non=>false
 | .bl b=>b
 | .int i=>i != 0
 | .str _=>true
 | .tup ds=>!ds.isEmpty
 | .lst ds=>!ds.isEmpty
def aTru (a:AE):AT:=λρ q=>a ρ λr ρ1=>match view ρ1 r.frz with
 | some (.str _)=>False
 | some d=>q (truD d) ρ1
 | none=>False
theorem jt {Hh:Hp}{vs:List V}{ds:List D}(h:RepDs K Hh vs ds):vs.isEmpty=ds.isEmpty:=by
 have:=h.length;cases vs <;> cases ds <;> simp_all
theorem kr (ha:TEok K ta a):TTok K (λσ H Q=>ta σ H λx H'=>∃k,TruV K x H' k/\Q k H') (aTru a):=by
 intro F σ ρ H q Q r h k;refine ha F σ ρ H _ _ r h λr1 ρ1 x H1 h1 rel1=>?_;obtain⟨r',k1,i1⟩:=rel1.inF;cases e:view ρ1 r1.frz with
 | none=>rw[e]at h1;exact h1.elim
 | some d =>
  rw[e]at h1;have rd:=fH r' i1 e;cases d with
  | str x=>exact h1.elim
  | non=>unfold RepD at rd;subst rd;exact⟨_,rfl,k _ _ _ h1 r' k1⟩
  | bl b=>unfold RepD at rd;subst rd;exact⟨_,rfl,k _ _ _ h1 r' k1⟩
  | int b=>unfold RepD at rd;subst rd;exact⟨_,rfl,k _ _ _ h1 r' k1⟩
  | tup ds =>
   unfold RepD at rd;obtain⟨p,vs,rfl,sq,rr⟩:=rd;exact⟨_,.inr (.inl ⟨vs,sq,by rw[jt rr];rfl⟩),k _ _ _ h1 r' k1⟩
  | lst ds =>
   unfold RepD at rd;obtain⟨p,vs,rfl,sq,rr⟩:=rd;exact⟨_,.inl ⟨vs,sq,by rw[jt rr];rfl⟩,k _ _ _ h1 r' k1⟩
variable {ts:TA}{as:AA}
def aNil:AA:=λρ q=>q [] ρ
def yi (a:AE)(as:AA):AA:=λρ q=>a ρ λr ρ1=>as ρ1 λrs ρ2=>q (r.frz::rs) ρ2
theorem aq:TAok K tNil aNil:=λF σ ρ H q Q r h k=>k _ _ _ _ h r .nil .refl
theorem aa (ha:TEok K ta a)(hs:TAok K ts as):TAok K (sx ta ts) (yi a as):=by
 intro F σ ρ H q Q r h k;refine ha F σ ρ H _ _ r h λr1 ρ1 x H1 h1 rel1=>?_;obtain⟨r',k1,i1⟩:=rel1.inF;refine hs F σ ρ1 H1 _ _ r' h1 λrs ρ2 vs H2 h2 r2 i2 k2=>?_;exact k _ _ _ _ h2 r2 (.cons (i1.keep k2) i2) (k1.trans k2)
def sto:List R->En->(List D->En->Prop)->Prop
 | [],ρ,q=>q [] ρ
 | .d d::rs,ρ,q=>sto rs ρ λds ρ'=>q (d::ds) ρ'
 | .o i::rs,ρ,q=>(match gt ρ i with
  | .ow ds=>sto rs (pt ρ i (.vl (.lst ds))) λes ρ'=>q (.lst ds::es) ρ'
  | .vl d=>sto rs ρ λes ρ'=>q (d::es) ρ'
  | _=>False)
 | _::_,_,_=>False
theorem gq:∀ {vs:List V} {rs:List R} {ρ:En} {q:List D->En->Prop},Rel K F σ ρ H->InFs K F σ ρ H vs rs->sto rs ρ q->∃ds ρ',q ds ρ'/\Rel K F σ ρ' H/\Kp σ ρ ρ' H H/\RepDs K (hid H (hs F σ ρ')) vs ds
 | _,_,ρ,q,r,.nil,h=>⟨[],ρ,h,r,.refl,.nil⟩
 | _,_,ρ,q,r,.cons (v:=v) (r:=rr) (vs:=vs) (rs:=rs) a t,h=>by
  cases rr with
  | n s=>exact h.elim
  | t n=>exact h.elim
  | x s=>exact h.elim
  | d d =>
   obtain⟨ds,ρ',hq,r',k,rd⟩:=gq r t (show sto rs ρ _ from h);exact⟨d::ds,ρ',hq,r',k,.cons (RepD.same a k.vis) rd⟩
  | o i =>
   have s:=r.sl i;unfold sto at h;cases hg:gt ρ i with
   | un=>rw[hg]at h;exact h.elim
   | tp n=>rw[hg]at h;exact h.elim
   | dk n=>rw[hg]at h;exact h.elim
   | dt n=>rw[hg]at h;exact h.elim
   | ex n m=>rw[hg]at h;exact h.elim
   | sc n=>rw[hg]at h;exact h.elim
   | px n m k=>rw[hg]at h;exact h.elim
   | xl es=>rw[hg]at h;exact h.elim
   | ob _ _=>rw[hg]at h;exact h.elim
   | ll _=>rw[hg]at h;exact h.elim
   | ds _ _ _=>rw[hg]at h;exact h.elim
   | vl d =>
    rw[hg]at h s;obtain⟨x,e,rd1⟩:=s;rw[show σ[i]? = _ from a]at e;injection e with e;injection e with e;subst e;obtain⟨ds,ρ',hq,r',k,rd⟩:=gq r t h;exact⟨d::ds,ρ',hq,r',k,.cons (rd1.same k.vis) rd⟩
   | ow ds =>
    rw[hg]at h;obtain⟨l,e,r1,k1,rd1⟩:=r.frz hg;rw[show σ[i]? = _ from a]at e;injection e with e;injection e with e;subst e;obtain⟨es,ρ',hq,r',k,rd⟩:=gq r1 (t.keep k1) h;exact⟨_,ρ',hq,r',k1.trans k,.cons (rd1.same k.vis) rd⟩
theorem small {n:Nat}(h:n<=1000000):n<=ww:=by unfold ww;omega
theorem iT {n:Nat}(h:n<=1000000):n<ww:=by unfold ww;omega
def aTup (as:AA):AE:=λρ q=>as ρ λrs ρ1=>sto rs ρ1 λds ρ2=>ds.length<=1000000/\q (.d (.tup ds)) ρ2
def aLst (as:AA):AE:=λρ q=>as ρ λrs ρ1=>sto rs ρ1 λds ρ2=>ds.length<=1000000/\q (.f ds) ρ2
theorem iN (hs:TAok K ts as):TEok K (tTup ts) (aTup as):=by
 intro F σ ρ H q Q r h k;refine hs F σ ρ H _ _ r h λrs ρ1 vs H1 h1 r1 i1 k1=>?_;obtain⟨ds,ρ2,⟨hz,hq⟩,r2,k2,rd⟩:=gq r1 i1 h1;exact⟨small (by rw[rd.length];exact hz),λp hp=>((k.after k1).after k2).newT r2 hq rd hp⟩
theorem kA (hs:TAok K ts as):TEok K (tLst ts) (aLst as):=by
 intro F σ ρ H q Q r h k;refine hs F σ ρ H _ _ r h λrs ρ1 vs H1 h1 r1 i1 k1=>?_;obtain⟨ds,ρ2,⟨hz,hq⟩,r2,k2,rd⟩:=gq r1 i1 h1;exact⟨small (by rw[rd.length];exact hz),λp hp=>((k.after k1).after k2).new r2 hq rd hp⟩
def aCB (g:List R->AE)(as:AA):AE:=λρ q=>as ρ λrs ρ1=>g rs ρ1 q
theorem bc {rb:List V->Hp->VK->Prop}{g:List R->AE}(hb:CbOk K rb g)(hs:TAok K ts as):TEok K (tCB rb ts) (aCB g as):=by
 intro F σ ρ H q Q r h k;exact hs F σ ρ H _ _ r h λrs ρ1 vs H1 h1 r1 i1 k1=>hb F σ ρ1 H1 vs rs q Q r1 i1 h1 (k.after k1)
theorem InFs.one {vs:List V}{r1:R}(h:InFs K F σ ρ H vs [r1]):∃x,vs=[x]/\InF K F σ ρ H x r1:=by
 cases h with | cons a t=>cases t;exact⟨_,rfl,a⟩
theorem InFs.two {vs:List V}{r1 r2:R}(h:InFs K F σ ρ H vs [r1,r2]):∃x y,vs=[x,y]/\InF K F σ ρ H x r1/\InF K F σ ρ H y r2:=by
 cases h with | cons a t=>obtain⟨y,rfl,b⟩:=t.one;exact⟨_,_,rfl,a,b⟩
def gLen:List R->AE:=λrs ρ q=>match rs with
 | [r]=>(match view ρ r with
  | some (.lst ds)=>q (.d (.int ds.length)) ρ
  | some (.tup ds)=>q (.d (.int ds.length)) ρ
  | _=>False)
 | _=>False
theorem aX:CbOk K (λxs H Q=>∃p ys,xs=[.ref p]/\(SqL K H p ys∨SqT K H p ys)/\Q (.int ys.length) H) gLen:=by
 intro F σ ρ H vs rs q Q a i h b;unfold gLen at h;split at h
 ·obtain⟨x,rfl,i1⟩:=i.one;split at h
  ·rename_i ds e;obtain⟨l,vs,rfl,sq,rd⟩:=dM a i1 e;exact⟨l,vs,rfl,.inl sq,by rw[rd.length];exact b.int a h⟩
  ·rename_i ds e;obtain⟨l,vs,rfl,sq,rd,_⟩:=fG a i1 e;exact⟨l,vs,rfl,.inr sq,by rw[rd.length];exact b.int a h⟩
  ·exact h.elim
 ·exact h.elim
def gList:List R->AE:=λrs ρ q=>match rs with
 | [r]=>(match view ρ r with
  | some (.lst ds)=>q (.f ds) ρ
  | some (.tup ds)=>q (.f ds) ρ
  | _=>False)
 | _=>False
theorem fD:CbOk K (λxs H Q=>∃p ys,xs=[.ref p]/\(SqL K H p ys∨SqT K H p ys)/\∀l,H l=none->Q (.ref l) (upd H l (.lst ys))) gList:=by
 intro F σ ρ H vs rs q Q a i h b;unfold gList at h;split at h
 ·obtain⟨x,rfl,i1⟩:=i.one;split at h
  ·rename_i ds e;obtain⟨l,vs,rfl,sq,rd⟩:=dM a i1 e;exact⟨l,vs,rfl,.inl sq,λp hp=>b.new a h rd hp⟩
  ·rename_i ds e;obtain⟨l,vs,rfl,sq,rd,_⟩:=fG a i1 e;exact⟨l,vs,rfl,.inr sq,λp hp=>b.new a h rd hp⟩
  ·exact h.elim
 ·exact h.elim
def gTuple:List R->AE:=λrs ρ q=>match rs with
 | [r]=>(match view ρ r with
  | some (.lst ds)=>q (.d (.tup ds)) ρ
  | some (.tup ds)=>q (.d (.tup ds)) ρ
  | _=>False)
 | _=>False
theorem dA:CbOk K (λxs H Q=>∃p ys,xs=[.ref p]/\((SqL K H p ys/\∀l,H l=none->Q (.ref l) (upd H l (.tup ys)))∨(SqT K H p ys/\Q (.ref p) H))) gTuple:=by
 intro F σ ρ H vs rs q Q a i h b;unfold gTuple at h;split at h
 ·obtain⟨x,rfl,i1⟩:=i.one;split at h
  ·rename_i ds e;obtain⟨l,vs,rfl,sq,rd⟩:=dM a i1 e;exact⟨l,vs,rfl,.inl ⟨sq,λp hp=>b.newT a h rd hp⟩⟩
  ·rename_i ds e;obtain⟨l,vs,rfl,sq,rd,sq'⟩:=fG a i1 e;refine⟨l,vs,rfl,.inr ⟨sq,b.dat a h ?_⟩⟩;unfold RepD;exact⟨l,vs,rfl,sq',rd⟩
  ·exact h.elim
 ·exact h.elim
def gII (f:Int->Int->Int):List R->AE:=λrs ρ q=>match rs with
 | [.d (.int i),.d (.int j)]=>q (.d (.int (f i j))) ρ
 | _=>False
theorem oR:CbOk K (λxs H Q=>∃i j,xs=[.int i,.int j]/\Q (.int (if j > i then j else i)) H) (gII λi j=>if j > i then j else i):=by
 intro F σ ρ H vs rs q Q a i h b;unfold gII at h;split at h
 ·obtain⟨x,y,rfl,i1,j1⟩:=i.two;exact⟨_,_,by rw[i1.int,j1.int],b.int a h⟩
 ·exact h.elim
theorem oQ:CbOk K (λxs H Q=>∃i j,xs=[.int i,.int j]/\Q (.int (if j<i then j else i)) H) (gII λi j=>if j<i then j else i):=by
 intro F σ ρ H vs rs q Q a i h b;unfold gII at h;split at h
 ·obtain⟨x,y,rfl,i1,j1⟩:=i.two;exact⟨_,_,by rw[i1.int,j1.int],b.int a h⟩
 ·exact h.elim
def aApp (a:AE)(as:AA):AE:=λρ q=>a ρ λr ρ1=>match r with
 | .o i=>(match gt ρ1 i with
  | .ow _=>as ρ1 λrs ρ2=>(match rs with
   | [y]=>sto [y] ρ2 λes ρ3=>(match gt ρ3 i with
    | .ow ds=>ds.length<=1000000/\q (.d .non) (pt ρ3 i (.ow (ds++es)))
    | _=>False)
   | _=>False)
  | _=>False)
 | _=>False
theorem dC (ha:TEok K ta a)(hs:TAok K ts as):TEok K (tBM K "list" rAppend ta ts) (aApp a as):=by
 intro F σ ρ H q Q r h k;refine ha F σ ρ H _ _ r h λr1 ρ1 x H1 h1 rel1=>?_;split at h1
 ·rename_i i;obtain⟨r',k1,i1⟩:=rel1.inF;have ex:σ[i]? = some (some x):=i1;split at h1
  ·rename_i ds0 hg0;have s:=r'.sl i;rw[hg0,ex]at s;obtain⟨l,vs0,e,hl,_⟩:=s;injection e with e;injection e with e;subst e;refine⟨.inl ⟨rfl,_,SqL.of hl⟩,hs F σ ρ1 H1 _ _ r' h1 λrs ρ2 vs H2 h2 r2 i2 k2=>?_⟩;split at h2
   ·obtain⟨es,ρ3,h3,r3,k3,rd⟩:=gq r2 i2 h2;split at h3
    ·rename_i ds hg;have s:=r3.sl i;rw[hg,ex]at s;obtain⟨l',us,e,hl',rd'⟩:=s;injection e with e;injection e with e;injection e with e;subst e;obtain⟨y,rfl,_⟩:=i2.one;have hw:=r3.write (i:=i) (l:=l) (o:=.lst (us++[y])) (s:=.ow (ds++es)) (by rw[hg];rfl) ex rfl ⟨l,_,rfl,bh,rd'.append rd⟩;refine⟨l,us,y,rfl,rfl,hl',iT (by rw[rd'.length];exact h3.1),?_⟩;exact(((k.after k1).after k2).after (k3.trans hw.2)).non hw.1 h3.2
    ·exact h3.elim
   ·exact h2.elim
  ·exact h1.elim
 ·exact h1.elim
abbrev AO:=En->(Option Int->En->Prop)->Prop
def TOok (K:ac)(t:TO)(a:AO):Prop:=∀F σ ρ H q Q,Rel K F σ ρ H->a ρ q->(∀b ρ' H',q b ρ'->Rel K F σ ρ' H'->Kp σ ρ ρ' H H'->Q b H')->t σ H Q
def oNo:AO:=λρ q=>q none ρ
def xU (a:AE):AO:=λρ q=>a ρ λr ρ1=>match r with
 | .d (.int i)=>q (some i) ρ1
 | _=>False
theorem ky:TOok K tNoPart oNo:=λF σ ρ H q Q r h k=>k _ _ _ h r .refl
theorem fm (ha:TEok K ta a):TOok K (wd ta) (xU a):=by
 intro F σ ρ H q Q r h k;refine ha F σ ρ H _ _ r h λr1 ρ1 x H1 h1 rel1=>?_;split at h1
 ·obtain⟨r',k1,i1⟩:=rel1.inF;exact⟨_,i1.int,k _ _ _ h1 r' k1⟩
 ·exact h1.elim
def cutD (xs:List D)(lo hi:Option Int):List D:=(xs.drop (HT.sIx xs.length 0 lo)).take (HT.sIx xs.length xs.length hi - HT.sIx xs.length 0 lo)
theorem RepDs.drop:∀ {vs:List V} {ds:List D} (n:Nat),RepDs K H vs ds->RepDs K H (vs.drop n) (ds.drop n)
 | [],[],n,h=>by simp[RepDs.nil]
 | v::vs,d::ds,0,h=>h
 | v::vs,d::ds,n+1,h=>by unfold RepDs at h;exact RepDs.drop n h.2
 | [],d::ds,_,h=>by unfold RepDs at h;exact h.elim
 | v::vs,[],_,h=>by unfold RepDs at h;exact h.elim
theorem RepDs.take:∀ {vs:List V} {ds:List D} (n:Nat),RepDs K H vs ds->RepDs K H (vs.take n) (ds.take n)
 | [],[],n,h=>by simp[RepDs.nil]
 | v::vs,d::ds,0,h=>.nil
 | v::vs,d::ds,n+1,h=>by unfold RepDs at h;exact .cons h.1 (RepDs.take n h.2)
 | [],d::ds,_,h=>by unfold RepDs at h;exact h.elim
 | v::vs,[],_,h=>by unfold RepDs at h;exact h.elim
theorem vF {vs:List V}{ds:List D}{lo hi:Option Int}(h:RepDs K H vs ds):RepDs K H (cutV vs lo hi) (cutD ds lo hi):=by
 unfold cutV cutD;rw[h.length];exact(h.drop _).take _
def aSlL (a:AE)(l u:AO):AE:=λρ q=>a ρ λr ρ1=>l ρ1 λlo ρ2=>u ρ2 λhi ρ3=>match view ρ3 r.frz with
 | some (.lst ds)=>q (.f (cutD ds lo hi)) ρ3
 | _=>False
theorem kz {tl th:TO}{al au:AO}(ha:TEok K ta a)(hl:TOok K tl al)(hh:TOok K th au):TEok K (tSl (rSlL K) ta tl th) (aSlL a al au):=by
 intro F σ ρ H q Q r h k;refine ha F σ ρ H _ _ r h λr1 ρ1 x H1 h1 rel1=>?_;obtain⟨r',k1,i1⟩:=rel1.inF;refine hl F σ ρ1 H1 _ _ r' h1 λlo ρ2 H2 h2 r2 k2=>?_;refine hh F σ ρ2 H2 _ _ r2 h2 λhi ρ3 H3 h3 r3 k3=>?_;split at h3
 ·rename_i ds e;obtain⟨p,vs,rfl,sq,rd⟩:=dM r3 ((i1.keep k2).keep k3) e;exact⟨p,vs,rfl,sq,λp' hp=>(((k.after k1).after k2).after k3).new r3 h3 (vF rd) hp⟩
 ·exact h3.elim
end
def cI (ρ:En):R->Sv
 | .d d=>.vl d
 | .o j=>gt ρ j
 | .x s=>s
 | _=>.un
def Src (K:ac)(F:Fr)(σ:St)(ρ:En)(H:Hp)(ov:Option V):R->Prop
 | .d d=>∃v,ov=some v/\RepD K (hid H (hs F σ ρ)) v d
 | .o j=>(σ[j]?).getD none=ov
 | .x s=>∃v,ov=some v/\s.own=false/\SvOk K (hid H (hs F σ ρ)) H (some (some v)) s
 | _=>True
inductive Srcs (K:ac) (F:Fr) (σ:St) (ρ:En) (H:Hp):St->List R->Prop
 | nil:Srcs K F σ ρ H [] []
 | cons {v:Option V} {r:R} {vs:St} {rs:List R}:Src K F σ ρ H v r->Srcs K F σ ρ H vs rs->Srcs K F σ ρ H (v::vs) (r::rs)
def isO (j:Nat):R->Bool
 | .o i=>i==j
 | _=>false
def dis:List R->Bool
 | []=>true
 | .o j::rs=>rs.all (λr=>!isO j r)&&dis rs
 | _::rs=>dis rs
theorem tD:∀ {rs:List R} {k k' j:Nat},dis rs=true->rs[k]? = some (.o j)->rs[k']? = some (.o j)->k=k':=by
 intro rs;induction rs with
 | nil=>intro k k' j _ h;simp at h
 | cons r rs ih =>
  intro k k' j hd h h';have hd':dis rs=true:=by
   cases r <;> simp[dis]at hd <;> first | exact hd.2 | exact hd
  have no:∀(m:Nat),r = .o j->rs[m]? = some (.o j)->False:=λm e hm=>by
   subst e;simp[dis]at hd;have:=hd.1 _ (yp hm);simp[isO]at this
  cases k with
  | zero =>
   cases k' with
   | zero=>rfl
   | succ k'=>simp at h h';exact(no k' h h').elim
  | succ k =>
   cases k' with
   | zero=>simp at h h';exact(no k h' h).elim
   | succ k'=>simp at h h';rw[ih hd' h h']
def back:En->List R->En->En
 | ρ,.o j::rs,s::ss=>back (pt ρ j s) rs ss
 | ρ,_::rs,_::ss=>back ρ rs ss
 | ρ,_,_=>ρ
theorem eZ:∀(rs:List R) (ρ ss:En),(back ρ rs ss).length=ρ.length
 | [],ρ,ss=>by cases ss <;> rfl
 | r::rs,ρ,[]=>by cases r <;> rfl
 | .o j::rs,ρ,s::ss=>by show(back (pt ρ j s) rs ss).length=_;rw[eZ,ft]
 | .d d::rs,ρ,s::ss=>eZ rs ρ ss
 | .n d::rs,ρ,s::ss=>eZ rs ρ ss
 | .t d::rs,ρ,s::ss=>eZ rs ρ ss
 | .x d::rs,ρ,s::ss=>eZ rs ρ ss
theorem gp:∀(rs:List R) (ρ ss:En) (i:Nat),(∀k:Nat,rs[k]? ≠ some (R.o i))->gt (back ρ rs ss) i=gt ρ i
 | [],ρ,ss,i,_=>by cases ss <;> rfl
 | r::rs,ρ,[],i,_=>by cases r <;> rfl
 | .o j::rs,ρ,s::ss,i,h=>by
  have ne:j≠i:=λe=>h 0 (by simp[e]);show gt (back (pt ρ j s) rs ss) i=_;rw[gp rs _ ss i (λk z=>h (k+1) (by simpa using z)),bU ρ j i s ne]
 | .d d::rs,ρ,s::ss,i,h=>gp rs ρ ss i (λk z=>h (k+1) (by simpa using z))
 | .n d::rs,ρ,s::ss,i,h=>gp rs ρ ss i (λk z=>h (k+1) (by simpa using z))
 | .t d::rs,ρ,s::ss,i,h=>gp rs ρ ss i (λk z=>h (k+1) (by simpa using z))
 | .x d::rs,ρ,s::ss,i,h=>gp rs ρ ss i (λk z=>h (k+1) (by simpa using z))
theorem hX:∀(rs:List R) (ρ ss:En) (i k:Nat),dis rs=true->rs[k]? = some (.o i)->ss.length=rs.length->i<ρ.length->gt (back ρ rs ss) i=gt ss k
 | [],ρ,ss,i,k,_,h,_,_=>by simp at h
 | r::rs,ρ,[],i,k,_,_,e,_=>by simp at e
 | .o j::rs,ρ,s::ss,i,0,hd,h,e,l=>by
  simp at h;subst h;simp[dis]at hd;show gt (back (pt ρ j s) rs ss) j=s;rw[gp rs _ ss j (λk z=>by have:=hd.1 _ (yp z);simp[isO]at this),jN ρ j s l]
 | .o j::rs,ρ,s::ss,i,k+1,hd,h,e,l=>by
  simp[dis]at hd;exact hX rs (pt ρ j s) ss i k hd.2 (by simpa using h) (by simpa using e) (by rw[ft];exact l)
 | .d d::rs,ρ,s::ss,i,0,hd,h,e,l=>by simp at h
 | .n d::rs,ρ,s::ss,i,0,hd,h,e,l=>by simp at h
 | .t d::rs,ρ,s::ss,i,0,hd,h,e,l=>by simp at h
 | .x d::rs,ρ,s::ss,i,0,hd,h,e,l=>by simp at h
 | .d d::rs,ρ,s::ss,i,k+1,hd,h,e,l=>hX rs ρ ss i k hd (by simpa using h) (by simpa using e) l
 | .n d::rs,ρ,s::ss,i,k+1,hd,h,e,l=>hX rs ρ ss i k hd (by simpa using h) (by simpa using e) l
 | .t d::rs,ρ,s::ss,i,k+1,hd,h,e,l=>hX rs ρ ss i k hd (by simpa using h) (by simpa using e) l
 | .x d::rs,ρ,s::ss,i,k+1,hd,h,e,l=>hX rs ρ ss i k hd (by simpa using h) (by simpa using e) l
theorem lY (ρ:En):∀(rs:List R) (k:Nat),gt (rs.map (cI ρ)) k=(match rs[k]? with | some r=>cI ρ r | none=>.un)
 | [],k=>by simp[gt]
 | r::rs,0=>by simp[gt]
 | r::rs,k+1=>by simp[gt,lY ρ rs k]
section
variable {K:ac}{F:Fr}{σ:St}{ρ ρ':En}{H H':Hp}{ovs:St}{rs:List R}
theorem Srcs.length (s:Srcs K F σ ρ H ovs rs):ovs.length=rs.length:=by
 induction s with
 | nil=>rfl
 | cons _ _ ih=>simp[ih]
theorem Srcs.get {k:Nat}{r:R}(s:Srcs K F σ ρ H ovs rs)(h:rs[k]? = some r):∃ov,ovs[k]? = some ov/\Src K F σ ρ H ov r:=by
 induction s generalizing k with
 | nil=>simp at h
 | cons a _ ih =>
  cases k with
  | zero=>simp at h;subst h;exact⟨_,rfl,a⟩
  | succ k=>obtain⟨ov,e,q⟩:=ih (by simpa using h);exact⟨ov,by simpa using e,q⟩
def fS (F:Fr)(σ:St)(ρ:En)(H:Hp)(ovs:St)(ss:En):Fr :=
 ⟨H,λa=>F.Z a∨(bZ σ ρ a/\¬bZ ovs ss a),λa=>bZ ovs ss a,λi a=>(gt ss i).own=true/\ovs[i]? = some (some (.ref a)),λ_ _=>False⟩
theorem mH (s:Srcs K F σ ρ H ovs rs){k:Nat}(h:(gt (rs.map (cI ρ)) k).own=true):∃j:Nat,rs[k]? = some (R.o j)/\(gt ρ j).own=true/\gt (rs.map (cI ρ)) k=gt ρ j/\ovs[k]? = some ((σ[j]?).getD none):=by
 rw[lY]at h;cases e:rs[k]? with
 | none=>simp[e]at h;cases h
 | some r =>
  rw[e]at h;cases r with
  | d d=>cases h
  | n d=>cases h
  | t d=>cases h
  | x d =>
   obtain⟨ov,_,_,_,hx,_⟩:=s.get e;have h:d.own=true:=h;rw[hx]at h;cases h
  | o j =>
   obtain⟨ov,e1,e2⟩:=s.get e;exact⟨j,rfl,h,by rw[lY,e];rfl,by rw[e1,show _=ov from e2]⟩
theorem k7 {x:Option (Option V)}{a:Addr}(h:some (x.getD none)=some (some (V.ref a))):x=some (some (.ref a)):=by
 cases x with
 | none=>simp at h
 | some y=>simpa using h
theorem dh (s:Srcs K F σ ρ H ovs rs){a:Addr}(h:bZ ovs (rs.map (cI ρ)) a):∃k j:Nat,rs[k]? = some (R.o j)/\(gt ρ j).own=true/\σ[j]? = some (some (V.ref a))/\ovs[k]? = some (some (V.ref a)):=by
 obtain⟨k,hk,e⟩:=h;obtain⟨j,e1,e2,e3,e4⟩:=mH s hk;rw[e]at e4;exact⟨k,j,e1,e2,k7 e4.symm,e⟩
theorem qe (r:Rel K F σ ρ H)(s:Srcs K F σ ρ H ovs rs):hs (fS F σ ρ H ovs (rs.map (cI ρ))) ovs (rs.map (cI ρ))=hs F σ ρ:=by
 funext a;apply propext;constructor
 ·rintro((h | h) | h)
  ·exact .inl h
  ·exact .inr h.1
  ·obtain⟨k,j,e1,e2,e3,_⟩:=dh s h;exact .inr ⟨j,e2,e3⟩
 ·rintro(h | h)
  ·exact .inl (.inl h)
  ·by_cases q:bZ ovs (rs.map (cI ρ)) a
   ·exact .inr q
   ·exact .inl (.inr ⟨h,q⟩)
theorem Rel.sub (r:Rel K F σ ρ H)(s:Srcs K F σ ρ H ovs rs)(hd:dis rs=true):Rel K (fS F σ ρ H ovs (rs.map (cI ρ))) ovs (rs.map (cI ρ)) H:=by
 refine⟨by rw[s.length,db],λa o e _=>e,λa z=>?_,λa h z=>?_,λi a hi e=>.inl ⟨⟨hi,e⟩,i,hi,e⟩,λi a h=>?_,λa h=>?_,λa h=>?_,λi j a hi hj ei ej=>?_,λk=>?_⟩
 ·rcases z with z | z
  ·exact r.zl a z
  ·exact oh r z.1
 ·obtain⟨k,j,e1,e2,e3,_⟩:=dh s h;rcases z with z | z
  ·exact r.zo a ⟨j,e2,e3⟩ z
  ·exact z.2 h
 ·rcases h with h | h
  ·exact h.2
  ·exact h.elim
 ·obtain⟨k,j,e1,e2,e3,_⟩:=dh s h;exact dG r ⟨j,e2,e3⟩
 ·obtain⟨k,j,e1,e2,e3,_⟩:=dh s h;exact dG r ⟨j,e2,e3⟩
 ·obtain⟨p,a1,a2,a3,a4⟩:=mH s hi;obtain⟨p',b1,b2,b3,b4⟩:=mH s hj;rw[ei]at a4;rw[ej]at b4;have:p=p':=r.nd p p' a a2 b2 (k7 a4.symm) (k7 b4.symm);subst this;exact tD hd a1 b1
 ·rw[qe r s,lY];cases e:rs[k]? with
  | none=>trivial
  | some x =>
   obtain⟨ov,e1,e2⟩:=s.get e;cases x with
   | n d=>trivial
   | t d=>trivial
   | x d=>obtain⟨v,e3,_,e4⟩:=e2;rw[e1,e3];exact e4
   | d d=>obtain⟨v,e3,e4⟩:=e2;rw[e1,e3];exact⟨v,rfl,e4⟩
   | o j =>
    rw[e1];have q:=r.sl j;show SvOk K _ H (some ov) (gt ρ j);rw[<- show(σ[j]?).getD none=ov from e2];cases e5:σ[j]? with
    | none =>
     rw[e5]at q;cases hg:gt ρ j with
     | un=>trivial
     | vl d=>rw[hg]at q;obtain⟨x,z,_⟩:=q;cases z
     | ow d=>rw[hg]at q;obtain⟨x,_,z,_⟩:=q;cases z
     | tp d=>rw[hg]at q;obtain⟨x,_,_,_,_,z,_⟩:=q;cases z
     | dk d=>rw[hg]at q;obtain⟨x,_,z,_⟩:=q;cases z
     | dt d=>rw[hg]at q;obtain⟨x,_,z,_⟩:=q;cases z
     | ex d m=>rw[hg]at q;obtain⟨x,_,z,_⟩:=q;cases z
     | sc d=>rw[hg]at q;obtain⟨x,z,_⟩:=q;cases z
     | px d m k=>rw[hg]at q;obtain⟨x,_,_,_,z,_⟩:=q;cases z
     | xl es=>rw[hg]at q;obtain⟨x,_,z,_⟩:=q;cases z
     | ob _ _=>rw[hg]at q;obtain⟨x,_,_,z,_⟩:=q;cases z
     | ll _=>rw[hg]at q;obtain⟨x,_,_,z,_⟩:=q;cases z
     | ds _ _ _=>rw[hg]at q;obtain⟨x,_,_,_,_,_,z,_⟩:=q;cases z
    | some y=>rw[e5]at q;exact q
theorem Rel.back (r:Rel K F σ ρ H)(s:Srcs K F σ ρ H ovs rs)(hd:dis rs=true){ss':En}(r':Rel K (fS F σ ρ H ovs (rs.map (cI ρ))) ovs ss' H')(sb:∀i,(gt ss' i).own=true->(gt (rs.map (cI ρ)) i).own=true) :
  Rel K F σ (L2.back ρ rs ss') H'/\Kp σ ρ (L2.back ρ rs ss') H H'/\Same (hid H' (hs (fS F σ ρ H ovs (rs.map (cI ρ))) ovs ss')) (hid H' (hs F σ (L2.back ρ rs ss'))):=by
 have ln:ss'.length=rs.length:=by rw[<- r'.len,s.length]
 have cs:∀i:Nat,(∃k:Nat,rs[k]? = some (R.o i)/\i<ρ.length/\gt (L2.back ρ rs ss') i=gt ss' k)∨((∀k:Nat,i<ρ.length->rs[k]? ≠ some (R.o i))/\gt (L2.back ρ rs ss') i=gt ρ i):=λi=>by
  by_cases hi:i<ρ.length
  ·by_cases q:∃k:Nat,rs[k]? = some (R.o i)
   ·obtain⟨k,e⟩:=q;exact .inl ⟨k,e,hi,hX rs ρ ss' i k hd e ln hi⟩
   ·exact .inr ⟨λk _ z=>q ⟨k,z⟩,gp rs ρ ss' i λk z=>q ⟨k,z⟩⟩
  ·refine .inr ⟨λk z=>absurd z hi,?_⟩;rw[ig _ i (by rw[eZ];omega),ig _ i (by omega)]
 have own':∀i,(gt (L2.back ρ rs ss') i).own=true->(gt ρ i).own=true:=λi h=>by
  rcases cs i with⟨k,e,hi,g⟩ | ⟨_,g⟩
  ·rw[g]at h;have:=sb k h;rw[lY,e]at this;exact this
  ·rw[g]at h;exact h
 have subo:∀ {a},bZ σ (L2.back ρ rs ss') a->bZ σ ρ a:=λ⟨i,hi,e⟩=>⟨i,own' i hi,e⟩
 have no:∀a,¬bZ σ ρ a->¬bZ ovs (rs.map (cI ρ)) a:=λa h z=>by
  obtain⟨k,j,e1,e2,e3,_⟩:=dh s z;exact h ⟨j,e2,e3⟩
 have st:∀a o,H a=some o->¬bZ ovs (rs.map (cI ρ)) a->H' a=some o:=λa o e n=>r'.fr a o e n;have hsub:∀a,hs F σ (L2.back ρ rs ss') a->hs (fS F σ ρ H ovs (rs.map (cI ρ))) ovs ss' a:=λa h=>by
  rcases h with h | ⟨i,hi,e⟩
  ·exact .inl (.inl h)
  ·rcases cs i with⟨k,e1,hl,g⟩ | ⟨n,g⟩
   ·right;rw[g]at hi;obtain⟨ov,q1,q2⟩:=s.get e1;refine⟨k,hi,?_⟩;rw[q1,<- show(σ[i]?).getD none=ov from q2,e];rfl
   ·left;right;rw[g]at hi;refine⟨⟨i,hi,e⟩,λz=>?_⟩;obtain⟨k,j,e1,e2,e3,_⟩:=dh s z;have:i=j:=r.nd i j a hi e2 e e3;subst this;exact n k (jc hi) e1
 have v1:Same (hid H' (hs (fS F σ ρ H ovs (rs.map (cI ρ))) ovs ss')) (hid H' (hs F σ (L2.back ρ rs ss'))):=bT λa o e n=>⟨e,λz=>n (hsub a z)⟩
 have v2:Same (hid H (hs F σ ρ)) (hid H' (hs F σ (L2.back ρ rs ss'))):=bT λa o e n=>⟨st a o e (no a λz=>n (.inr z)),λz=>n (z.imp id subo)⟩
 refine⟨⟨by rw[eZ,r.len],λa o e n=>?_,λa z=>r'.zl a (.inl z),λa h=>r.zo a (subo h),λi a hi e=>r.ow i a (own' i hi) e,r.mi,r.ml,λa z=>?_,λi j a hi hj ei ej=>r.nd i j a (own' i hi) (own' j hj) ei ej,λi=>?_⟩,⟨λa o e n=>st a o e (no a n),own'⟩,v1⟩
 ·have e1:=r.fr a o e n;refine st a o e1 λz=>?_;obtain⟨k,j,h1,h2,h3,_⟩:=dh s z;rcases r.ow j a h2 h3 with q | q
  ·exact n q.2
  ·rw[e]at q;cases q
 ·by_cases q:bZ ovs (rs.map (cI ρ)) a
  ·exact r'.ma a q
  ·cases h:H a with
   | none=>exact absurd h (r.ma a z)
   | some o=>rw[st a o h q];exact λz=>nomatch z
 ·rcases cs i with⟨k,e1,hl,g⟩ | ⟨n,g⟩
  ·rw[g];have q:=(r'.sl k).keep v1 λ_ _ _ _ e=>e;obtain⟨ov,q1,q2⟩:=s.get e1;rw[q1,<- show(σ[i]?).getD none=ov from q2]at q;cases e5:σ[i]? with
   | none =>
    rw[e5]at q;cases hg:gt ss' k with
    | un=>trivial
    | vl d=>rw[hg]at q;obtain⟨x,z,_⟩:=q;cases z
    | ow d=>rw[hg]at q;obtain⟨x,_,z,_⟩:=q;cases z
    | tp d=>rw[hg]at q;obtain⟨x,_,_,_,_,z,_⟩:=q;cases z
    | dk d=>rw[hg]at q;obtain⟨x,_,z,_⟩:=q;cases z
    | dt d=>rw[hg]at q;obtain⟨x,_,z,_⟩:=q;cases z
    | ex d m=>rw[hg]at q;obtain⟨x,_,z,_⟩:=q;cases z
    | sc d=>rw[hg]at q;obtain⟨x,z,_⟩:=q;cases z
    | px d m k=>rw[hg]at q;obtain⟨x,_,_,_,z,_⟩:=q;cases z
    | xl es=>rw[hg]at q;obtain⟨x,_,z,_⟩:=q;cases z
    | ob _ _=>rw[hg]at q;obtain⟨x,_,_,z,_⟩:=q;cases z
    | ll _=>rw[hg]at q;obtain⟨x,_,_,z,_⟩:=q;cases z
    | ds _ _ _=>rw[hg]at q;obtain⟨x,_,_,_,_,_,z,_⟩:=q;cases z
   | some y=>rw[e5]at q;exact q
  ·rw[g];refine(r.sl i).keep v2 λl o ho e h=>st l o h λz=>?_;obtain⟨k,j,e1,e2,e3,_⟩:=dh s z;have:i=j:=r.nd i j l ho e2 e e3;subst this;exact n k (jc ho) e1
end
abbrev ASp:=En->Ko->Prop
def F0 (vs:List V)(ss:En)(H:Hp)(Z:Addr->Prop):Fr:=⟨H,Z,λa=>bZ (vs.map some) ss a,λi a=>(gt ss i).own=true/\(vs.map some)[i]? = some (some (.ref a)),λ_ _=>False⟩
def spA (K:ac)(S:ASp):Sp:=λvs H Q _=>∃ss Z q,Rel K (F0 vs ss H Z) (vs.map some) ss H/\S ss q /\
 ∀r ss' v H',q r ss'->(∀i,(gt ss' i).own=true->(gt ss i).own=true)->(∀i,r ≠ .o i)->RelR K (F0 vs ss H Z) (vs.map some) ss' v H' r->Q v H'
def xH (S:ASp)(as:AA):AE:=λρ q=>as ρ λrs ρ1=>dis rs=true/\S (rs.map (cI ρ1)) λr ss'=>q r (back ρ1 rs ss')
section
variable {K:ac}{F:Fr}{σ:St}{ρ ρ':En}{H H':Hp}{ovs:St}{rs:List R}
theorem InFs.srcs {vs:List V}(h:InFs K F σ ρ H vs rs):Srcs K F σ ρ H (vs.map some) rs:=by
 induction h with
 | nil=>exact .nil
 | cons a t ih =>
  rename_i v r vs rs;refine .cons ?_ ih;cases r with
  | d d=>exact⟨v,rfl,a⟩
  | o j=>show(σ[j]?).getD none=some v;rw[show σ[j]? = _ from a];rfl
  | n s=>trivial
  | t n=>trivial
  | x n=>exact⟨v,rfl,a⟩
theorem aL {S:ASp}{E:XK}{ts:TA}{as:AA}(hs':TAok K ts as):TEok K (kE (spA K S) [] E ts) (xH S as):=by
 intro F σ ρ H q Q r h k;refine hs' F σ ρ H _ _ r h λrs ρ1 vs H1 h1 r1 i1 k1=>?_;obtain⟨hd,hS⟩:=h1;have s:=i1.srcs;rw[zZ];refine⟨rs.map (cI ρ1),(fS F σ ρ1 H1 (vs.map some) (rs.map (cI ρ1))).Z,_,r1.sub s hd,hS,λrr ss' v H' hq sb no out=>?_⟩;refine(k.after k1) rr (back ρ1 rs ss') v H' hq ?_;cases rr with
 | o i=>exact absurd rfl (no i)
 | d d =>
  obtain⟨a,b⟩:=out;obtain⟨x,y,z⟩:=r1.back s hd a sb;exact⟨x,y,RepD.same b z⟩
 | x sv =>
  obtain⟨a,b,c⟩:=out;obtain⟨x,y,z⟩:=r1.back s hd a sb;exact⟨x,y,b,c.keep z λl o ho=>by rw[b]at ho;cases ho⟩
 | t n =>
  obtain⟨a,b⟩:=out;obtain⟨x,y,z⟩:=r1.back s hd a sb;exact⟨x,y,b⟩
 | n sv =>
  obtain⟨Hb,l,o,a,b,c,e1,e2,e3⟩:=out;obtain⟨x,y,z⟩:=r1.back s hd a sb;exact⟨Hb,l,o,x,y,b,c.keep z λ_ _ _ _ e=>e,e1,e2,e3⟩
end
section
variable {K:ac}{F:Fr}{σ σ':St}{ρ ρ':En}{H H':Hp}
open Classical in
noncomputable def rebase (F:Fr)(σ:St)(ρ:En)(H:Hp)(pin:Nat->Bool):Fr :=
 ⟨λa=>if bZ σ ρ a/\F.H0 a=none then none else H a,F.Z,λa=>F.M a/\bZ σ ρ a,F.I,λi a=>F.P i a∨(pin i=true/\σ[i]? = some (some (.ref a)))⟩
open Classical in
theorem i0 {pin:Nat->Bool}{a:Addr}{o:HO}(h:¬(bZ σ ρ a/\F.H0 a=none))(e:H a=some o):(rebase F σ ρ H pin).H0 a=some o:=by
 show(if bZ σ ρ a/\F.H0 a=none then none else H a)=some o;rw[if_neg h];exact e
open Classical in
theorem wy {pin:Nat->Bool}{a:Addr}{o:HO}(e:(rebase F σ ρ H pin).H0 a=some o):H a=some o:=by
 have e':(if bZ σ ρ a/\F.H0 a=none then none else H a)=some o:=e;split at e'
 ·cases e'
 ·exact e'
open Classical in
theorem Rel.rebase (r:Rel K F σ ρ H)(pin:Nat->Bool):Rel K (L2.rebase F σ ρ H pin) σ ρ H where
 len:=r.len
 fr:=λa o e _=>wy e
 zl:=r.zl
 zo:=r.zo
 ow:=λi a hi e=>by
  rcases r.ow i a hi e with⟨h1,h2⟩ | h
  ·exact .inl ⟨h1,h2,i,hi,e⟩
  ·refine .inr ?_;show(if bZ σ ρ a/\F.H0 a=none then none else H a)=none;rw[if_pos ⟨⟨i,hi,e⟩,h⟩]
 mi:=λi a h=>by
  rcases h with h | h | h
  ·exact r.mi i a (.inl h)
  ·exact r.mi i a (.inr h)
  ·exact h.2
 ml:=λa h=>by
  cases e:H a with
  | none=>exact absurd e (r.ma a h.1)
  | some o=>rw[i0 (λz=>r.ml a h.1 z.2) e];exact λz=>nomatch z
 ma:=λa h=>r.ma a h.1
 nd:=r.nd
 sl:=r.sl
theorem Rel.unbase {pin:Nat->Bool}(r:Rel K F σ ρ H)(r':Rel K (L2.rebase F σ ρ H pin) σ' ρ' H'):Rel K F σ' ρ' H'/\Same (hid H (hs F σ ρ)) (hid H' (hs F σ' ρ')):=by
 refine⟨⟨r'.len,λa o e n=>?_,r'.zl,r'.zo,λi a hi e=>?_,λi a h=>r'.mi i a (h.imp id .inl),r.ml,λa h=>?_,r'.nd,r'.sl⟩,bT λa o e n=>?_⟩
 ·exact r'.fr a o (i0 (λz=>by rw[e]at z;cases z.2) (r.fr a o e n)) λz=>n z.1
 ·rcases r'.ow i a hi e with⟨h1,h2⟩ | h
  ·exact .inl ⟨h1,h2.1⟩
  ·right;cases h0:F.H0 a with
   | none=>rfl
   | some o =>
    exfalso;have nn:H a≠none:=by
     by_cases q:F.M a
     ·exact r.ma a q
     ·rw[r.fr a o h0 q];exact λz=>nomatch z
    cases e2:H a with
    | none=>exact nn e2
    | some u =>
     rw[i0 (λz=>by rw[h0]at z;cases z.2) e2]at h;cases h
 ·by_cases q:bZ σ ρ a
  ·exact r'.ma a ⟨h,q⟩
  ·cases e:H a with
   | none=>exact absurd e (r.ma a h)
   | some o=>rw[r'.fr a o (i0 (λz=>q z.1) e) λz=>q z.2];exact λz=>nomatch z
 ·have n':¬bZ σ ρ a:=λz=>n (.inr z);have e0:=i0 (F:=F) (pin:=pin) (λz=>n' z.1) e;refine⟨r'.fr a o e0 λz=>n' z.2,λz=>?_⟩;rcases z with z | ⟨i,hi,ei⟩
  ·exact n (.inl z)
  ·rcases r'.ow i a hi ei with⟨_,h2⟩ | h
   ·exact n' h2.2
   ·rw[e0]at h;cases h
theorem RelR.unbase {pin:Nat->Bool}{v:V}{rr:R}(r:Rel K F σ ρ H)(r':RelR K (L2.rebase F σ ρ H pin) σ' ρ' v H' rr):RelR K F σ' ρ' v H' rr:=by
 cases rr with
 | d d=>exact⟨(r.unbase r'.1).1,r'.2⟩
 | o d=>exact⟨(r.unbase r'.1).1,r'.2⟩
 | t d=>exact⟨(r.unbase r'.1).1,r'.2⟩
 | x d=>exact⟨(r.unbase r'.1).1,r'.2⟩
 | n s =>
  obtain⟨Hb,l,o,a,b,c,e⟩:=r';exact⟨Hb,l,o,(r.unbase a).1,b,c,e⟩
end
structure tQ (K:ac)(F:Fr)(D:Ends)(e:lz):Prop where
 nx:∀ σ' ρ' H',e.nx ρ'->Rel K F σ' ρ' H'->D.nx σ' H'
 bk:∀ σ' ρ' H',e.bk ρ'->Rel K F σ' ρ' H'->D.bk σ' H'
 ct:∀ σ' ρ' H',e.ct ρ'->Rel K F σ' ρ' H'->D.ct σ' H'
 rt:∀ σ' ρ' r v H',e.rt r ρ'->RelR K F σ' ρ' v H' r->D.rt v H'
def TSok (K:ac)(pr:Nat->Bool)(t:TS)(a:AS):Prop:=∀F σ ρ H D e,(∀i a,F.pin i a->pr i=true)->Rel K F σ ρ H->a e ρ->tQ K F D e->t D σ H
abbrev AG:=D->En->(En->Prop)->Prop
abbrev AGs:=List D->En->(En->Prop)->Prop
def TGok (K:ac)(pr:Nat->Bool)(g:TG)(ag:AG):Prop:=∀F σ ρ H v d k Q,(∀i a,F.pin i a->pr i=true)->Rel K F σ ρ H->RepD K (hid H (hs F σ ρ)) v d->ag d ρ k ->
 (∀ σ' ρ',k ρ'->Rel K F σ' ρ' H->σ'.length=σ.length->(∀i,pr i=true->σ'[i]? = σ[i]?)->(∀i,(gt ρ' i).own=true->(gt ρ i).own=true/\σ'[i]? = σ[i]?)->Q σ' H)->g v σ H Q
def tM (K:ac)(pr:Nat->Bool)(n:Nat)(g:TGs)(ag:AGs):Prop:=(∀ds ρ k,ag ds ρ k->ds.length=n)/\∀F σ ρ H vs ds k Q,(∀i a,F.pin i a->pr i=true)->Rel K F σ ρ H->RepDs K (hid H (hs F σ ρ)) vs ds->ag ds ρ k ->
 (∀ σ' ρ',k ρ'->Rel K F σ' ρ' H->σ'.length=σ.length->(∀i,pr i=true->σ'[i]? = σ[i]?)->(∀i,(gt ρ' i).own=true->(gt ρ i).own=true/\σ'[i]? = σ[i]?)->Q σ' H)->g vs σ H Q
section
variable {K:ac}{pr:Nat->Bool}{t u:TS}{a b:AS}{te:TE}{ae:AE}{tt:TT}{at':AT}
theorem sR {F:Fr}{i:Nat}(hp:∀i a,F.pin i a->pr i=true)(h:pr i=false):∀a,¬F.pin i a:=λa z=>by rw[hp i a z]at h;cases h
def gb (i:Nat):AG:=λd ρ k=>k (pt ρ i (.vl d))
theorem aA {i:Nat}(h:pr i=false):TGok K pr (q_ i) (gb i):=by
 intro F σ ρ H v d k Q hp r hd ha kk;refine kk _ _ ha (r.set hd (sR hp h)) (by rw[zY]) (λj hj=>?_) λj hj=>?_
 ·rw[xz];rintro rfl;rw[h]at hj;cases hj
 ·obtain⟨ne,q⟩:=fv rfl hj;exact⟨q,by rw[xz ne]⟩
def gaNil:AGs:=λds ρ k=>match ds with
 | []=>k ρ
 | _=>False
def gR (g:AG)(gs:AGs):AGs:=λds ρ k=>match ds with
 | d::r=>g d ρ λρ1=>gs r ρ1 k
 | []=>False
theorem ba:tM K pr 0 gNil gaNil:=by
 refine⟨λds ρ k h=>?_,?_⟩
 ·cases ds with
  | nil=>rfl
  | cons _ _=>exact h.elim
 intro F σ ρ H vs ds k Q hp r hd ha kk;cases ds with
 | cons _ _=>exact ha.elim
 | nil =>
  cases vs with
  | nil=>exact⟨rfl,kk _ _ ha r rfl (λ_ _=>rfl) λ_ h=>⟨h,rfl⟩⟩
  | cons v vs=>unfold RepDs at hd;exact hd.elim
theorem vb {F:Fr}{σ σ':St}{ρ ρ':En}{H:Hp}(h:∀i,(gt ρ' i).own=true->(gt ρ i).own=true/\σ'[i]? = σ[i]?):Same (hid H (hs F σ ρ)) (hid H (hs F σ' ρ')):=bT λa o e n=>⟨e,λz=>by
 rcases z with z | ⟨i,hi,ei⟩
 ·exact n (.inl z)
 ·obtain⟨q1,q2⟩:=h i hi;exact n (.inr ⟨i,q1,q2▸ei⟩)⟩
theorem aw {g:TG}{gs:TGs}{ag:AG}{ags:AGs}{n:Nat}(h:TGok K pr g ag)(hs':tM K pr n gs ags)(gl:∀d ρ k,ag d ρ k->∃ ρ',k ρ'):tM K pr (n+1) (xk g gs) (gR ag ags):=by
 refine⟨λds ρ k ha=>?_,?_⟩
 ·cases ds with
  | nil=>exact ha.elim
  | cons d ds=>obtain⟨ρ',q⟩:=gl _ _ _ ha;rw[wS,hs'.1 _ _ _ q]
 intro F σ ρ H vs ds k Q hp r hd ha kk;cases ds with
 | nil=>exact ha.elim
 | cons d ds =>
  cases vs with
  | nil=>unfold RepDs at hd;exact hd.elim
  | cons v vs =>
   unfold RepDs at hd;refine⟨v,vs,rfl,h F σ ρ H v d _ _ hp r hd.1 ha λσ1 ρ1 h1 r1 l1 p1 o1=>?_⟩;refine hs'.2 F σ1 ρ1 H vs ds _ _ hp r1 (hd.2.same (vb o1)) h1 λσ2 ρ2 h2 r2 l2 p2 o2=>?_;refine kk _ _ h2 r2 (l2.trans l1) (λi hi=>(p2 i hi).trans (p1 i hi)) λi hi=>?_;obtain⟨a1,a2⟩:=o2 i hi;obtain⟨b1,b2⟩:=o1 i a1;exact⟨b1,a2.trans b2⟩
def pN (n:Nat)(gs:AGs):AG:=λd ρ k=>match d with
 | .tup ds=>gs ds ρ k
 | _=>False
theorem aQ {i:Nat}{d:D}{ρ:En}{k:En->Prop}(h:gb i d ρ k):∃ ρ',k ρ':=⟨_,h⟩
theorem bw {gs:TGs}{ags:AGs}{n:Nat}(hs':tM K pr n gs ags):TGok K pr (gTup K n gs) (pN n ags):=by
 intro F σ ρ H v d k Q hp r hd ha kk;unfold pN at ha;split at ha
 ·rename_i ds;unfold RepD at hd;obtain⟨p,vs,rfl,sq,rd⟩:=hd;exact⟨p,vs,rfl,cn.seqT sq.sq,by rw[rd.length];exact hs'.1 _ _ _ ha,hs'.2 F σ ρ H vs ds k Q hp r rd ha kk⟩
 ·exact ha.elim
def aNext:AS:=λe ρ=>e.nx ρ
def aSeq (a b:AS):AS:=λe ρ=>a {e with nx:=b e} ρ
theorem aV:TSok K pr tNext aNext:=λF σ ρ H D e hp r h k=>k.nx _ _ _ h r
theorem az (ha:TSok K pr t a)(hb:TSok K pr u b):TSok K pr (tSeq t u) (aSeq a b):=λF σ ρ H D e hp r h k =>
 ha F σ ρ H _ _ hp r h ⟨λσ' ρ' H' h' r'=>hb F σ' ρ' H' D e hp r' h' k,k.bk,k.ct,k.rt⟩
def yg (x:AE):AS:=λe ρ=>x ρ λ_ ρ1=>e.nx ρ1
theorem cq (h:TEok K te ae):TSok K pr (uQ te) (yg ae):=λF σ ρ H D e hp r ha k =>
 h F σ ρ H _ _ r ha λr1 ρ1 v H1 h1 o=>k.nx _ _ _ h1 o.inF.1
def aRet (x:AE):AS:=λe ρ=>x ρ e.rt
theorem bV (h:TEok K te ae):TSok K pr (tRet te) (aRet ae):=λF σ ρ H D e hp r ha k =>
 h F σ ρ H _ _ r ha λr1 ρ1 v H1 h1 o=>k.rt _ _ _ _ _ h1 o.rel
def aIfS (c:AT)(a b:AS):AS:=λe ρ=>c ρ λk ρ1=>if k=true then a e ρ1 else b e ρ1
theorem cp (hc:TTok K tt at')(ha:TSok K pr t a)(hb:TSok K pr u b):TSok K pr (tIfS tt t u) (aIfS at' a b):=by
 intro F σ ρ H D e hp r h k;refine hc F σ ρ H _ _ r h λc ρ1 H1 h1 r1 k1=>?_;cases c with
 | true=>exact ha F σ ρ1 H1 D e hp r1 h1 k
 | false=>exact hb F σ ρ1 H1 D e hp r1 h1 k
def stS (i:Nat):R->En->(En->Prop)->Prop
 | .d d,ρ,k=>k (pt ρ i (.vl d))
 | .n s,ρ,k=>k (pt ρ i s)
 | .o j,ρ,k=>(match gt ρ j with
  | .ow ds=>k (pt (pt ρ j (.vl (.lst ds))) i (.vl (.lst ds)))
  | .vl d=>k (pt ρ i (.vl d))
  | .ex C fs=>k (pt ρ i (.ex C fs))
  | .ob C fs=>k (pt ρ i (.ob C fs))
  | _=>False)
 | .t _,_,_=>False
 | .x s,ρ,k=>k (pt ρ i s)
def aSet (i:Nat)(x:AE):AS:=λe ρ=>x ρ λr ρ1=>stS i r ρ1 e.nx
theorem tY {i:Nat}(hi:pr i=false)(h:TEok K te ae):TSok K pr (λD σ H=>te σ H λv H'=>D.nx (σ.set i (some v)) H') (aSet i ae):=by
 intro F σ ρ H D e hp r ha k;refine h F σ ρ H _ _ r ha λr1 ρ1 v H1 h1 o=>?_;have np:=sR hp hi;cases r1 with
 | d d=>exact k.nx _ _ _ h1 (o.1.set o.2.2 np)
 | t n=>exact h1.elim
 | x s=>exact k.nx _ _ _ h1 (o.1.setS o.2.2.1 o.2.2.2 np)
 | n s =>
  obtain⟨Hb,l,u,a1,a2,a3,a4,a5,rfl,rfl⟩:=o;exact k.nx _ _ _ h1 (a1.setF a3 a4 a5 np)
 | o j =>
  obtain⟨r1,k1,ej⟩:=o;have h2:(match gt ρ1 j with
   | .ow ds=>e.nx (pt (pt ρ1 j (.vl (.lst ds))) i (.vl (.lst ds)))
   | .vl d=>e.nx (pt ρ1 i (.vl d))
   | .ex C fs=>e.nx (pt ρ1 i (.ex C fs))
   | .ob C fs=>e.nx (pt ρ1 i (.ob C fs))
   | _=>False):=h1
  clear h1;split at h2
  ·rename_i ds hg;obtain⟨l,el,r2,k2,rd⟩:=r1.frz hg;rw[ej]at el;injection el with el;injection el with el;subst el;exact k.nx _ _ _ h2 (r2.set rd np)
  ·rename_i d hg;have q:=r1.sl j;rw[hg]at q;obtain⟨x,e1,e2⟩:=q;rw[ej]at e1;injection e1 with e1;injection e1 with e1;subst e1;exact k.nx _ _ _ h2 (r1.set e2 np)
  ·rename_i C fs hg;have q:=r1.sl j;rw[hg,ej]at q;exact k.nx _ _ _ h2 (r1.setS rfl q np)
  ·rename_i C fs hg;have q:=r1.sl j;rw[hg,ej]at q;exact k.nx _ _ _ h2 (r1.setS rfl q np)
  ·exact h2.elim
theorem aZ {i:Nat}(h:TEok K te ae)(hi:pr i=false):TSok K pr (tAsg te (q_ i)) (aSet i ae):=tY hi h
theorem kF {i n:Nat}{js:List Nat}{wi:TI}{g:TG}{tc:TT}(h:TEok K (lE n js wi g tc te) ae)(hi:pr i=false):TSok K pr (λD σ H=>lE n js wi g tc te σ H λv H'=>D.nx (σ.set i (some v)) H') (aSet i ae):=tY hi h
def aAsg (x:AE)(g:AG):AS:=λe ρ=>x ρ λr ρ1=>sto [r.frz] ρ1 λds ρ2=>match ds with
 | [d]=>g d ρ2 e.nx
 | _=>False
theorem cH {g:TG}{ag:AG}(h:TEok K te ae)(hg:TGok K pr g ag):TSok K pr (tAsg te g) (aAsg ae ag):=by
 intro F σ ρ H D e hp r ha k;refine h F σ ρ H _ _ r ha λr1 ρ1 v H1 h1 o=>?_;obtain⟨r',k1,i1⟩:=o.inF;obtain⟨ds,ρ2,h2,r2,k2,rd⟩:=gq r' (.cons i1 .nil) h1;split at h2
 ·rename_i d;unfold RepDs at rd;exact hg F σ ρ2 H1 v d _ _ hp r2 rd.1 h2 λσ3 ρ3 h3 r3 _ _ _=>k.nx _ _ _ h3 r3
 ·exact h2.elim
abbrev AI:=En->(List D->(En->Prop)->En->Prop)->Prop
def WkAt (K:ac)(S:Addr->Prop)(H:Hp)(J:It)(ds:List D):Prop:=∀k:Nat,(∀d,ds[k]? = some d->J.go k H/\∀x H',J.yld k H x H'->Same H H'/\RepD K (hid H' S) x d)/\(ds.length<=k->J.stop k H)
def TIok (K:ac)(pin:Nat->Bool)(wi:TI)(ai:AI):Prop:=∀F σ ρ H q Rk,Rel K F σ ρ H->ai ρ q->(∀ds c ρ' J H',q ds c ρ'->Rel K F σ ρ' H'->Kp σ ρ ρ' H H' ->
 (∀ σ2 ρ2 H2,Same (hid H' (hs F σ ρ')) (hid H2 (hs F σ2 ρ2))->(∀i,SvOk K (hid H2 (hs F σ2 ρ2)) H2 σ2[i]? (gt ρ2 i))->(∀j a,pin j=true->σ[j]? = some (some (.ref a))->σ2[j]? = some (some (.ref a)))->(∀a,hs F σ2 ρ2 a->Nt H2 a)->c ρ2->WkAt K (hs F σ2 ρ2) H2 J ds)->Rk J H')->wi σ H Rk
def rngD (lo:Int)(n:Nat):List D:=(ym n).map λ(i:Nat)=>D.int (lo+(i:Nat))
theorem cz (lo:Int)(n:Nat):(rngD lo n).length=n:=by simp[rngD]
theorem vV {S:Addr->Prop}{H:Hp}{lo:Int}{n:Nat}:WkAt K S H (Itr lo n) (rngD lo n):=by
 intro k;constructor
 ·intro d h;unfold rngD at h;rw[lm]at h;obtain⟨j,e1,e2⟩:=wp.mp h;have lt:k<n:=by
   rcases pp k n with q | q
   ·exact q
   ·rw[yS (by simpa using q)]at e1;cases e1
  rw[yH lt]at e1;cases e1
  refine⟨lt,λx H' z=>⟨z.1▸Same.refl H,?_⟩⟩;rw[z.2,<- e2];unfold RepD;rfl
 ·intro h;rw[cz]at h;exact h
def ya (as:AA):AI:=λρ q=>as ρ λrs ρ1=>match rs with
 | [.d (.int j)]=>(-(2^62)<=j/\j<2^62)/\q (rngD 0 j.toNat) (λ_=>True) ρ1
 | _=>False
theorem dg {pin:Nat->Bool}{ta:TA}{as:AA}(h:TAok K ta as):TIok K pin (xc ta) (ya as):=by
 intro F σ ρ H q Rk r ha k;refine h F σ ρ H _ _ r ha λrs ρ1 vs H1 h1 r1 i1 k1=>?_;split at h1
 ·obtain⟨x,rfl,i⟩:=i1.one;exact⟨_,by rw[i.int],h1.1.1,h1.1.2,k _ _ _ _ _ h1.2 r1 k1 λ_ _ _ _ _ _ _ _=>vV⟩
 ·exact h1.elim
def iSeq (K:ac)(tl:TE):TI:=λσ H R=>tl σ H λx H1=>∃a,x = .ref a/\(((∃xs,SqL K H1 a xs)/\R (Itl K a) H1)∨((∃xs,SqT K H1 a xs)/\R (Itt K a) H1))
theorem wB {X:Cx}{tg l:Expr}{tl:TE}(hl:PE X l tl):PI X tg l (iSeq X.K tl):=by
 intro pins s σ H R I h;refine thn (hl pins s σ H _ I h) λv s1 ⟨x,H1,I1,r1,q1⟩=>?_;obtain⟨a,e,⟨⟨xs,hq⟩,q⟩ | ⟨⟨xs,hq⟩,q⟩⟩:=q1
 ·subst e;cases r1
  obtain⟨its,rv,p,hz⟩:=I1.list hq;refine wpAny_pyIter_list p.isList ?_;refine⟨s1.heap.objs.size,[s1.heap.objs.size],_,_,H1,rfl,I1.kept (t':=s1.toks) λb o e=>im _ e,pW a _,⟨_,xL _ rfl,rfl,rfl⟩,λb hb=>?_,q⟩;have e:b=s1.heap.objs.size:=by simpa using hb
  subst e;exact I1.fpOk (lw _) (I1.hok.fresh (lw _))
 ·subst e;cases r1
  obtain⟨its,rv,p,hz⟩:=I1.tuple hq;refine Bw (show s1.heap.IsTuple a its.toArray from p) ?_;refine⟨s1.heap.objs.size,[s1.heap.objs.size],_,_,H1,rfl,I1.kept (t':=s1.toks) λb o e=>im _ e,oX a _,⟨_,xL _ rfl,rfl,rfl⟩,λb hb=>?_,q⟩;have e:b=s1.heap.objs.size:=by simpa using hb
  subst e;exact I1.fpOk (lw _) (I1.hok.fresh (lw _))
theorem fu (K:ac){X:Cx}{tg l:Expr}{tl:TE}(hl:PE X l tl)(hK:X.K=K:=by rfl):PI X tg l (iSeq K tl):=by subst hK;exact wB hl
theorem tR {S:Addr->Prop}{H:Hp}{a:Addr}{vs:List V}{ds:List D}(h:SqL K H a vs)(rd:RepDs K (hid H S) vs ds):WkAt K S H (Itl K a) ds:=by
 intro k;constructor
 ·intro d e;obtain⟨v,e1,rv⟩:=rd.get e;refine⟨⟨vs,v,h,e1⟩,λx H' z=>⟨z.1▸Same.refl H,?_⟩⟩;have:=z.2 vs h;rw[e1]at this;cases this;rw[z.1];exact rv
 ·intro z;exact⟨vs,h,by rw[rd.length];exact z⟩
theorem vU {S:Addr->Prop}{H:Hp}{a:Addr}{vs:List V}{ds:List D}(h:SqT K H a vs)(rd:RepDs K (hid H S) vs ds):WkAt K S H (Itt K a) ds:=by
 intro k;constructor
 ·intro d e;obtain⟨v,e1,rv⟩:=rd.get e;refine⟨⟨vs,v,h,e1⟩,λx H' z=>⟨z.1▸Same.refl H,?_⟩⟩;have:=z.2 vs h;rw[e1]at this;cases this;rw[z.1];exact rv
 ·intro z;exact⟨vs,h,by rw[rd.length];exact z⟩
def x8 (pin:Nat->Bool)(x:AE):AI:=λρ q=>x ρ λr ρ1=>match r.frz with
 | .d (.lst ds)=>q ds (λ_=>True) ρ1
 | .d (.tup ds)=>q ds (λ_=>True) ρ1
 | .o i=>(match gt ρ1 i with
  | .ow ds=>pin i=true/\q ds (λρ2=>gt ρ2 i = .ow ds) ρ1
  | _=>False)
 | _=>False
theorem dO {pin:Nat->Bool}(h:TEok K te ae):TIok K pin (iSeq K te) (x8 pin ae):=by
 intro F σ ρ H q Rk r ha k;refine h F σ ρ H _ _ r ha λr1 ρ1 x H1 h1 o1=>?_;obtain⟨r',k1,i1⟩:=o1.inF;split at h1
 ·rename_i ds e;rw[e]at i1;have rd:RepD K _ x (.lst ds):=i1;unfold RepD at rd;obtain⟨a,vs,rfl,sq,rd⟩:=rd;refine⟨a,rfl,.inl ⟨⟨vs,cn.seq (StL.sq sq)⟩,k _ _ _ _ _ h1 r' k1 λσ2 ρ2 H2 sm _ _ _ _=>?_⟩⟩;exact tR (cn.seq (sm.seq (StL.sq sq))) (rd.same sm)
 ·rename_i ds e;rw[e]at i1;have rd:RepD K _ x (.tup ds):=i1;unfold RepD at rd;obtain⟨a,vs,rfl,sq,rd⟩:=rd;refine⟨a,rfl,.inr ⟨⟨vs,cn.seqT sq.sq⟩,k _ _ _ _ _ h1 r' k1 λσ2 ρ2 H2 sm _ _ _ _=>?_⟩⟩;exact vU (cn.seqT (sm.seqT sq.sq)) (rd.same sm)
 ·rename_i i e;rw[e]at i1;have ei:σ[i]? = some (some x):=i1;split at h1
  ·rename_i ds hg;have s:=r'.sl i;rw[hg,ei]at s;obtain⟨a,vs,e1,hl,rd⟩:=s;injection e1 with e1;injection e1 with e1;subst e1;refine⟨a,rfl,.inl ⟨⟨vs,SqL.of hl⟩,k _ _ _ _ _ h1.2 r' k1 λσ2 ρ2 H2 sm sv pn _ hc=>?_⟩⟩;have s2:=sv i;rw[hc,pn i a h1.1 ei]at s2;obtain⟨a',vs',e2,hl',rd'⟩:=s2;injection e2 with e2;injection e2 with e2;injection e2 with e2;subst e2;exact tR (SqL.of hl') rd'
  ·exact h1.elim
 ·exact h1.elim
def forA (c:En->Prop)(g:AG)(b:AS)(e:lz):List D->En->Prop
 | [],ρ=>c ρ/\e.nx ρ
 | d::ds,ρ=>c ρ/\g d ρ λρ1=>b {nx:=forA c g b e ds,ct:=forA c g b e ds,bk:=e.nx,rt:=e.rt} ρ1
def aFor (i:AI)(g:AG)(b:AS):AS:=λe ρ=>i ρ λds c ρ1=>forA c g b e ds ρ1
theorem dc {pin:Nat->Bool}{wi:TI}{ai:AI}{g:TG}{ag:AG}(hi:TIok K pin wi ai)(hg:TGok K (λj=>pr j||pin j) g ag)(hb:TSok K (λj=>pr j||pin j) t a):TSok K pr (tFor wi g t) (aFor ai ag a):=by
 intro F σ ρ H D e hp r ha k;refine hi F σ ρ H _ _ r ha λds c ρ1 J H1 h1 r1 k1 wk=>?_;have hp':∀i a,(rebase F σ ρ1 H1 pin).pin i a->(pr i||pin i)=true:=λi a h=>by
  rcases h with h | h | h
  ·rw[hp i a (.inl h)];rfl
  ·rw[hp i a (.inr h)];rfl
  ·rw[h.1];cases pr i <;> rfl
 have ek:tQ K (rebase F σ ρ1 H1 pin) D e:=⟨λ_ _ _ h' r'=>k.nx _ _ _ h' (r1.unbase r').1,λ_ _ _ h' r'=>k.bk _ _ _ h' (r1.unbase r').1,λ_ _ _ h' r'=>k.ct _ _ _ h' (r1.unbase r').1,λ_ _ _ _ _ h' r'=>k.rt _ _ _ _ _ h' (RelR.unbase r1 r')⟩
 refine⟨λi m σ' H'=>∃ ρ',m=ds.length - i/\i<=ds.length/\Rel K (rebase F σ ρ1 H1 pin) σ' ρ' H'/\forA c ag a e (ds.drop i) ρ',⟨ds.length,ρ1,rfl,yz _,r1.rebase pin,h1⟩,?_⟩;rintro i m σ' H' ⟨ρ',rfl,hl,r',h'⟩;have w:c ρ'->WkAt K (hs F σ' ρ') H' J ds:=λhc=>wk σ' ρ' H' (r1.unbase r').2 r'.sl (λj x hj ej=>r'.mi j x (.inr (.inr ⟨hj,ej⟩))) (λa z=>sY r' z) hc;rcases pp i ds.length with q | q
 ·right;rw[zr q]at h';unfold forA at h';obtain⟨hc,h'⟩:=h';obtain⟨go,yld⟩:=(w hc i).1 ds[i] (bv q);refine⟨go,λσ2 H2=>∃ ρ2,Rel K (rebase F σ ρ1 H1 pin) σ2 ρ2 H2/\forA c ag a e (ds.drop (i+1)) ρ2,λσ2 H2 ⟨ρ2,r2,h2⟩=>⟨ds.length - (i+1),by omega,ρ2,rfl,q,r2,h2⟩,λx H2 hy=>?_⟩;obtain⟨sm,rd⟩:=yld x H2 hy;refine hg _ σ' ρ' _ x _ _ _ hp' (r'.grow sm) rd h' λσ3 ρ3 h3 r3 _ _ _=>?_;exact hb _ σ3 ρ3 _ _ _ hp' r3 h3 ⟨λσ' ρ' H' h' r'=>⟨ρ',r',h'⟩,ek.nx,λσ' ρ' H' h' r'=>⟨ρ',r',h'⟩,ek.rt⟩
 ·left;rw[zD q]at h';unfold forA at h';obtain⟨hc,h'⟩:=h';exact⟨(w hc i).2 q,ek.nx _ _ _ h' r'⟩
end
def blkE (n:Nat)(js:List Nat)(ρ:En):En:=pc n .un++js.map (gt ρ)
def blkR (n:Nat)(js:List Nat):List R:=pc n (R.t "")++js.map R.o
theorem cQ (n:Nat)(js:List Nat)(ρ:En):(blkR n js).map (cI ρ)=blkE n js ρ:=by
 unfold blkR blkE;rw[yo,List.map_replicate,zm];rfl
theorem lp (js:List Nat):∀n,dis (blkR n js)=dis (js.map R.o)
 | 0=>rfl
 | n+1=>by
  show dis (R.t "" :: blkR n js)=_;exact lp js n
theorem mx (js:List Nat)(ρ:En)(n:Nat):∀ss:En,ss.length=n+js.length->back ρ (blkR n js) ss=back ρ (js.map R.o) (ss.drop n):=by
 induction n with
 | zero=>intro ss _;rfl
 | succ n ih =>
  intro ss h;cases ss with
  | nil=>simp at h;omega
  | cons s ss=>exact ih ss (by simp at h;omega)
theorem oU {n:Nat}{js:List Nat}{ρ:En}{i:Nat}(h:(gt (blkE n js ρ) i).own=true):n<=i:=by
 rcases pp i n with q | q
 ·exfalso;have:∀(n i:Nat) (x:En),i<n->gt (pc n Sv.un++x) i = .un:=by
   intro n;induction n with
   | zero=>intro i x h;omega
   | succ n ih =>
    intro i x h;cases i with
    | zero=>rfl
    | succ i=>exact ih i x (by omega)
  unfold blkE at h;rw[this n i _ q]at h;cases h
 ·exact q
section
variable {K:ac}{F:Fr}{σ σ':St}{ρ ρ':En}{H H':Hp}
theorem oS (n:Nat)(js:List Nat):Srcs K F σ ρ H (bst n σ js) (blkR n js):=by
 unfold bst blkR;induction n with
 | zero =>
  induction js with
  | nil=>exact .nil
  | cons j js ih=>exact .cons rfl ih
 | succ n ih=>exact .cons trivial ih
theorem k6:∀(n i:Nat) (ρ:En),gt (ρ.drop n) i=gt ρ (n+i)
 | 0,i,ρ=>by simp
 | n+1,i,[]=>by simp[gt]
 | n+1,i,s::ρ=>by rw[List.drop_succ_cons,k6 n i ρ,Nat.add_right_comm];rfl
theorem oG:∀(n i:Nat) (x:En),gt (pc n Sv.un++x) i=if i<n then .un else gt x (i - n)
 | 0,i,x=>by simp
 | n+1,0,x=>by simp[List.replicate_succ,gt]
 | n+1,i+1,x=>by
  show gt (pc n Sv.un++x) i=_;rw[oG n i x];by_cases h:i<n
  ·rw[if_pos h,if_pos (by omega)]
  ·rw[if_neg h,if_neg (by omega)];congr 1;omega
theorem Rel.forget {n:Nat}(r:Rel K F σ ρ H)(hn:n<=σ.length)(hp:∀i a,F.pin i a->n<=i):Rel K F (pc n none++σ.drop n) (pc n .un++ρ.drop n) H/\Same (hid H (hs F σ ρ)) (hid H (hs F (pc n none++σ.drop n) (pc n .un++ρ.drop n))):=by
 have g:∀i,gt (pc n .un++ρ.drop n) i=if i<n then .un else gt ρ i:=λi=>by
  rw[oG];split
  ·rfl
  ·rw[k6];congr 1;omega
 have s:∀i,n<=i->(pc n none++σ.drop n)[i]? = σ[i]?:=λi h=>by
  rw[yK (by simpa using h),Ae,zI];congr 1;omega
 have own':∀i,(gt (pc n .un++ρ.drop n) i).own=true->n<=i/\(gt ρ i).own=true:=λi h=>by
  rw[g]at h;split at h
  ·cases h
  ·exact⟨by omega,h⟩
 have sub:∀a,bZ (pc n none++σ.drop n) (pc n .un++ρ.drop n) a->bZ σ ρ a:=λa ⟨i,hi,e⟩=>by
  obtain⟨h1,h2⟩:=own' i hi;rw[s i h1]at e;exact⟨i,h2,e⟩
 have vis:Same (hid H (hs F σ ρ)) (hid H (hs F (pc n none++σ.drop n) (pc n .un++ρ.drop n))):=bT λa o e n=>⟨e,λz=>n (z.imp id (sub a))⟩
 refine⟨⟨by have:=r.len;simp;omega,r.fr,r.zl,λa h=>r.zo a (sub a h),λi a hi e=>?_,λi a h=>?_,r.ml,r.ma,λi j a hi hj ei ej=>?_,λi=>?_⟩,vis⟩
 ·obtain⟨h1,h2⟩:=own' i hi;rw[s i h1]at e;exact r.ow i a h2 e
 ·rw[s i (hp i a h)];exact r.mi i a h
 ·obtain⟨h1,h2⟩:=own' i hi;obtain⟨h3,h4⟩:=own' j hj;rw[s i h1]at ei;rw[s j h3]at ej;exact r.nd i j a h2 h4 ei ej
 ·rw[g];split
  ·trivial
  ·rw[s i (by omega)];exact(r.sl i).keep vis λ_ _ _ _ e=>e
end
def fW (n:Nat)(js:List Nat)(c:En->Prop)(g:AG)(tc:AT)(te:AE)(q:List D->En->Prop):List D->List D->En->Prop
 | [],acc,ρ=>c ρ/\q acc ρ
 | d::ds,acc,ρ=>c ρ/\g d (blkE n js ρ) λρ1=>tc ρ1 λb ρ2=>if b=true then te ρ2 λr ρ3=>sto [r.frz] ρ3 λes ρ4=>fW n js c g tc te q ds (acc++es) (back ρ (js.map R.o) (ρ4.drop n))else fW n js c g tc te q ds acc (back ρ (js.map R.o) (ρ2.drop n))
def yj (n:Nat)(js:List Nat)(i:AI)(g:AG)(tc:AT)(te:AE):AE:=λρ q=>i ρ λds c ρ1=>ds.length<=1000000/\fW n js c g tc te (λacc ρ2=>q (.f acc) ρ2) ds [] ρ1
def aAll:AT:=λρ q=>q true ρ
section
variable {K:ac}
theorem dN:TTok K tAll aAll:=λF σ ρ H q Q r h k=>k _ _ _ h r .refl
theorem qf {F:Fr}{σ:St}{ρ:En}{H:Hp}{v:V}{r:R}{q:List D->En->Prop}(a:Rel K F σ ρ H)(i:InF K F σ ρ H v r)(h:sto [r] ρ q):∃d ρ',q [d] ρ'/\Rel K F σ ρ' H/\Kp σ ρ ρ' H H/\RepD K (hid H (hs F σ ρ')) v d:=by
 obtain⟨ds,ρ',h1,h2,h3,h4⟩:=gq a (.cons i .nil) h;cases ds with
 | nil=>unfold RepDs at h4;exact h4.elim
 | cons d ds =>
  unfold RepDs at h4;cases ds with
  | nil=>exact⟨d,ρ',h1,h2,h3,h4.1⟩
  | cons _ _=>obtain⟨_,z⟩:=h4;unfold RepDs at z;exact z.elim
theorem dw {n:Nat}{js:List Nat}{wi:TI}{g:TG}{tc:TT}{te:TE}{ai:AI}{ag:AG}{atc:AT}{ate:AE}(hi:TIok K (λ_=>true) wi ai)(hg:TGok K (λj=>decide (n<=j)) g ag)(hc:TTok K tc atc)(he:TEok K te ate)
  (hd:dis (js.map R.o)=true:=by rfl):TEok K (lE n js wi g tc te) (yj n js ai ag atc ate):=by
 intro F σ ρ H q Q r h k;refine hi F σ ρ H _ _ r h λds c ρ1 J H1 h1 r1 k1 wk=>?_;obtain⟨hz,h1⟩:=h1;have hd':dis (blkR n js)=true:=by rw[lp];exact hd
 refine⟨λi m ys H'=>∃ ρ' acc,m=ds.length - i/\i<=ds.length/\Rel K F σ ρ' H'/\Kp σ ρ1 ρ' H1 H'/\RepDs K (hid H' (hs F σ ρ')) ys acc/\acc.length<=i/\fW n js c ag atc ate (λacc ρ2=>q (.f acc) ρ2) (ds.drop i) acc ρ',⟨ds.length,ρ1,[],rfl,yz _,r1,.refl,.nil,yz _,h1⟩,?_⟩;rintro i m ys H' ⟨ρ',acc,rfl,hl,r',k',rd,al,h'⟩;have w:c ρ'->WkAt K (hs F σ ρ') H' J ds:=λhc=>wk σ ρ' H' k'.vis r'.sl (λ_ _ _ e=>e) (λa z=>sY r' z) hc;have yl:ys.length=acc.length:=rd.length;rcases pp i ds.length with lt | ge
 ·right;rw[zr lt]at h';unfold fW at h';obtain⟨hcc,h'⟩:=h';obtain⟨go,yld⟩:=(w hcc i).1 ds[i] (bv lt);refine⟨go,iT (by omega),λzs H2=>∃ ρ2 acc2,Rel K F σ ρ2 H2/\Kp σ ρ1 ρ2 H1 H2/\RepDs K (hid H2 (hs F σ ρ2)) zs acc2/\acc2.length<=i+1/\fW n js c ag atc ate (λacc ρ2=>q (.f acc) ρ2) (ds.drop (i+1)) acc2 ρ2,
   λzs H2 ⟨ρ2,acc2,a1,a2,a3,a4,a5⟩=>⟨ds.length - (i+1),by omega,ρ2,acc2,rfl,lt,a1,a2,a3,a4,a5⟩,λx H2 hy=>?_⟩
  obtain⟨sm,rx⟩:=yld x H2 hy;have r0':=r';have k':Kp σ ρ1 ρ' H1 H2:=k'.trans ⟨λa o e _=>sm a o e,λ_ h=>h⟩;have rd:RepDs K (hid H2 (hs F σ ρ')) ys acc:=rd.same (bT λa o e n=>⟨sm a o e,n⟩);have r':=r0'.grow sm;have src:=oS (K:=K) (F:=F) (σ:=σ) (ρ:=ρ') (H:=H2) n js;have rb:=r'.sub src hd';have hs2:=qe r' src;rw[cQ]at rb hs2;have pin:∀i a,(fS F σ ρ' H2 (bst n σ js) (blkE n js ρ')).pin i a->decide (n<=i)=true:=λi a h=>by
   rcases h with h | h
   ·exact decide_eq_true (oU h.1)
   ·exact h.elim
  have hlen:(bst n σ js).length=n+js.length:=jF;have ret:∀ σ2 ρ2 H3,Rel K (fS F σ ρ' H2 (bst n σ js) (blkE n js ρ')) σ2 ρ2 H3->σ2.length=(bst n σ js).length->σ2.drop n=capt σ js->(∀i,(gt ρ2 i).own=true->(gt (blkE n js ρ') i).own=true) ->
    Rel K F σ (back ρ' (js.map R.o) (ρ2.drop n)) H3/\Kp σ ρ' (back ρ' (js.map R.o) (ρ2.drop n)) H2 H3/\Same (hid H3 (hs (fS F σ ρ' H2 (bst n σ js) (blkE n js ρ')) σ2 ρ2)) (hid H3 (hs F σ (back ρ' (js.map R.o) (ρ2.drop n)))):=λσ2 ρ2 H3 rr hlen2 hdrop hown=>by
   obtain⟨f1,f2⟩:=rr.forget (n:=n) (by omega) λi a h=>of_decide_eq_true (pin i a h)
   rw[hdrop]at f1 f2;have f1':Rel K (fS F σ ρ' H2 (bst n σ js) ((blkR n js).map (cI ρ'))) (bst n σ js) (pc n .un++ρ2.drop n) H3:=by rw[cQ];exact f1
   have bk:=r'.back src hd' f1' λi hi=>by
    rw[cQ];rw[oG]at hi;split at hi
    ·cases hi
    ·rename_i hni;rw[k6,show n+(i - n)=i by omega]at hi;exact hown i hi
   have ln:(pc n Sv.un++ρ2.drop n).length=n+js.length:=by
    have:=rr.len;simp;omega
   rw[mx js ρ' n _ ln,BN (by simp),cQ]at bk;exact⟨bk.1,bk.2.1,f2.trans bk.2.2⟩
  refine hg _ (bst n σ js) (blkE n js ρ') H2 x _ _ _ pin rb (by rw[hs2];exact rx) h' λσ2 ρ2 h2 r2 l2 p2 o2=>?_;have hdrop:σ2.drop n=capt σ js:=by
   have:σ2.drop n=(bst n σ js).drop n:=by
    apply Bs;intro i;rw[zI,zI];exact p2 (n+i) (decide_eq_true (by omega))
   rw[this];unfold bst;rw[BN (by simp)]
  refine⟨hdrop,hc _ σ2 ρ2 H2 _ _ r2 h2 λb ρ3 H3 h3 r3 k3=>?_⟩;cases b with
  | false =>
   obtain⟨b1,b2,_⟩:=ret σ2 ρ3 H3 r3 l2 hdrop λi hi=>(o2 i (k3.sb i hi)).1
   exact⟨_,acc,b1,k'.trans b2,rd.same b2.vis,by omega,h3⟩
  | true =>
   refine he _ σ2 ρ3 H3 _ _ r3 h3 λr4 ρ4 v H4 h4 o4=>?_;obtain⟨r4',k4,i4⟩:=o4.inF;obtain⟨d,ρ5,h5,r5,k5,rv⟩:=qf r4' i4 h4;obtain⟨b1,b2,b3⟩:=ret σ2 ρ5 H4 r5 l2 hdrop λi hi=>(o2 i (k3.sb i (k4.sb i (k5.sb i hi)))).1
   exact⟨_,acc++[d],b1,k'.trans b2,(rd.same b2.vis).append (.one (rv.same b3)),by simp;omega,h5⟩
 ·left;rw[zD ge]at h';unfold fW at h';obtain⟨hcc,h'⟩:=h';refine⟨(w hcc i).2 ge,small (by omega),λl hl'=>?_⟩;exact((k.after k1).after k').new r' h' rd hl'
end
def outS:En->En->En
 | [],_=>[]
 | s::ss,ρ=>(if s.own=true then gt ρ 0 else s)::outS ss ρ.tail
theorem vx (ρ:En)(i:Nat):gt ρ.tail i=gt ρ (i+1):=by cases ρ <;> rfl
theorem oj:∀(ss ρ:En),(outS ss ρ).length=ss.length
 | [],_=>rfl
 | s::ss,ρ=>by simp[outS,oj ss]
theorem ng:∀(ss ρ:En) (i:Nat),gt (outS ss ρ) i=if(gt ss i).own=true then gt ρ i else gt ss i
 | [],ρ,i=>by simp[outS,gt,Sv.own]
 | s::ss,ρ,0=>rfl
 | s::ss,ρ,i+1=>by
  show gt (outS ss ρ.tail) i=_;rw[ng ss ρ.tail i,vx];rfl
def fin (pr:Nat->Bool):R->En->Ko->Prop
 | .d d,ρ,k=>k (.d d) ρ
 | .n s,ρ,k=>k (.n s) ρ
 | .o i,ρ,k=>(match gt ρ i with
  | .ow ds=>if pr i=true then k (.d (.lst ds)) (pt ρ i (.vl (.lst ds)))else k (.n (.ow ds)) (pt ρ i .un)
  | .vl d=>k (.d d) ρ
  | .dk kvs=>if pr i=true then False else k (.n (.dk kvs)) (pt ρ i .un)
  | .dt kvs=>if pr i=true then False else k (.n (.dt kvs)) (pt ρ i .un)
  | _=>False)
 | .t _,_,_=>False
 | .x s,ρ,k=>k (.x s) ρ
def wI (pr:Nat->Bool)(ss:En):Prop:=∀i,(gt ss i).own=true->pr i=true
section
variable {K:ac}{F:Fr}{σ σ':St}{ρ ρ':En}{H H':Hp}
open Classical in
noncomputable def del (H:Hp)(l:Addr):Hp:=λa=>if a=l then none else H a
open Classical in
theorem iL {l:Addr}:del H l l=none:=by unfold del;rw[if_pos rfl]
open Classical in
theorem j5 {a l:Addr}(h:a≠l):del H l a=H a:=by unfold del;rw[if_neg h]
theorem fB {l:Addr}{o:HO}(h:H l=some o):upd (del H l) l o=H:=by
 funext a;by_cases e:a=l
 ·subst e;rw[bh,h]
 ·rw[aU e,j5 e]
theorem Rel.take (r:Rel K F σ ρ H){i:Nat}(hi:(gt ρ i).own=true)(hm:∀a,¬F.pin i a):∃l o,H l=some o/\σ[i]? = some (some (.ref l))/\Rel K F σ (pt ρ i .un) (del H l)/\SvOk K (hid (del H l) (hs F σ (pt ρ i .un))) H (some (some (.ref l))) (gt ρ i):=by
 have s:=r.sl i;obtain⟨l,o,el,hl⟩:=s.alive hi;have own':∀j,(gt (pt ρ i .un) j).own=true->i≠j/\(gt ρ j).own=true:=λj h=>fv rfl h;have sub:∀a,bZ σ (pt ρ i .un) a->bZ σ ρ a/\a≠l:=λa ⟨j,hj,e⟩=>by
  obtain⟨ij,hj⟩:=own' j hj;exact⟨⟨j,hj,e⟩,λz=>ij (r.nd i j l hi hj el (z▸e))⟩
 have ol:bZ σ ρ l:=⟨i,hi,el⟩
 have vis:Same (hid H (hs F σ ρ)) (hid (del H l) (hs F σ (pt ρ i .un))):=bT λa u e n=>by
  have al:a≠l:=λz=>n (.inr (z▸ol));exact⟨by rw[j5 al];exact e,λz=>n (z.imp id λz=>(sub a z).1)⟩
 have h0:F.H0 l=none:=by
  rcases r.ow i l hi el with h | h
  ·exact absurd (Or.inl h.1) (hm l)
  ·exact h
 refine⟨l,o,hl,el,⟨by rw[ft,r.len],λa u e n=>?_,λa z=>?_,λa h=>r.zo a (sub a h).1,λj a hj e=>r.ow j a (own' j hj).2 e,r.mi,r.ml,λa z=>?_,λj k a hj hk ej ek=>r.nd j k a (own' j hj).2 (own' k hk).2 ej ek,λj=>?_⟩,?_⟩
 ·have al:a≠l:=λz=>by rw[z,h0]at e;cases e
  rw[j5 al];exact r.fr a u e n
 ·have al:a≠l:=λq=>r.zo l ol (q▸z);unfold Nt;rw[j5 al];exact r.zl a z
 ·have al:a≠l:=λq=>r.ml a z (q▸h0);rw[j5 al];exact r.ma a z
 ·by_cases ij:i=j
  ·subst ij;rw[jN ρ i _ (jc hi)];trivial
  ·rw[bU ρ i j _ ij];refine(r.sl j).keep vis λa u ho e h=>?_;have al:a≠l:=λz=>ij (r.nd i j l hi ho el (z▸e));rw[j5 al];exact h
 ·rw[el]at s;exact s.keep vis λ_ _ _ _ e=>e
theorem Rel.out {vs:List V}{ss:En}{Z:Addr->Prop}(r0:Rel K (F0 vs ss H Z) (vs.map some) ss H)(r:Rel K (F0 vs ss H Z) σ' ρ' H') :
  Rel K (F0 vs ss H Z) (vs.map some) (outS ss ρ') H'/\Same (hid H' (hs (F0 vs ss H Z) σ' ρ')) (hid H' (hs (F0 vs ss H Z) (vs.map some) (outS ss ρ')))/\∀i,(gt (outS ss ρ') i).own=true->(gt ss i).own=true:=by
 have own':∀i,(gt (outS ss ρ') i).own=true->(gt ss i).own=true/\(gt ρ' i).own=true:=λi h=>by
  rw[ng]at h;split at h
  ·rename_i q;exact⟨q,h⟩
  ·rename_i q;exact absurd h q
 have same:∀i a,(gt ss i).own=true->(vs.map some)[i]? = some (some (.ref a))->σ'[i]? = some (some (.ref a)):=λi a h e=>r.mi i a (.inl ⟨h,e⟩);have sub:∀a,bZ (vs.map some) (outS ss ρ') a->bZ σ' ρ' a/\bZ (vs.map some) ss a:=λa ⟨i,hi,e⟩=>by
  obtain⟨h1,h2⟩:=own' i hi;exact⟨⟨i,h2,same i a h1 e⟩,⟨i,h1,e⟩⟩
 have v1:Same (hid H' (hs (F0 vs ss H Z) σ' ρ')) (hid H' (hs (F0 vs ss H Z) (vs.map some) (outS ss ρ'))):=bT λa o e n=>⟨e,λz=>n (z.imp id λz=>(sub a z).1)⟩
 have v2:Same (hid H (hs (F0 vs ss H Z) (vs.map some) ss)) (hid H' (hs (F0 vs ss H Z) (vs.map some) (outS ss ρ'))):=bT λa o e n=>⟨r.fr a o e λz=>n (.inr z),λz=>n (z.imp id λz=>(sub a z).2)⟩
 refine⟨⟨by rw[oj,r0.len],r.fr,r.zl,λa h=>r.zo a (sub a h).1,λi a hi e=>.inl ⟨⟨(own' i hi).1,e⟩,i,(own' i hi).1,e⟩,r0.mi,r.ml,r.ma,λi j a hi hj ei ej=>r0.nd i j a (own' i hi).1 (own' j hj).1 ei ej,λi=>?_⟩,v1,λi h=>(own' i h).1⟩;rw[ng];split
 ·rename_i q;obtain⟨l,o,e1,e2⟩:=(r0.sl i).alive q;have:=same i l q e1;rw[e1,<- this];exact(r.sl i).keep v1 λ_ _ _ _ e=>e
 ·rename_i q;exact(r0.sl i).keep v2 λl o ho=>absurd ho q
theorem lZ:∀(ρ:En) (n i:Nat),gt (ρ++pc n .un) i=gt ρ i
 | [],n,i=>by
  show gt (pc n .un) i = .un;induction n generalizing i with
  | zero=>rfl
  | succ n ih=>cases i with
   | zero=>rfl
   | succ i=>exact ih i
 | s::ρ,n,0=>rfl
 | s::ρ,n,i+1=>lZ ρ n i
theorem Rel.ext (r:Rel K F σ ρ H)(n:Nat):Rel K F (σ++pc n none) (ρ++pc n .un) H:=by
 have s:∀ {i a},(gt ρ i).own=true->(σ++pc n none)[i]? = some (some (V.ref a))->σ[i]? = some (some (.ref a)):=λ{i a} h e=>by
  rwa [yx (by rw[r.len];exact jc h)]at e
 have sub:∀a,bZ (σ++pc n none) (ρ++pc n .un) a->bZ σ ρ a:=λa ⟨i,hi,e⟩=>by
  rw[lZ]at hi;exact⟨i,hi,s hi e⟩
 have vis:Same (hid H (hs F σ ρ)) (hid H (hs F (σ++pc n none) (ρ++pc n .un))):=bT λa o e n=>⟨e,λz=>n (z.imp id (sub a))⟩
 refine⟨by simp[r.len],r.fr,r.zl,λa h=>r.zo a (sub a h),λi a hi e=>?_,λi a h=>?_,r.ml,r.ma,λi j a hi hj ei ej=>?_,λi=>?_⟩
 ·rw[lZ]at hi;exact r.ow i a hi (s hi e)
 ·have:=r.mi i a h;rw[yx (kt.mp this).1];exact this
 ·rw[lZ]at hi hj;exact r.nd i j a hi hj (s hi ei) (s hj ej)
 ·rw[lZ];have q:=r.sl i;rcases pp i σ.length with lt | ge
  ·rw[yx lt];exact q.keep vis λ_ _ _ _ e=>e
  ·rw[ig ρ i (by rw[<- r.len];exact ge)];trivial
end
theorem rQ {K:ac}{ps:List Str}{S:ASp}(hS:∀ss q,S ss q->ss.length=ps.length):∀vs H Q E,spA K S vs H Q E->vs.length=ps.length:=λvs H Q E h=>by
 obtain⟨ss,Z,q,r,hs',_⟩:=h;have:=r.len;rw[db]at this;rw[this];exact hS ss q hs'
theorem tK {P:wl}{w:yF}{K:ac}{mg:Str->Option bd}{base:Heap}{x:Str}{st:Stmt}{N ps:List Str}{a:AS}(pr:Nat->Bool)(S:ASp){f:Addr}{cdv:bd}{A:yI}{outer:List Env}{s:dL}{H:Hp}{vs:List V}{Q:VK}{E:XK}
  (hbody:∃t,PSs (cxOf CX0 P w K mg base N x (aM st) f cdv A outer s H E).nox (cD st) t/\TSok K pr t a)
  (hS:∀ss q,S ss q->ss.length=ps.length/\wI pr ss/\a ⟨λρ=>q (.d .non) (outS ss ρ),λr ρ=>fin pr r ρ λr' ρ'=>q r' (outS ss ρ'),λ_=>False,λ_=>False⟩ (ss++pc (N.length - ps.length) .un))
  (h:spA K S vs H Q E):∃t,PSs (cxOf CX0 P w K mg base N x (aM st) f cdv A outer s H E).nox (cD st) t/\t {nx:=λ_ H'=>Q .non H',rt:=Q} (iu N vs) H:=by
 have hl:=rQ (λss q h=>(hS ss q h).1) _ _ _ _ h;obtain⟨ss,Z,q,r0,hs',post⟩:=h;obtain⟨h1,h2,h3⟩:=hS ss q hs';obtain⟨t,ht,tok⟩:=hbody;refine⟨t,ht,?_⟩;have hp:∀i a,(F0 vs ss H Z).pin i a->pr i=true:=λi a h=>by
  rcases h with h | h
  ·exact h2 i h.1
  ·exact h.elim
 unfold iu;rw[hl];have fin_d:∀ σ' ρ' v H' d,q (.d d) (outS ss ρ')->Rel K (F0 vs ss H Z) σ' ρ' H'->RepD K (hid H' (hs (F0 vs ss H Z) σ' ρ')) v d->Q v H':=λσ' ρ' v H' d hq r rd=>by
  obtain⟨o1,o2,o3⟩:=r0.out r;exact post (.d d) _ v H' hq o3 (λi z=>nomatch z) ⟨o1,rd.same o2⟩
 refine tok (F0 vs ss H Z) _ _ H _ _ hp (r0.ext _) h3 ⟨λσ' ρ' H' hq r=>?_,λ_ _ _ z=>z.elim,λ_ _ _ z=>z.elim,λσ' ρ' rr v H' hq r=>?_⟩
 ·exact fin_d σ' ρ' _ H' .non hq r (by unfold RepD;rfl)
 ·cases rr with
  | d d=>exact fin_d σ' ρ' v H' d hq r.1 r.2
  | t n=>exact hq.elim
  | x s =>
   obtain⟨ra,rb,rc⟩:=r;obtain⟨o1,o2,o3⟩:=r0.out ra;exact post (.x s) _ v H' hq o3 (λi z=>nomatch z) ⟨o1,rb,rc.keep o2 λl o ho=>by rw[rb]at ho;cases ho⟩
  | n sv =>
   obtain⟨Hb,l,o,a1,a2,a3,a4,a5,a6⟩:=r;obtain⟨o1,o2,o3⟩:=r0.out a1;exact post (.n sv) _ v H' hq o3 (λi z=>nomatch z) ⟨Hb,l,o,o1,a2,a3.keep o2 λ_ _ _ _ e=>e,a4,a5,a6⟩
  | o i =>
   obtain⟨r,ei⟩:=r;have hq':(match gt ρ' i with
    | .ow ds=>if pr i=true then q (.d (.lst ds)) (outS ss (pt ρ' i (.vl (.lst ds))))else q (.n (.ow ds)) (outS ss (pt ρ' i .un))
    | .vl d=>q (.d d) (outS ss ρ')
    | .dk kvs=>if pr i=true then False else q (.n (.dk kvs)) (outS ss (pt ρ' i .un))
    | .dt kvs=>if pr i=true then False else q (.n (.dt kvs)) (outS ss (pt ρ' i .un))
    | _=>False):=hq
   clear hq;split at hq'
   ·rename_i ds hg;split at hq'
    ·obtain⟨l,el,r2,k2,rd⟩:=r.frz hg;rw[ei]at el;injection el with el;injection el with el;subst el;exact fin_d σ' _ _ H' _ hq' r2 rd
    ·rename_i hpr;have ho:(gt ρ' i).own=true:=by rw[hg];rfl
     obtain⟨l,o,hl',el,r2,sv⟩:=r.take ho λa z=>hpr (hp i a z)
     rw[ei]at el;injection el with el;injection el with el;subst el;obtain⟨o1,o2,o3⟩:=r0.out r2;rw[hg]at sv;refine post (.n (.ow ds)) _ _ H' hq' o3 (λi z=>nomatch z) ⟨del H' l,l,o,o1,rfl,?_,iL,(fB hl').symm,rfl⟩;rw[fB hl'];exact sv.keep o2 λ_ _ _ _ e=>e
   ·rename_i d hg;have s:=r.sl i;rw[hg,ei]at s;obtain⟨x,e1,rd⟩:=s;injection e1 with e1;injection e1 with e1;subst e1;exact fin_d σ' ρ' _ H' d hq' r rd
   ·rename_i kvs hg;split at hq'
    ·exact hq'.elim
    ·rename_i hpr;have ho:(gt ρ' i).own=true:=by rw[hg];rfl
     obtain⟨l,o,hl',el,r2,sv⟩:=r.take ho λa z=>hpr (hp i a z)
     rw[ei]at el;injection el with el;injection el with el;subst el;obtain⟨o1,o2,o3⟩:=r0.out r2;rw[hg]at sv;refine post (.n (.dk kvs)) _ _ H' hq' o3 (λi z=>nomatch z) ⟨del H' l,l,o,o1,rfl,?_,iL,(fB hl').symm,rfl⟩;rw[fB hl'];exact sv.keep o2 λ_ _ _ _ e=>e
   ·rename_i kvs hg;split at hq'
    ·exact hq'.elim
    ·rename_i hpr;have ho:(gt ρ' i).own=true:=by rw[hg];rfl
     obtain⟨l,o,hl',el,r2,sv⟩:=r.take ho λa z=>hpr (hp i a z)
     rw[ei]at el;injection el with el;injection el with el;subst el;obtain⟨o1,o2,o3⟩:=r0.out r2;rw[hg]at sv;refine post (.n (.dt kvs)) _ _ H' hq' o3 (λi z=>nomatch z) ⟨del H' l,l,o,o1,rfl,?_,iL,(fB hl').symm,rfl⟩;rw[fB hl'];exact sv.keep o2 λ_ _ _ _ e=>e
   ·exact hq'.elim
theorem DefN.aok {P:wl}{w:yF}{K:ac}{mg:Str->Option bd}{base:Heap}{x:Str}{st:Stmt}{N ps:List Str}{k:Nat}{a:AS}(D:DefN K mg x st ps)(Sc:bG N ps (aM st))(pr:Nat->Bool)(S:ASp)
  (hbody:∀(f:Addr) (cdv:bd) (A:yI) (outer:List Env) (s:dL) (H:Hp) (E:XK),Room k (A.deeper (A0 x (aM st) s.heap.objs.size f cdv)) ->
   ∃t,PSs (cxOf CX0 P w K mg base N x (aM st) f cdv A outer s H E).nox (cD st) t/\TSok K pr t a)
  (hS:∀ss q,S ss q->ss.length=ps.length/\wI pr ss/\a ⟨λρ=>q (.d .non) (outS ss ρ),λr ρ=>fin pr r ρ λr' ρ'=>q r' (outS ss ρ'),λ_=>False,λ_=>False⟩ (ss++pc (N.length - ps.length) .un)):OkN P w K mg base (k+1) x ps (spA K S) :=
 D.ok Sc (rQ λss q h=>(hS ss q h).1) λf cdv A outer s H vs Q E hr h=>tK pr S (hbody f cdv A outer s H E hr) hS h
def SLaw:ASp:=λss q=>∃ns:List Int,ns.length<=63/\ss=[.sc ns]/\∀ss',q (.d (.bl true)) ss'
theorem wU {P:wl}{w:yF}{K:ac}{mg:Str->Option bd}{base:Heap}{k:Nat}{x:Str}{ps:List Str}(h:OkN P w K mg base k x ps (spA K SLaw)):OkN P w K mg base k x ps (uW K):=by
 obtain⟨f,fd,a1,a2,a3,a4,g⟩:=h.ex;refine⟨f,fd,a1,a2,a3,a4,g.imp λvs H Q E hq=>?_⟩;obtain⟨a,ns,rfl,sq,hl,k⟩:=hq;refine⟨[.sc ns],λ_=>False,λr _=>r = .d (.bl true),⟨rfl,λa o e _=>e,λa z=>z.elim,λa _ z=>z,λi a hi _=>?_,λi a h=>?_,λa h=>?_,λa h=>?_,λi j a hi=>?_,λi=>?_⟩,⟨ns,hl,rfl,λ_=>rfl⟩,λr ss' v H' e1 _ _ rr=>?_⟩
 ·exfalso;cases i with
  | zero=>cases hi
  | succ i=>cases hi
 ·rcases h with h | h
  ·cases i with
   | zero=>cases h.1
   | succ i=>cases h.1
  ·exact h.elim
 ·obtain⟨i,hi,_⟩:=h;cases i with
  | zero=>cases hi
  | succ i=>cases hi
 ·obtain⟨i,hi,_⟩:=h;cases i with
  | zero=>cases hi
  | succ i=>cases hi
 ·exfalso;cases i with
  | zero=>cases hi
  | succ i=>cases hi
 ·cases i with
  | succ i=>trivial
  | zero =>
   refine⟨a,rfl,?_⟩;refine(show Same H (hid H _)from λb o e=>dU (λz=>?_) e).seq sq;rcases z with z | ⟨i,hi,_⟩
   ·exact z
   ·cases i with
    | zero=>cases hi
    | succ i=>cases hi
 ·subst e1;obtain⟨_,rd⟩:=rr;unfold RepD at rd;subst rd;exact k H'
def qh (K:ac):Sp:=λvs H Q _=>∃(t c:Addr) (m sp lf:Int) (ns:List Int) (n:Nat),vs=[.ref t,.int m]/\H t=some (.dK (cE c sp lf))/\SqL K H c (ns.map V.int)/\0<=sp/\sp<=n/\0<=lf/\n<1000000000000/\Dv m /\
 ∀(r:Nat) (sp' lf':Int),(r:Int)<m->0<=sp'->sp'<=(n+1:Nat)->0<=lf'->Q (.int (r:Nat)) (upd H t (.dK (cE c sp' lf')))
def qg (K:ac):Sp:=λvs H Q _=>∃(a:Addr) (ns:List Int),vs=[.ref a]/\SqL K H a (ns.map V.int) /\
 ∀t c,H t=none->H c=none->t≠c->Q (.ref t) (upd (upd H c (.lst ((ns.take 63).map V.int))) t (.dK (cE c 0 0)))
def vM:ASp:=λss q=>∃ns:List Int,ss=[.sc ns]/\q (.n (.tp 0)) [.sc ns]
def tO:ASp:=λss q=>∃(n:Nat) (m:Int),ss=[.tp n,.vl (.int m)]/\n<1000000000000/\Dv m/\∀r:Nat,(r:Int)<m->q (.d (.int r)) [.tp (n+1),.vl (.int m)]
theorem OkN.imp {P:wl}{w:yF}{K:ac}{mg:Str->Option bd}{base:Heap}{k:Nat}{x:Str}{ps:List Str}{sp sp':Sp}(h:OkN P w K mg base k x ps sp)(i:∀vs H Q E,sp' vs H Q E->sp vs H Q E):OkN P w K mg base k x ps sp':=by
 obtain⟨f,fd,a1,a2,a3,a4,g⟩:=h.ex;exact⟨f,fd,a1,a2,a3,a4,g.imp i⟩
theorem xB {vs:List V}{s:Sv}{F:Fr}{K:ac}{H:Hp}(r:Rel K F (vs.map some) [s] H):∃x,vs=[x]:=by
 have:=r.len
 match vs,this with
 | [x],_=>exact⟨x,rfl⟩
theorem xA {vs:List V}{s s':Sv}{F:Fr}{K:ac}{H:Hp}(r:Rel K F (vs.map some) [s,s'] H):∃x y,vs=[x,y]:=by
 have:=r.len
 match vs,this with
 | [x,y],_=>exact⟨x,y,rfl⟩
theorem vD {K:ac}(vs:List V)(H:Hp)(Q:VK)(E:XK)(h:spA K tO vs H Q E):qh K vs H Q E:=by
 obtain⟨ss,Z,q,r,⟨n,m,rfl,hn,hm,hq⟩,post⟩:=h;obtain⟨x,y,rfl⟩:=xA r;obtain⟨t,c,ns,sp,lf,e0,ht,hc,h1,h2,h3⟩:=r.sl 0;obtain⟨y',e1,ry⟩:=r.sl 1;unfold RepD at ry;injection e0 with e0;injection e0 with e0;subst e0;injection e1 with e1;injection e1 with e1;subst e1 ry;refine⟨t,c,m,sp,lf,ns,n,rfl,ht,cn.seq hc,h1,h2,h3,hn,hm,λrr sp' lf' hr a1 a2 a3=>?_⟩;have hw:=r.write (i:=0) (l:=t) (o:=.dK (cE c sp' lf')) (s:=.tp (n+1)) rfl rfl rfl ⟨t,c,ns,sp',lf',rfl,bh,hc,a1,a2,a3⟩;refine post (.d (.int rr)) [.tp (n+1),.vl (.int m)] _ _ (hq rr hr) (λi h=>?_) (λi z=>nomatch z) ⟨hw.1,by unfold RepD;rfl⟩
 match i,h with
 | 0,_=>rfl
 | 1,h=>cases h
 | i+2,h=>cases h
theorem uP {K:ac}(vs:List V)(H:Hp)(Q:VK)(E:XK)(h:spA K vM vs H Q E):qg K vs H Q E:=by
 obtain⟨ss,Z,q,r,⟨ns,rfl,hq⟩,post⟩:=h;obtain⟨x,rfl⟩:=xB r;obtain⟨a,e0,sq⟩:=r.sl 0;injection e0 with e0;injection e0 with e0;subst e0;refine⟨a,ns,rfl,cn.seq sq,λt c ht hc htc=>?_⟩;have rc:=r.fresh (o:=.lst ((ns.take 63).map V.int)) hc;have kc:Kp ([V.ref a].map some) [.sc ns] [.sc ns] H (upd H c (.lst ((ns.take 63).map V.int))):=Kp.fresh hc;have ht':(upd H c (.lst ((ns.take 63).map V.int))) t=none:=by rw[aU htc];exact ht
 refine post (.n (.tp 0)) _ _ _ hq (λi h=>h) (λi z=>nomatch z) ⟨_,t,_,rc,rfl,⟨t,c,ns.take 63,0,0,rfl,bh,SqL.of (dU (jw r hc) bh),by decide,by decide,by decide⟩,ht',rfl,rfl⟩
section
variable {K:ac}{F:Fr}{σ:St}{ρ ρ':En}{H H':Hp}{ta tb tc:TE}{a b c:AE}{rr rr':R2}{g g':R->R->AE}
def gNeg:R->AE:=λr ρ q=>match r with
 | .d (.int i)=>q (.d (.int (-i))) ρ
 | _=>False
theorem uN (ha:TEok K ta a):TEok K (tUn (rU λi=>.int (-i)) ta) (aUn gNeg a):=by
 intro F σ ρ H q Q r h k;refine ha F σ ρ H _ _ r h λr1 ρ1 x H1 h1 o1=>?_;obtain⟨r1',k1,i1⟩:=o1.inF;unfold gNeg at h1;split at h1
 ·rename_i i e;rw[e]at i1;exact⟨i,i1.int,(k.after k1).int r1' h1⟩
 ·exact h1.elim
def vw:D->Bool
 | .non=>true
 | _=>false
def isEx (ρ:En):R->Bool
 | .o i=>(match gt ρ i with | .ex _ _=>true | _=>false)
 | _=>false
def gIsN (neg:Bool):R->R->AE:=λr1 r2 ρ q=>match view ρ r1,r2 with
 | some d,.d .non=>q (.d (.bl (if neg then !vw d else vw d))) ρ
 | none,.d .non=>isEx ρ r1=true/\q (.d (.bl neg)) ρ
 | _,_=>False
theorem sX {F:Fr}{σ:St}{ρ:En}{H:Hp}{x:V}{r1:R}(a:Rel K F σ ρ H)(h1:InF K F σ ρ H x r1)(h:isEx ρ r1=true):∃e,x = .ref e:=by
 cases r1 with
 | d d=>cases h
 | n s=>cases h
 | t n=>cases h
 | x n=>cases h
 | o i =>
  have q:=a.sl i;cases hg:gt ρ i with
  | ex C fs =>
   rw[hg]at q;obtain⟨e,od,e1,_⟩:=q;rw[show σ[i]? = _ from h1]at e1;injection e1 with e1;injection e1 with e1;exact⟨e,e1⟩
  | _=>exact absurd h (by show ¬(match gt ρ i with | .ex _ _=>true | _=>false)=true;rw[hg];exact λz=>nomatch z)
theorem qU {x:V}{d:D}(h:RepD K H x d):decide (x=V.non)=vw d:=by
 cases d with
 | non=>unfold RepD at h;subst h;rfl
 | bl b=>unfold RepD at h;subst h;rfl
 | int b=>unfold RepD at h;subst h;rfl
 | str b=>unfold RepD at h;subst h;rfl
 | tup ds=>unfold RepD at h;obtain⟨a,vs,rfl,_⟩:=h;rfl
 | lst ds=>unfold RepD at h;obtain⟨a,vs,rfl,_⟩:=h;rfl
theorem gG:OpOk K (λx y H Q=>y = .non/\Q (.bl (!decide (x = .non))) H) (gIsN true):=by
 intro F σ ρ H x y r1 r2 q Q a h1 h2 h b;unfold gIsN at h;split at h
 ·rename_i d e;unfold InF RepD at h2;refine⟨h2,?_⟩;rw[qU (fH a h1 e)];exact b.bl a h
 ·unfold InF RepD at h2;obtain⟨h',h⟩:=h;obtain⟨e,rfl⟩:=sX a h1 h';refine⟨h2,?_⟩;rw[decide_eq_false (λz=>nomatch z)];exact b.bl a h
 ·exact h.elim
end
theorem dW {c:En->Prop}{g:AG}{b:AS}{e:lz}(I:Nat->En->Prop){ds:List D}(hc:∀k ρ,k<=ds.length->I k ρ->c ρ)
  (hs:∀(k:Nat) d ρ (N:En->Prop),ds[k]? = some d->I k ρ->(∀ ρ',I (k+1) ρ'->N ρ')->g d ρ λρ1=>b {nx:=N,ct:=N,bk:=e.nx,rt:=e.rt} ρ1) (hd:∀ ρ,I ds.length ρ->e.nx ρ):∀ ρ,I 0 ρ->forA c g b e ds ρ:=by
 have go:∀(es:List D) (k:Nat),ds.drop k=es->k<=ds.length->∀ ρ,I k ρ->forA c g b e es ρ:=by
  intro es;induction es with
  | nil =>
   intro k h hk ρ i;have:ds.length<=k:=DG.mp h;have:k=ds.length:=by omega
   subst this;unfold forA;exact⟨hc _ ρ (lw _) i,hd ρ i⟩
  | cons d es ih =>
   intro k h hk ρ i;have lt:k<ds.length:=by
    rcases pp k ds.length with q | q
    ·exact q
    ·rw[zD q]at h;cases h
   rw[zr lt]at h;injection h with h1 h2;unfold forA;exact⟨hc k ρ hk i,hs k d ρ _ (by rw[<- h1];exact bv lt) i (λρ' i'=>ih (k+1) h2 lt ρ' i')⟩
 exact go ds 0 rfl (yz _)
theorem eC {n:Nat}{js:List Nat}{c:En->Prop}{g:AG}{tc:AT}{te:AE}{q:List D->En->Prop}(I:Nat->List D->En->Prop){ds:List D}(hc:∀k acc ρ,k<=ds.length->I k acc ρ->c ρ)
  (hs:∀(k:Nat) d acc ρ (N:List D->En->Prop),ds[k]? = some d->I k acc ρ->(∀acc' ρ',I (k+1) acc' ρ'->N acc' ρ') ->
   g d (blkE n js ρ) λρ1=>tc ρ1 λb ρ2=>if b=true then te ρ2 λr ρ3=>sto [r.frz] ρ3 λes ρ4=>N (acc++es) (back ρ (js.map R.o) (ρ4.drop n))else N acc (back ρ (js.map R.o) (ρ2.drop n)))
  (hd:∀acc ρ,I ds.length acc ρ->q acc ρ):∀ ρ,I 0 [] ρ->fW n js c g tc te q ds [] ρ:=by
 have go:∀(es:List D) (k:Nat),ds.drop k=es->k<=ds.length->∀acc ρ,I k acc ρ->fW n js c g tc te q es acc ρ:=by
  intro es;induction es with
  | nil =>
   intro k h hk acc ρ i;have:ds.length<=k:=DG.mp h;have:k=ds.length:=by omega
   subst this;unfold fW;exact⟨hc _ acc ρ (lw _) i,hd acc ρ i⟩
  | cons d es ih =>
   intro k h hk acc ρ i;have lt:k<ds.length:=by
    rcases pp k ds.length with q | q
    ·exact q
    ·rw[zD q]at h;cases h
   rw[zr lt]at h;injection h with h1 h2;unfold fW;exact⟨hc k acc ρ hk i,hs k d acc ρ (λacc' ρ'=>fW n js c g tc te q es acc' ρ') (by rw[<- h1];exact bv lt) i (λacc' ρ' i'=>ih (k+1) h2 lt acc' ρ' i')⟩
 exact go ds 0 rfl (yz _) []
section
variable {X:Cx}(K:ac)
def wz (K:ac):R2:=λx y H Q=>∃a b xs ys,x = .ref a/\y = .ref b/\SqL K H a xs/\SqL K H b ys/\xs.length+ys.length<=1000000/\∀p,H p=none->Q (.ref p) (upd H p (.lst (xs++ys)))
theorem mR (hK:X.K=K:=by rfl):OpR X (Aj .Add) (wz K):=by
 subst hK;intro pins s σ H x y v u Q I rx ry h;obtain⟨a,b,xs,ys,rfl,rfl,ha,hb,hz,q⟩:=h;cases rx
 cases ry
 obtain⟨its,r1,p1,_⟩:=I.list ha;obtain⟨its2,r2,p2,_⟩:=I.list hb;have hz':its.length+its2.length<=ww:=small (by rw[<- r1.length,<- r2.length];exact hz);obtain⟨⟨cls,dd,data,sl⟩,ho,hc,n,hd⟩:=p1.isList;obtain⟨⟨cls2,dd2,data2,sl2⟩,ho2,hc2,n2,hd2⟩:=p2.isList;simp only at hc hd hc2 hd2;subst hc hd hc2 hd2;refine CW ⟨_,ho,rfl⟩ ⟨_,ho2,rfl⟩ noFill_list_add seq_list_add PySem.F.slot_list_add PySem.F.entry_list_add (PySem.F.args_list_add_2 _ _) (list_addW a b its.toArray its2.toArray n n2 dd dd2 sl sl2 (by rw[li,li];exact hz')) ⟨ho,ho2,?_⟩;refine⟨.ref s.heap.objs.size,_,I.laid (t':=s.toks) (o:=.lst (xs++ys)) (λb ob q=>im _ q) (lw _) ?_,rfl,q _ (I.hok.fresh (lw _))⟩;refine⟨by rw[ms];exact small hz,_,0,r1.append r2,?_⟩;rw[show(its++its2).toArray=its.toArray++its2.toArray by simp];exact xL _ rfl
def tRev (K:ac)(te:TE)(ts:TO):TE:=λσ H Q=>te σ H λx H1=>ts σ H1 λo H2=>o=some (-1)/\∃a xs,x = .ref a/\SqL K H2 a xs/\∀p,H2 p=none->Q (.ref p) (upd H2 p (.lst xs.reverse))
variable {e st:Expr}{te:TE}{ts:TO}{pos p2:Pos}
theorem u9 (he:PE X e te)(hst:PO X (some st) ts)(hK:X.K=K:=by rfl){ops:bd->bd->List bd}(htl:∀v sl,Ci (.Slice none none (some st) p2) false v sl=E7 (ops v sl) (Co v sl)):PE X (.Subscript e (.Slice none none (some st) p2) pos) (tRev K te ts):=by
 subst hK;intro pins s σ H Q I h;refine Ds (thn (he pins s σ H _ I h) λv s1 ⟨x,H1,I1,r1,q1⟩=>?_);refine wpAny_Slice ?_;rw[DM];refine wv (wv ?_);refine thn (hst pins s1 σ H1 _ I1 q1) λvk s3 ⟨o,H3,I3,pk,q3⟩=>?_;obtain⟨rfl,a,xs,rfl,hx,q⟩:=q3;cases r1
 have I4:Inv X pins σ H3 {s3 with heap:=s3.heap.push {cls:=.type "slice",data:=.fields #[.none,.none,vk]}}:=I3.kept (t':=s3.toks) λb ob q=>im _ q;obtain⟨its,r,ht,hz⟩:=I4.list hx;have hg:o0 (sK X.prog X.w) X.A (Co (.ref a) (.ref s3.heap.objs.size)) (EP X pins σ Q) X.xe {s3 with heap:=s3.heap.push {cls:=.type "slice",data:=.fields #[.none,.none,vk]}}:=by
  refine DJ ht.isList (CO ..) .none .none pk (by simp) ?_ (by rw[li,<- r.length];exact hz);rw[PySem.W.krv_pick];refine⟨.ref _,_,I4.laid (t':=s3.toks) (o:=.lst xs.reverse) (λb ob q=>im _ q) (lw _) ?_,rfl,q _ (I4.hok.fresh (lw _))⟩;refine⟨by rw[zt];exact hz,its.reverse,0,?_,?_⟩
  ·have rev:∀ {xs:List V} {us:List bd},Vals xs us->Vals xs.reverse us.reverse:=by
    intro xs us h;induction h with
    | nil=>exact .nil
    | cons a _ ih=>rw[Br,Br];exact ih.append (.cons a .nil)
   exact rev r
  ·exact xL _ rfl
 show o0 (sK X.prog X.w) X.A (Cw e (.Slice none none (some st) p2) (.ref a) (.ref s3.heap.objs.size)) (EP X pins σ Q) X.xe {s3 with heap:=s3.heap.push {cls:=.type "slice",data:=.fields #[.none,.none,vk]}};exact tail_any ht.isList.typeIs CV.lookup hg (htl _ _)
end
section
variable {K:ac}{ta te:TE}{a ae:AE}{ts:TA}{as:AA}
def gCat:R->R->AE:=λr1 r2 ρ q=>match view ρ r1,view ρ r2 with
 | some (.lst ds),some (.lst es)=>ds.length+es.length<=1000000/\q (.f (ds++es)) ρ
 | _,_=>False
theorem mT:OpOk K (wz K) gCat:=by
 intro F σ ρ H x y r1 r2 q Q a h1 h2 h b;unfold gCat at h;split at h
 ·rename_i ds es e1 e2;obtain⟨l,vs,rfl,sq,rd⟩:=dM a h1 e1;obtain⟨l2,vs2,rfl,sq2,rd2⟩:=dM a h2 e2;exact⟨l,l2,vs,vs2,rfl,rfl,sq,sq2,by rw[rd.length,rd2.length];exact h.1,λp hp=>b.new a h.2 (rd.append rd2) hp⟩
 ·exact h.elim
def aRev (a:AE)(o:AO):AE:=λρ q=>a ρ λr ρ1=>o ρ1 λk ρ2=>k=some (-1)/\(match view ρ2 r.frz with
 | some (.lst ds)=>q (.f ds.reverse) ρ2
 | _=>False)
theorem RepDs.reverse {H:Hp}:∀ {vs:List V} {ds:List D},RepDs K H vs ds->RepDs K H vs.reverse ds.reverse
 | [],[],_=>.nil
 | v::vs,d::ds,h=>by
  unfold RepDs at h;rw[Br,Br];exact(RepDs.reverse h.2).append (.one h.1)
 | [],d::ds,h=>by unfold RepDs at h;exact h.elim
 | v::vs,[],h=>by unfold RepDs at h;exact h.elim
theorem uM {to:TO}{ao:AO}(ha:TEok K ta a)(ho:TOok K to ao):TEok K (tRev K ta to) (aRev a ao):=by
 intro F σ ρ H q Q r h k;refine ha F σ ρ H _ _ r h λr1 ρ1 x H1 h1 rel1=>?_;obtain⟨r',k1,i1⟩:=rel1.inF;refine ho F σ ρ1 H1 _ _ r' h1 λo ρ2 H2 h2 r2 k2=>?_;obtain⟨rfl,h2⟩:=h2;split at h2
 ·rename_i ds e;obtain⟨p,vs,rfl,sq,rd⟩:=dM r2 (i1.keep k2) e;exact⟨rfl,p,vs,rfl,sq,λp' hp=>((k.after k1).after k2).new r2 h2 rd.reverse hp⟩
 ·exact h2.elim
end
abbrev nD (n:Nat):D:=.int (n:Nat)
abbrev nv (n:Nat):Sv:=.vl (.int (n:Nat))
def ownB (pr:Nat->Bool):En->Nat->Bool
 | [],_=>true
 | s::ss,i=>(!s.own||pr i)&&ownB pr ss (i+1)
theorem mQ {pr:Nat->Bool}:∀ {ss:En} {j:Nat},ownB pr ss j=true->∀i,(gt ss i).own=true->pr (j+i)=true
 | [],_,_,i,h=>by cases h
 | s::ss,j,hb,0,h=>by
  simp only[ownB,y4,EJ,Ai]at hb;rcases hb.1 with q | q
  ·rw[show(gt (s::ss) 0)=s from rfl,q]at h;cases h
  ·exact q
 | s::ss,j,hb,i+1,h=>by
  simp only[ownB,y4]at hb;have:=mQ hb.2 i h;rwa [show j+1+i=j+(i+1)by omega]at this
theorem DefN.aok2 {P:wl}{w:yF}{K:ac}{mg:Str->Option bd}{base:Heap}{x:Str}{st:Stmt}{N ps:List Str}{k:Nat}{a:AS}(D:DefN K mg x st ps)(Sc:bG N ps (aM st))(pr:Nat->Bool)(us:En)(S:ASp)(hus:pc (N.length - ps.length) Sv.un=us)
  (hbody:∀(f:Addr) (cdv:bd) (A:yI) (outer:List Env) (s:dL) (H:Hp) (E:XK),Room k (A.deeper (A0 x (aM st) s.heap.objs.size f cdv)) ->
   ∃t,PSs (cxOf CX0 P w K mg base N x (aM st) f cdv A outer s H E).nox (cD st) t/\TSok K pr t a)
  (hS:∀ss q,S ss q->ss.length=ps.length/\ownB pr ss 0=true/\a ⟨λρ=>q (.d .non) (outS ss ρ),λr ρ=>fin pr r ρ λr' ρ'=>q r' (outS ss ρ'),λ_=>False,λ_=>False⟩ (ss++us)):OkN P w K mg base (k+1) x ps (spA K S) :=
 D.aok Sc pr S hbody λss q h=>⟨(hS ss q h).1,λi hi=>by have:=mQ (hS ss q h).2.1 i hi;rwa [zw]at this,by rw[hus];exact(hS ss q h).2.2⟩
theorem iI {lo:Int}{n k:Nat}{d:D}(h:(rngD lo n)[k]? = some d):k<n/\d = .int (lo+k):=by
 unfold rngD at h;rw[lm]at h;obtain⟨j,e1,e2⟩:=wp.mp h;have lt:k<n:=by
  rcases pp k n with q | q
  ·exact q
  ·rw[yS (by simpa using q)]at e1;cases e1
 rw[yH lt]at e1;cases e1
 exact⟨lt,e2.symm⟩
abbrev uI (n:Nat)(js:List Nat)(g:AG)(tc:AT)(te:AE)(ρ:En)(d:D)(acc:List D)(N:List D->En->Prop):Prop :=
 g d (blkE n js ρ) λρ1=>tc ρ1 λb ρ2=>if b=true then te ρ2 λr ρ3=>sto [r.frz] ρ3 λes ρ4=>N (acc++es) (back ρ (js.map R.o) (ρ4.drop n))else N acc (back ρ (js.map R.o) (ρ2.drop n))
section
variable {n:Nat}{js:List Nat}{c:En->Prop}{g:AG}{tc:AT}{te:AE}{q:List D->En->Prop}
theorem mf {lo:Int}{m:Nat}(f:Nat->D){ρ:En}(hc:c ρ)(hs:∀k acc (N:List D->En->Prop),k<m->N (acc++[f k]) ρ->uI n js g tc te ρ (.int (lo+k)) acc N)
  (hd:q ((ym m).map f) ρ):fW n js c g tc te q (rngD lo m) [] ρ:=by
 refine eC (λk acc ρ'=>k<=m/\ρ'=ρ/\acc=(ym k).map f) (λk acc ρ' _ h=>h.2.1▸hc) ?_ ?_ ρ ⟨yz _,rfl,rfl⟩
 ·rintro k d acc _ N hk ⟨_,rfl,rfl⟩ hN;obtain⟨lt,rfl⟩:=iI hk;refine hs k _ N lt (hN _ _ ⟨lt,rfl,?_⟩);rw[zF,yo];rfl
 ·rintro acc _ ⟨_,rfl,rfl⟩;rw[cz];exact hd
theorem gU {α:Type}(h:α->D)(f:α->D){xs:List α}{ρ:En}(hc:c ρ)(hs:∀x acc (N:List D->En->Prop),x∈xs->N (acc++[f x]) ρ->uI n js g tc te ρ (h x) acc N)
  (hd:q (xs.map f) ρ):fW n js c g tc te q (xs.map h) [] ρ:=by
 refine eC (λk acc ρ'=>ρ'=ρ/\acc=(xs.take k).map f) (λk acc ρ' _ h=>h.1▸hc) ?_ ?_ ρ ⟨rfl,rfl⟩
 ·rintro k d acc _ N hk ⟨rfl,rfl⟩ hN;rw[lm]at hk;obtain⟨x,e1,rfl⟩:=wp.mp hk;refine hs x _ N (yp e1) (hN _ _ ⟨rfl,?_⟩);rw[Ah,e1,B7,yo];rfl
 ·rintro acc _ ⟨rfl,rfl⟩;rw[db,BA];exact hd
end
section
variable {c:En->Prop}{g:AG}{b:AS}{e:lz}
theorem oJ {lo:Int}{m:Nat}(I:Nat->En->Prop)(hc:∀k ρ,I k ρ->c ρ)(hs:∀(k:Nat) ρ (N:En->Prop),k<m->I k ρ->(∀ ρ',I (k+1) ρ'->N ρ')->g (.int (lo+k)) ρ λρ1=>b {nx:=N,ct:=N,bk:=e.nx,rt:=e.rt} ρ1)
  (hd:∀ ρ,I m ρ->e.nx ρ) {ρ:En} (h0:I 0 ρ):forA c g b e (rngD lo m) ρ:=by
 refine dW I (λk ρ _ h=>hc k ρ h) (λk d ρ N hk h hN=>?_) (λρ h=>hd ρ (by rwa [cz]at h)) ρ h0;obtain⟨lt,rfl⟩:=iI hk;exact hs k ρ N lt h hN
theorem iK {α:Type}(h:α->D){xs:List α}(I:Nat->En->Prop)(hc:∀k ρ,I k ρ->c ρ)(hs:∀(k:Nat) x ρ (N:En->Prop),xs[k]? = some x->I k ρ->(∀ ρ',I (k+1) ρ'->N ρ')->g (h x) ρ λρ1=>b {nx:=N,ct:=N,bk:=e.nx,rt:=e.rt} ρ1)
  (hd:∀ ρ,I xs.length ρ->e.nx ρ) {ρ:En} (h0:I 0 ρ):forA c g b e (xs.map h) ρ:=by
 refine dW I (λk ρ _ h=>hc k ρ h) (λk d ρ N hk h' hN=>?_) (λρ h=>hd ρ (by rwa [db]at h)) ρ h0;rw[lm]at hk;obtain⟨x,e1,rfl⟩:=wp.mp hk;exact hs k x ρ N e1 h' hN
end
theorem tJ {xs:List Nat}{i:Nat}(h:i<xs.length):atI (natsD xs) ((i:Nat):Int)=some (.int (xs.getD i 0:Nat)):=by
 refine lq ?_;unfold natsD;rw[lm,bv h];simp[h]
theorem bb {r1:R}{ρ:En}{q:Ko}{xs:List Nat}{i:Nat}(hv:view ρ r1=some (.lst (natsD xs)))(h:i<xs.length)(hq:q (.d (.int (xs.getD i 0:Nat))) ρ):gIx r1 (.d (.int (i:Nat))) ρ q:=by
 unfold gIx;rw[hv];simp only[tJ h];exact hq
theorem dv {neg:Bool}{r1 r2:R}{ρ:En}{q:Ko}{d e:D}{b:Bool}(h1:view ρ r1=some d)(h2:view ρ r2=some e)(hd:d.depth<=60)(hb:eqD d e=b)(hq:q (.d (.bl (if neg then !b else b))) ρ):gEq neg r1 r2 ρ q:=by
 unfold gEq;rw[h1,h2];subst hb;exact⟨hd,hq⟩
theorem nB (ns:List Int):depths (ns.map D.int)=0:=by
 induction ns with
 | nil=>simp[depths]
 | cons n ns ih=>rw[yy];unfold depths;rw[ih];simp[D.depth]
theorem jy (ns:List Nat):(D.lst (natsD ns)).depth<=60:=by
 have:natsD ns=(ns.map λ(n:Nat)=>(n:Int)).map D.int:=by unfold natsD;simp
 rw[this];unfold D.depth;rw[nB];decide
theorem pO {r1:R}{ρ:En}{q:Ko}{ds:List D}{i:Int}{d:D}(hv:view ρ r1=some (.tup ds))(h:atI ds i=some d)(hq:q (.d d) ρ):gIx r1 (.d (.int i)) ρ q:=by
 unfold gIx;rw[hv];simp only[h];exact hq
theorem jO {r1:R}{ρ:En}{q:Ko}{ds:List D}{i:Int}{d:D}(hv:view ρ r1=some (.lst ds))(h:atI ds i=some d)(hq:q (.d d) ρ):gIx r1 (.d (.int i)) ρ q:=by
 unfold gIx;rw[hv];simp only[h];exact hq
theorem cutS {A B:AS}{e:lz}{ρ:En}(P:En->Prop)(h1:∀N:En->Prop,(∀ ρ',P ρ'->N ρ')->A {e with nx:=N} ρ)(h2:∀ ρ',P ρ'->B e ρ'):aSeq A B e ρ:=h1 (B e) h2
theorem xV {x:Int}{n:Nat}(h:x=(n:Nat)):Sv.vl (.int x)=nv n:=by rw[h]
theorem xorD (a b:Nat):D.int (A9 (a:Int) (b:Int))=nD (a ^^^ b):=by rw[pS]
theorem minI (a b:Nat):(if(b:Int)<(a:Int)then(b:Int)else(a:Int))=((min a b:Nat):Int):=by split <;> omega
theorem maxI (a b:Nat):(if(b:Int) > (a:Int)then(b:Int)else(a:Int))=((max a b:Nat):Int):=by split <;> omega
theorem mI (rows:List Nat)(a b:Nat):aD rows (min a b,max a b)=rows++[rows.getD a 0 ^^^ rows.getD b 0]:=by
 unfold aD;rcases AF a b with h | h
 ·simp only[zx h,BC h]
 ·simp only[zJ h,BP h];rw[Dx]
def xa (s:Sv)(ds:List D):Prop:=s = .ow ds∨s = .vl (.lst ds)
theorem cg (xs:List Nat)(x:Nat):natsD (xs++[x])=natsD xs++[nD x]:=by unfold natsD;rw[yo];rfl
theorem g_ (rows:List Nat)(p:Nat×Nat):natsD (aD rows p)=natsD rows++[nD (rows.getD p.1 0 ^^^ rows.getD p.2 0)]:=cg _ _
def fF:ASp:=λss q=>∃x y:Nat,ss=[nv x,nv y]/\q (.d (nD (x ^^^ y))) [nv x,nv y]
def SOwn:ASp:=λss q=>∃m:Nat,ss=[nv m]/\m<=1000/\q (.f (natsD (aO m))) [nv m]
def lx:ASp:=λss q=>∃N:Net,ss=[.vl (netD N)]/\okIx N.m N.js/\N.m+N.js.length<=1000/\q (.f (natsD (bQ N))) [.vl (netD N)]
def nO:ASp:=λss q=>∃N:Net,ss=[.vl (netD N)]/\okIx N.m N.js/\N.m+N.js.length<=1000/\N.os.length<=1000/\(∀o∈N.os,o<N.m+N.js.length)/\q (.f (natsD (N.os.map λo=>(bQ N).getD o 0))) [.vl (netD N)]
theorem rD (xs:List D)(k:Nat):cutD xs none (some ((k:Nat):Int))=xs.take k:=by
 unfold cutD;have e0:HT.sIx xs.length 0 none=0:=rfl;rw[e0,EM,Cs,HT.sIx_nat];rcases AF k xs.length with h | h
 ·rw[zx h]
 ·rw[zJ h,zP (lw _),zP h]
def fR:ASp:=λss q=>∃a b:Nat,ss=[nv a,nv b]/\q (.d (L2.pairD (min a b,max a b))) [nv a,nv b]
theorem l8 (xs:List D)(k:Nat):cutD xs (some ((k:Nat):Int)) none=xs.drop k:=by
 unfold cutD;have e0:HT.sIx xs.length xs.length none=xs.length:=rfl;rw[e0,HT.sIx_nat];rcases AF k xs.length with h | h
 ·rw[zx h,zP (by rw[Cz];omega)]
 ·rw[zJ h,zD (lw _),zD h];simp
theorem aN (xs:List Nat):(natsD xs).length=xs.length:=by rw[db]
end L2
namespace HT
open PySem PySem.Spec PyProof.Rows
end HT
namespace L2
open PySem PySem.Spec PyProof.Rows
section
variable {X:Cx}(K:ac)
def t4 (K:ac):R2:=λx y H Q=>∃a b xs ys,x = .ref a/\y = .ref b/\SqT K H a xs/\SqT K H b ys/\xs.length+ys.length<=1000000 /\
 (xs=[]->Q (.ref b) H)/\(ys=[]->Q (.ref a) H)/\(∀p,H p=none->Q (.ref p) (upd H p (.tup (xs++ys))))
theorem sP (hK:X.K=K:=by rfl):OpR X (Aj .Add) (t4 K):=by
 subst hK;intro pins s σ H x y v u Q I rx ry h;obtain⟨a,b,xs,ys,rfl,rfl,ha,hb,hz,q0,q1,q2⟩:=h;by_cases hx:xs=[]
 ·subst hx;cases rx
  cases ry
  obtain⟨its,r1,p1,_⟩:=I.tuple ha;obtain⟨its2,r2,p2,_⟩:=I.tuple hb;cases r1
  obtain⟨⟨cls,dd,data,sl⟩,ho,hc,n,hd⟩:=id p1;obtain⟨⟨cls2,dd2,data2,sl2⟩,ho2,hc2,n2,hd2⟩:=id p2;simp only at hc hd hc2 hd2;subst hc hd hc2 hd2;exact CW ⟨_,ho,rfl⟩ ⟨_,ho2,rfl⟩ C7 DK By Bq (Bn _ _) (tuple_addW0 a b _ its2.toArray n n2 dd dd2 sl sl2 (by simp)) ⟨ho,ho2,.ref b,H,I,rfl,q0 rfl⟩
 ·exact ve pins s σ H (.ref a) (.ref b) v u Q I rx ry ⟨a,b,xs,ys,rfl,rfl,ha,hb,hx,small hz,q1,λ_=>q2⟩
end
section
variable {K:ac}{ta:TE}{a:AE}
def gCatT:R->R->AE:=λr1 r2 ρ q=>match view ρ r1,view ρ r2 with
 | some (.tup ds),some (.tup es)=>ds.length+es.length<=1000000/\q (.d (.tup (ds++es))) ρ
 | _,_=>False
theorem RepDs.nilL {H:Hp}{ds:List D}(h:RepDs K H [] ds):ds=[]:=by
 cases ds with
 | nil=>rfl
 | cons d r=>unfold RepDs at h;exact h.elim
theorem sQ:OpOk K (t4 K) gCatT:=by
 intro F σ ρ H x y r1 r2 q Q a h1 h2 h b;unfold gCatT at h;split at h
 ·rename_i ds es e1 e2;obtain⟨l,vs,rfl,sq,rd,sv⟩:=fG a h1 e1;obtain⟨l2,vs2,rfl,sq2,rd2,sv2⟩:=fG a h2 e2;refine⟨l,l2,vs,vs2,rfl,rfl,sq,sq2,by rw[rd.length,rd2.length];exact h.1,λz=>?_,λz=>?_,λp hp=>b.newT a h.2 (rd.append rd2) hp⟩
  ·refine b.dat a h.2 ?_;have:ds=[]:=by rw[z]at rd;exact rd.nilL
   rw[this,List.nil_append];unfold RepD;exact⟨l2,vs2,rfl,sv2,rd2⟩
  ·refine b.dat a h.2 ?_;have:es=[]:=by rw[z]at rd2;exact rd2.nilL
   rw[this,zZ];unfold RepD;exact⟨l,vs,rfl,sv,rd⟩
 ·exact h.elim
end
def dKey:D->Option Key
 | .int i=>some (.inl i)
 | .str x=>some (.inr x)
 | _=>none
section
variable {κ:Type} [DecidableEq κ]
def valD (kvs:List (κ×D))(k:κ):Option D:=(kvs.find? λkv=>decide (kv.1=k)).map (·.2)
def putD (kvs:List (κ×D))(k:κ)(d:D):List (κ×D) :=
 if(kvs.any λkv=>decide (kv.1=k))=true then kvs.map (λkv=>if kv.1=k then(kv.1,d)else kv)else kvs++[(k,d)]
variable {K:ac}{H:Hp}
theorem pU (k:κ):∀ {ks:List (κ×V)} {kvs:List (κ×D)},ks.map yX=kvs.map yX->RepDs K H (ks.map zk) (kvs.map zk) ->
  (∀d,valD kvs k=some d->∃v,valV ks k=some v/\RepD K H v d)/\(valD kvs k=none->valV ks k=none)
 | [],[],_,_=>⟨(λ_ h=>nomatch h),λ_=>rfl⟩
 | p::ks,q::kvs,e,r=>by
  simp only[yy,DH]at e;rw[yy,yy]at r;unfold RepDs at r;obtain⟨i1,i2⟩:=pU k e.2 r.2;by_cases z:q.1=k
  ·have e1:valD (q::kvs) k=some q.2:=by simp[valD,zp,z]
   rw[e1,iE (e.1.trans z)];exact⟨λd h=>⟨_,rfl,by cases h;exact r.1⟩,λh=>by cases h⟩
  ·have e1:valD (q::kvs) k=valD kvs k:=by simp[valD,zp,z]
   rw[e1,iF (λh=>z (e.1▸h))];exact⟨i1,i2⟩
 | [],q::kvs,e,_=>by simp at e
 | p::ks,[],e,_=>by simp at e
theorem vJ (k:κ){ks:List (κ×V)}{kvs:List (κ×D)}(e:ks.map yX=kvs.map yX):(ks.any λkv=>decide (kv.1=k))=kvs.any λkv=>decide (kv.1=k):=by
 have h1:(ks.any λkv=>decide (kv.1=k))=(ks.map yX).any λx=>decide (x=k):=by rw[Fe];rfl
 have h2:(kvs.any λkv=>decide (kv.1=k))=(kvs.map yX).any λx=>decide (x=k):=by rw[Fe];rfl
 rw[h1,h2,e]
theorem nZ (k:κ){v:V}{d:D}(rv:RepD K H v d):∀ {ks:List (κ×V)} {kvs:List (κ×D)},ks.map yX=kvs.map yX->RepDs K H (ks.map zk) (kvs.map zk) ->
  (ks.map λkv=>if kv.1=k then(kv.1,v)else kv).map yX=(kvs.map λkv=>if kv.1=k then(kv.1,d)else kv).map yX/\RepDs K H ((ks.map λkv=>if kv.1=k then(kv.1,v)else kv).map zk) ((kvs.map λkv=>if kv.1=k then(kv.1,d)else kv).map zk)
 | [],[],_,_=>⟨rfl,.nil⟩
 | p::ks,q::kvs,e,r=>by
  simp only[yy,DH]at e;rw[yy,yy]at r;unfold RepDs at r;obtain⟨i1,i2⟩:=nZ k rv e.2 r.2;simp only[yy,e.1];by_cases z:q.1=k
  ·simp only[z,if_true];exact⟨by rw[i1],.cons rv i2⟩
  ·simp only[z,if_false];exact⟨by rw[i1,e.1],.cons r.1 i2⟩
 | [],q::kvs,e,_=>by simp at e
 | p::ks,[],e,_=>by simp at e
theorem u1 (k:κ){v:V}{d:D}(rv:RepD K H v d){ks:List (κ×V)}{kvs:List (κ×D)}(e:ks.map yX=kvs.map yX)(r:RepDs K H (ks.map zk) (kvs.map zk)) :
  (putK ks k v).map yX=(putD kvs k d).map yX/\RepDs K H ((putK ks k v).map zk) ((putD kvs k d).map zk):=by
 unfold putK putD;rw[vJ k e];split
 ·exact nZ k rv e r
 ·refine⟨by rw[yo,yo,e];rfl,?_⟩;rw[yo,yo];exact r.append (.one rv)
theorem sW {ks:List (κ×V)}{kvs:List (κ×D)}(e:ks.map yX=kvs.map yX):ks.length=kvs.length:=by
 have:=congrArg DD e;simpa using this
end
section
variable {K:ac}{F:Fr}{σ:St}{ρ ρ':En}{H H':Hp}{td ty tx:TE}{ad ay ax:AE}
theorem wZ {v:V}{d:D}{k:Key}(h:RepD K H v d)(e:dKey d=some k):v=kV k:=by
 cases d with
 | int i=>unfold RepD at h;injection e with e;subst e;exact h
 | str i=>unfold RepD at h;injection e with e;subst e;exact h
 | non=>cases e
 | bl _=>cases e
 | tup _=>cases e
 | lst _=>cases e
def aDNew:AE:=λρ q=>q (.n (.dk [])) ρ
theorem su:TEok K tDNewK aDNew:=λF σ ρ H q Q r h k p hp=>k (.n (.dk [])) ρ _ _ h ⟨H,p,_,r,.refl,rfl,⟨p,[],rfl,bh,rfl,.nil⟩,hp,rfl,rfl⟩
theorem xq {i:Nat}{x:V}{kvs:List (Key×D)}(r:Rel K F σ ρ H)(ei:σ[i]? = some (some x))(hg:gt ρ i = .dk kvs):∃t ks,x = .ref t/\H t=some (.dK ks)/\ks.map yX=kvs.map yX/\RepDs K (hid H (hs F σ ρ)) (ks.map zk) (kvs.map zk):=by
 have s:=r.sl i;rw[hg,ei]at s;obtain⟨t,ks,e,h1,h2,h3⟩:=s;injection e with e;injection e with e;exact⟨t,ks,e,h1,h2,h3⟩
def aDIn (neg:Bool)(i a:AE):AE:=λρ q=>i ρ λr ρ1=>a ρ1 λr2 ρ2=>match r,r2 with
 | .d d,.o j=>(match gt ρ2 j,dKey d with
  | .dk kvs,some k=>q (.d (.bl (if neg then !(valD kvs k).isSome else(valD kvs k).isSome))) ρ2
  | _,_=>False)
 | _,_=>False
theorem pJ {kvs:List (Key×D)}{ks:List (Key×V)}{k:Key}(e1:ks.map yX=kvs.map yX)(e2:RepDs K H (ks.map zk) (kvs.map zk)):(valV ks k).isSome=(valD kvs k).isSome:=by
 obtain⟨a,b⟩:=pU k e1 e2;cases h:valD kvs k with
 | none=>rw[b h];rfl
 | some d=>obtain⟨v,e,_⟩:=a d h;rw[e];rfl
theorem o5 (hi:TEok K ty ay)(ha:TEok K td ad):TEok K (qc ty td) (aDIn true ay ad):=by
 intro F σ ρ H q Q r h k;refine hi F σ ρ H _ _ r h λr1 ρ1 y H1 h1 o1=>?_;obtain⟨r1',k1,i1⟩:=o1.inF;refine ha F σ ρ1 H1 _ _ r1' h1 λr2 ρ2 x H2 h2 o2=>?_;obtain⟨r2',k2,i2⟩:=o2.inF;split at h2
 ·rename_i d j;have ej:σ[j]? = some (some x):=i2;split at h2
  ·rename_i kvs kk hg ek;obtain⟨t,ks,rfl,ht,e1,e2⟩:=xq r2' ej hg;refine⟨t,valV ks kk,rfl,?_,?_⟩
   ·rw[wZ i1 ek];exact DGet.k ht
   ·rw[pJ e1 e2];exact((k.after k1).after k2).bl r2' h2
  ·exact h2.elim
 ·exact h2.elim
def yh (x o i:AE):AS:=λe ρ=>x ρ λr ρ1=>sto [r.frz] ρ1 λds ρ2=>o ρ2 λr2 ρ3=>match r2 with
 | .o j=>i ρ3 λr3 ρ4=>(match r3,gt ρ4 j,ds with
  | .d kd,.dk kvs,[d]=>(match dKey kd with | some k=>kvs.length<=1000000/\e.nx (pt ρ4 j (.dk (putD kvs k d))) | none=>False)
  | _,_,_=>False)
 | _=>False
theorem nX {pr:Nat->Bool}{tv:TE}{av:AE}(h:TEok K tv av)(ho:TEok K td ad)(hi:TEok K ty ay):TSok K pr (wo td ty tv) (yh av ad ay):=by
 intro F σ ρ H D e hp r ha k;refine h F σ ρ H _ _ r ha λr1 ρ1 v H1 h1 o=>?_;obtain⟨r',k1,i1⟩:=o.inF;obtain⟨ds,ρ2,h2,r2,k2,rd⟩:=gq r' (.cons i1 .nil) h1;refine ho F σ ρ2 H1 _ _ r2 h2 λr3 ρ3 x H3 h3 o3=>?_;obtain⟨r3',k3,i3⟩:=o3.inF;split at h3
 ·rename_i j;have ej:σ[j]? = some (some x):=i3;refine hi F σ ρ3 H3 _ _ r3' h3 λr4 ρ4 y H4 h4 o4=>?_;obtain⟨r4',k4,i4⟩:=o4.inF;split at h4
  ·rename_i kd kvs d hg;split at h4
   ·rename_i kk ek;obtain⟨t,ks,rfl,ht,e1,e2⟩:=xq r4' ej hg;unfold RepDs at rd;have rd4:=(RepD.same rd.1 (k3.trans k4).vis)
    obtain⟨p1,p2⟩:=u1 kk rd4 e1 e2;have hw:=r4'.write (i:=j) (l:=t) (o:=.dK (putK ks kk v)) (s:=.dk (putD kvs kk d)) (by rw[hg];rfl) ej rfl ⟨t,_,rfl,bh,p1,p2⟩;refine⟨t,_,rfl,?_,k.nx _ _ _ h4.2 hw.1⟩;rw[wZ i4 ek];exact DPut.k ht (iT (by rw[sW e1];exact h4.1))
   ·exact h4.elim
  ·exact h4.elim
 ·exact h3.elim
end
section
variable {X:Cx}{pins:List (Addr×Obj)}{σ:St}{H:Hp}{s:dL}{h':Heap}
theorem Inv.turns {t':Nat}{ch:List Addr}(I:Inv X pins σ H s)(k:∀b o,b∉ch->s.heap.get? b=some o->h'.get? b=some o)(hf:∀b∈ch,FpOk X pins H b):Inv X pins σ H {s with heap:=h',toks:=t'}:=by
 have nit:∀b u,H b=some u->b∉ch:=λb u e z=>by rw[(hf b z).1]at e;cases e
 refine I.step (g':=s.gens) (d':=s.drawn) (ch:=ch) (λb hb=>?_) (λb o _ _ hc e _=>k b o hc e) (λb o _ _ hc e _=>⟨o.slots,k b o hc e⟩) (λ_ _ _ _ n=>n)
  (λb o hc e=>⟨o,k b o hc e⟩) (λ_ _ e=>e) (λ_ _ _ e=>e) (λb ps e=>⟨#[],by rw[e];simp⟩) (λm hm=>?_) (λb u e=>?_) I.bare
 ·obtain⟨_,h2,_,h4,h5,h6⟩:=hf b hb;exact⟨h4,h2,h5,h6⟩
 ·obtain⟨o,es,ep,ho,r⟩:=hm;exact⟨o,es,ep,k _ o (λz=>(hf _ z).2.1 rfl) ho,r⟩
 ·refine(I.hok b u e).stay (λc v hc q=>k c v ?_ q) (λ_ q=>q) λ_ _ q=>q;rcases hc with z | z
  ·rw[z];exact nit b u e
  ·exact nit c _ z
theorem Inv.trackO {p:Addr}{o:HO}(I:Inv X pins σ H s)(hf:FpOk X pins H p)(new:c_ X.prog X.w (upd H p o) s.heap p o):Inv X pins σ (upd H p o) s:=by
 have hn:=hf.1;refine I.call' (ch:=[p]) rfl ⟨λb u e _ _ _=>e,λb u e _ _ _=>⟨u.slots,e⟩,λb u e n hx=>?_,λb u e _=>⟨u,e⟩,λb xs e=>?_,λb u v e=>?_,λb ps e=>⟨#[],?_⟩⟩ (λb u e=>?_) I.bare (λb hb=>?_)
 ·rw[aU (λz=>hx (by simp[z]))];exact n
 ·rw[aU (bD e hn)];exact e
 ·rw[aU (bD e hn)];exact e
 ·rw[aU (bD e hn),e];simp
 ·by_cases hb:b=p
  ·subst hb;rw[bh]at e;cases e;exact new
  ·rw[aU hb]at e;exact(I.hok b u e).stay (λc v _ q=>q) (λc q=>by rw[aU (bD q hn)];exact q) λc xs q=>by rw[aU (bD q hn)];exact q
 ·rw[y7.mp hb];obtain⟨_,h2,_,h4,h5,h6⟩:=hf;exact⟨h4,h2,h5,h6⟩
end
section
variable {K:ac}{ts:TA}{as:AA}
def lA (pin:Nat->Bool)(ρ:En):R->Option (List D×(En->Prop))
 | .d (.lst ds)=>some (ds,λ_=>True)
 | .o i=>(match gt ρ i with
  | .ow ds=>if pin i=true then some (ds,λρ2=>gt ρ2 i = .ow ds)else none
  | _=>none)
 | _=>none
theorem nQ {pin:Nat->Bool}{F:Fr}{σ:St}{ρ:En}{H:Hp}{v:V}{r:R}{ds:List D}{c:En->Prop}(a:Rel K F σ ρ H)(i:InF K F σ ρ H v r)(e:lA pin ρ r=some (ds,c)) :
  ∃l vs,v = .ref l/\SqL K H l vs/\∀ σ2 ρ2 H2,Same (hid H (hs F σ ρ)) (hid H2 (hs F σ2 ρ2))->(∀i,SvOk K (hid H2 (hs F σ2 ρ2)) H2 σ2[i]? (gt ρ2 i))->(∀j a,pin j=true->σ[j]? = some (some (.ref a))->σ2[j]? = some (some (.ref a)))->c ρ2->∃vs2,SqL K H2 l vs2/\RepDs K (hid H2 (hs F σ2 ρ2)) vs2 ds:=by
 cases r with
 | n s=>cases e
 | t n=>cases e
 | x s=>cases e
 | d d =>
  cases d with
  | lst es =>
   simp only[lA,zy,BS]at e;obtain⟨rfl,rfl⟩:=e;have rd:RepD K _ v (.lst es):=i;unfold RepD at rd;obtain⟨l,vs,rfl,sq,rr⟩:=rd;exact⟨l,vs,rfl,cn.seq (StL.sq sq),λσ2 ρ2 H2 sm _ _ _=>⟨vs,cn.seq (sm.seq (StL.sq sq)),rr.same sm⟩⟩
  | non=>cases e
  | bl _=>cases e
  | int _=>cases e
  | str _=>cases e
  | tup _=>cases e
 | o j =>
  have ej:σ[j]? = some (some v):=i;unfold lA at e;cases hg:gt ρ j with
  | ow es =>
   simp only[hg]at e;split at e
   ·rename_i hp;simp only[zy,BS]at e;obtain⟨rfl,rfl⟩:=e;have s:=a.sl j;rw[hg,ej]at s;obtain⟨l,vs,e1,hl,rd⟩:=s;injection e1 with e1;injection e1 with e1;subst e1;refine⟨l,vs,rfl,SqL.of hl,λσ2 ρ2 H2 sm sv pn hc=>?_⟩;have s2:=sv j;rw[hc,pn j l hp ej]at s2;obtain⟨l',vs',e2,hl',rd'⟩:=s2;injection e2 with e2;injection e2 with e2;injection e2 with e2;subst e2;exact⟨vs',SqL.of hl',rd'⟩
   ·cases e
  | un=>simp[hg]at e
  | vl _=>simp[hg]at e
  | tp _=>simp[hg]at e
  | dk _=>simp[hg]at e
  | dt _=>simp[hg]at e
  | ex _ _=>simp[hg]at e
  | sc _=>simp[hg]at e
  | px _ _ _=>simp[hg]at e
  | xl _=>simp[hg]at e
  | ob _ _=>simp[hg]at e
  | ll _=>simp[hg]at e
  | ds _ _ _=>simp[hg]at e
end
def rngV (lo:Int)(n:Nat):List V:=(ym n).map λ(i:Nat)=>V.int (lo+(i:Nat))
theorem sf {lo:Int}{n:Nat}{acc:Array bd}(h:ItemsOf (λi v=>∃t,v = .int (lo+i*1) t) acc n):Vals (rngV lo n) acc.toList:=by
 obtain⟨h1,h2⟩:=h;have gen:∀(m:Nat) (us:List bd),us.length=m->(∀(i:Nat) (v:bd),us[i]? = some v->∃t,v=Value.int (lo+(i:Int)*1) t)->Vals (rngV lo m) us:=by
  intro m;induction m with
  | zero=>intro us e _;cases us with | nil=>exact .nil | cons _ _=>cases e
  | succ m ih =>
   intro us e hx;have e1:us=us.take m++[us[m]]:=by
    rw[List.take_append_getElem];exact(zP (by omega)).symm
   unfold rngV;rw[e1,zF,yo];refine Vals.append (ih _ (by rw[yZ];omega) λi v hv=>?_) ?_
   ·rw[List.getElem?_take]at hv;split at hv
    ·exact hx i v hv
    ·cases hv
   ·obtain⟨t,ht⟩:=hx m us[m] (bv (by omega));rw[ht];exact .cons ⟨t,by rw[FC]⟩ .nil
 refine gen n acc.toList (by simpa using h1) λi v hv=>h2 i v (by simpa using hv)
section
variable {X:Cx}
theorem mo:iD X (.type "range") (λxs H Q=>∃i j:Int,xs=[.int i,.int j]/\∀p,H p=none->Q (.ref p) (upd H p (.rng i j))):=by
 intro pins s σ H xs us Q I r h;obtain⟨i,j,rfl,q⟩:=h;obtain⟨u,v,rfl,⟨t,rfl⟩,⟨t',rfl⟩⟩:=uz r;refine call_range_2 ?_;exact⟨.ref s.heap.objs.size,upd H s.heap.objs.size (.rng i j),I.laid (λb u e=>im _ e) (lw _) ⟨_,_,_,xL _ rfl⟩,rfl,q _ (I.hok.fresh (lw _))⟩
def rRng (tup:Bool):List V->Hp->VK->Prop:=λxs H Q=>∃(p:Addr) (lo hi:Int),xs=[.ref p]/\H p=some (.rng lo hi)/\(-400000<=lo/\lo<=400000/\-400000<=hi/\hi<=400000)/\∀l,H l=none->Q (.ref l) (upd H l (if tup then .tup (rngV lo (hi - lo).toNat)else .lst (rngV lo (hi - lo).toNat)))
theorem sE {lo hi:Int}:zW lo hi 1=((hi - lo).toNat:Nat):=by rw[rangeSize_one];split <;> omega
theorem sG (lo:Int)(n:Nat):(rngV lo n).length=n:=by unfold rngV;simp
theorem nK (hc:X.calm=true):iD X (.type "list") (rRng false):=by
 intro pins s σ H xs us Q I r h;obtain⟨p,lo,hi,rfl,hp,⟨b1,b2,b3,b4⟩,q⟩:=h;obtain⟨u,rfl,ru⟩:=kh r;cases ru
 obtain⟨t,u,v,e⟩:=(show c_ X.prog X.w H s.heap p (.rng lo hi)from I.hok p _ hp)
 refine call_list_range (I.ok.hd hc) (show Ei s.heap p lo hi 1 t u v from e) (small_one (by omega) (by omega) (by omega) (by omega)) sE (show(hi - lo).toNat<=2^24 by omega) λh' tk acc c hk hl hi'=>?_;refine⟨.ref s.heap.objs.size,upd H s.heap.objs.size (.lst (rngV lo (hi - lo).toNat)),I.laid (t':=tk) (λb o e=>hk b o e) (lw _) ?_,rfl,q _ (I.hok.fresh (lw _))⟩;refine⟨?_,acc.toList,c,sf hi',by simpa using hl⟩;rw[sG];exact small (by omega)
end
section
variable {K:ac}{ts:TA}{as:AA}
theorem qv {H:Hp}(lo:Int)(n:Nat):RepDs K H (rngV lo n) (rngD lo n):=by
 unfold rngV rngD;induction n with
 | zero=>exact .nil
 | succ n ih =>
  rw[zF,yo,yo];exact ih.append (.one (by unfold RepD;rfl))
def x_ (tup:Bool)(as:AA):AE:=λρ q=>as ρ λrs ρ1=>match rs with
 | [.d (.int i),.d (.int j)]=>(-400000<=i/\i<=400000/\-400000<=j/\j<=400000)/\q (if tup then .d (.tup (rngD i (j - i).toNat))else .f (rngD i (j - i).toNat)) ρ1
 | _=>False
theorem sr (tup:Bool)(ha:TAok K ts as):TEok K (tCB (rRng tup) (sx (tCB (λxs H Q=>∃i j:Int,xs=[.int i,.int j]/\∀p,H p=none->Q (.ref p) (upd H p (.rng i j))) ts) tNil)) (x_ tup as):=by
 intro F σ ρ H q Q r h k;refine ha F σ ρ H _ _ r h λrs ρ1 vs H1 h1 r1 i1 k1=>?_;split at h1
 ·rename_i i j;obtain⟨x,y,rfl,ix,iy⟩:=i1.two;refine⟨i,j,by rw[ix.int,iy.int],λp hp=>⟨p,i,j,rfl,bh,h1.1,λl hl=>?_⟩⟩;have rp:=r1.fresh (o:=.rng i j) hp;have kk:=(k.after k1).after (Kp.fresh (o:=.rng i j) hp);cases tup with
  | false=>exact kk.new rp h1.2 (qv _ _) hl
  | true=>exact kk.newT rp h1.2 (qv _ _) hl
 ·exact h1.elim
def aNever:AS:=λ_ _=>False
theorem bF {pr:Nat->Bool}:TSok K pr tNever aNever:=λF σ ρ H D e hp r h k=>h.elim
end
section
variable {X:Cx}(K:ac)
def tFmt (te:TE):TE:=λσ H Q=>te σ H λx H1=>∃i,x = .int i/\i.natAbs.log2<1920/\Q (.str (toString i)) H1
theorem t7 {e:Expr}{te:TE}{pos:Pos}(he:PE X e te):PE X (.FormattedValue e (-1) none pos) (tFmt te):=by
 intro pins s σ H Q I h;refine FormattedValue_plain (thn (he pins s σ H _ I h) λv s1 ⟨x,H1,I1,r1,q1⟩=>?_);obtain⟨i,rfl,hz,q⟩:=q1;obtain⟨t,rfl⟩:=r1;exact formatField_int_small hz ⟨.str _,H1,I1.tok _,⟨_,rfl⟩,q⟩
abbrev TJ:=Str->TE
def PJ (X:Cx)(es:List Expr)(t:TJ):Prop:=∀(out:Str) (pins:List (Addr×Obj)) (s:dL) (σ:St) (H:Hp) (Q:VK),Inv X pins σ H s->t out σ H Q->o0 (sK X.prog X.w) X.A (joinParts out (Dp es X.env)) (EP X pins σ Q) X.xe s
def jNil:TJ:=λout _ H Q=>out.length<=ww/\Q (.str out) H
def pI (te:TE)(t:TJ):TJ:=λout σ H Q=>te σ H λx H1=>∃y,x = .str y/\(out++y).length<=ww/\t (out++y) σ H1 Q
theorem t6:PJ X [] jNil:=λout pins s σ H Q I h=>joinParts_nil ⟨.str out,H,I.tok _,⟨_,rfl⟩,h.2⟩ h.1
theorem i_ {e:Expr}{es:List Expr}{te:TE}{t:TJ}(he:PE X e te)(hr:PJ X es t)(hs:Dp (e::es) X.env=eval e X.env::Dp es X.env:=by rfl):PJ X (e::es) (pI te t):=by
 intro out pins s σ H Q I h;rw[hs];refine joinParts_cons (thn (he pins s σ H _ I h) λv s1 ⟨x,H1,I1,r1,y,e1,hz,q⟩=>?_);subst e1;obtain⟨t',rfl⟩:=r1;exact⟨hz,hr _ pins s1 σ H1 Q I1 q⟩
theorem lN {v1 v2:Expr}{rest:List Expr}{pos:Pos}{t:TJ}(h:PJ X (v1::v2::rest) t)(hs:Dp (v1::v2::rest) X.env=eval v1 X.env::eval v2 X.env::Dp rest X.env:=by rfl):PE X (.JoinedStr (v1::v2::rest) pos) (t An):=by
 intro pins s σ H Q I hq;refine JoinedStr_many ?_;rw[<- hs];exact h An pins s σ H Q I hq
end
def Itd (lo:Int)(n:Nat):It:=⟨λi _=>i<n,λi H x H'=>H'=H/\x = .int (lo - i),λi _=>n<=i⟩
theorem pZ {P:wl}{w:yF}{K:ac}{tg:Expr}(it:Addr)(lo:Int)(n:Nat):Turn P w K tg (Itd lo n) [it] it (λi h=>Dd h it (lo+(i:Nat)*(-1)) ((n:Int) - (i:Nat)) (-1)) where
 mem:=by simp
 obj:=λi h st b hb=>by
  have e:b=it:=by simpa using hb
  subst e;exact⟨_,st,λv z=>by
   have z':Data.fields _=Data.cell v:=z;cases z'⟩
 keep:=λi h h' st k=>k it (by simp) _ st
 item:=by
  intro X hP hw hK hc i pins s σ H E I hf st hg;subst hP hw hK;obtain⟨f0,f1,f2,f3,f4,f5⟩:=hf it (by simp);have W:=E_ (prog:=X.prog) (w:=X.w) (I.ok.hd hc) it lo (-1) n;refine W.item i s _ _ hg st λv h' tk hv st' kk=>?_;obtain⟨t,rfl⟩:=hv;have I1:Inv X pins σ H {s with heap:=h',toks:=tk}:=I.turned (λb o hb e=>kk b o (by simpa using hb) e) f0 f1 f3 f4 f5;refine⟨_,rfl,q8 (s:={s with heap:=h',toks:=tk}) (n := "range_iterator") st' rfl rfl (by decide) ⟨.int (lo - i),H,I1,⟨t,?_⟩,⟨rfl,rfl⟩,st',λb hb=>(hf b hb).1⟩⟩;rw[show lo+(i:Int)*(-1)=lo - i by omega]
 done:=by
  intro X hP hw hK hc i pins s σ H E I hf st hg;subst hP hw hK;obtain⟨f0,f1,f2,f3,f4,f5⟩:=hf it (by simp);exact D7 (I.ok.hd hc) st (by have:n<=i:=hg;omega) λh' eb=>⟨rfl,I.turned (t':=s.toks) (λb o hb e=>eb b o hb e) f0 f1 f3 f4 f5⟩
 self:=λ_ _ _ _ _ st h=>BV st h
section
variable {K:ac}{tk tv:TE}{ak av:AE}{ts:TA}{as:AA}
def dwnD (lo:Int)(n:Nat):List D:=(ym n).map λ(i:Nat)=>D.int (lo - (i:Nat))
theorem eQ (lo:Int)(n:Nat):(dwnD lo n).length=n:=by simp[dwnD]
theorem vX {S:Addr->Prop}{H:Hp}{lo:Int}{n:Nat}:WkAt K S H (Itd lo n) (dwnD lo n):=by
 intro k;constructor
 ·intro d h;unfold dwnD at h;rw[lm]at h;obtain⟨j,e1,e2⟩:=wp.mp h;have lt:k<n:=by
   rcases pp k n with q | q
   ·exact q
   ·rw[yS (by simpa using q)]at e1;cases e1
  rw[yH lt]at e1;cases e1
  refine⟨lt,λx H' z=>⟨z.1▸Same.refl H,?_⟩⟩;rw[z.2,<- e2];unfold RepD;rfl
 ·intro h;rw[eQ]at h;exact h
theorem la {lo:Int}{n k:Nat}{d:D}(h:(dwnD lo n)[k]? = some d):k<n/\d = .int (lo - k):=by
 unfold dwnD at h;rw[lm]at h;obtain⟨j,e1,e2⟩:=wp.mp h;have lt:k<n:=by
  rcases pp k n with q | q
  ·exact q
  ·rw[yS (by simpa using q)]at e1;cases e1
 rw[yH lt]at e1;cases e1
 exact⟨lt,e2.symm⟩
end
def Ite (K:ac)(l:Addr):It :=
 ⟨λi H=>∃xs x,SqL K H l xs/\xs[i]? = some x,λi H v H'=>∃p x,v = .ref p/\H p=none/\H'=upd H p (.tup [.int (i:Nat),x])/\∀xs,SqL K H l xs->xs[i]? = some x,
  λi H=>∃xs,SqL K H l xs/\xs.length<=i⟩
theorem pX {P:wl}{w:yF}{K:ac}{elts:List Expr}{x1}{tpos:Pos}{e it l:Addr}(ne:e≠it) :
  Turn P w K (.Tuple elts x1 tpos) (Ite K l) [e,it] e (λi h=>(∃old,C_ h e it (i:Nat) old)/\h.IsListIter it l i) where
 mem:=by simp
 obj:=λi h st b hb=>by
  obtain⟨⟨old,he⟩,⟨o1,e1,c1,d1⟩⟩:=st;simp only[wn,yY,or_false]at hb;rcases hb with rfl | rfl
  ·exact⟨_,he,λv q=>by cases q⟩
  ·exact⟨o1,e1,λv q=>by rw[d1]at q;cases q⟩
 keep:=λi h h' st k=>by
  obtain⟨⟨old,he⟩,h1⟩:=st;exact⟨⟨old,k e (by simp) _ he⟩,h1.at λo q=>k it (by simp) o q⟩
 item:=by
  intro X hP hw hK hc i pins s σ H E I hf st hg;subst hP hw hK;obtain⟨xs,x,q1,hx⟩:=hg;obtain⟨⟨old,he⟩,h1⟩:=st;obtain⟨its,rv,p1,_⟩:=I.list q1;obtain⟨u,hu,ru⟩:=rv.get hx;refine wpAny_pyNext_enum_item he h1 p1.isList (x:=u) (by simpa using hu) ne λh' a1 a2 a3 a4 hk=>?_;refine⟨_,rfl,Dn (s:={s with heap:=h',toks:=s.toks+1}) a1 λh2' he' hs'=>?_⟩;have hs2:zf e h' h2':=hs';have ls:∀ {b o},s.heap.get? b=some o->b≠s.heap.objs.size:=λe=>yn (lc e);have es:e≠s.heap.objs.size:=ls he;have up:∀b o,b∉[e,it]->s.heap.get? b=some o->h2'.get? b=some o:=λb o hb q=>by
   simp only[wn,yY,or_false,not_or]at hb;exact(hs2.2 b hb.1).trans (hk b o hb.1 hb.2 q)
  have I1:Inv X pins σ H {s with heap:=h2',toks:=s.toks+1}:=I.turns (t':=s.toks+1) up hf;have fp:FpOk X pins H s.heap.objs.size:=I.fpOk (lw _) (I.hok.fresh (lw _));have g:h2'.get? s.heap.objs.size=some {cls:=.type "tuple",data:=.seq #[.int i s.toks,u]}:=(hs2.2 _ (zd es)).trans a3;have I2:=I1.trackO (o:=.tup [.int (i:Nat),x]) fp ⟨by show 2<=ww;decide,[.int i s.toks,u],.cons ⟨_,rfl⟩ (.cons ru .nil),_,g,rfl,_,rfl⟩;refine⟨.ref s.heap.objs.size,upd H s.heap.objs.size (.tup [.int (i:Nat),x]),I2,rfl,⟨_,x,rfl,fp.1,rfl,λzs hz=>by rw[I.list_inj hz q1];exact hx⟩,?_,λb hb=>?_⟩
  ·refine⟨⟨u,by simpa using he'⟩,?_⟩;obtain⟨o,q,r⟩:=a2;exact⟨o,(hs2.2 it (zd ne)).trans q,r⟩
  ·have hb':=(hf b hb).1;have ne':b≠s.heap.objs.size:=by
    obtain⟨o1,e1,_⟩:=h1;simp only[wn,yY,or_false]at hb;rcases hb with rfl | rfl
    ·exact ls he
    ·exact ls e1
   rw[aU ne'];exact hb'
 done:=by
  intro X hP hw hK hc i pins s σ H E I hf st hg;subst hP hw hK;obtain⟨xs,q1,hl⟩:=hg;obtain⟨⟨old,he⟩,h1⟩:=st;obtain⟨its,rv,p1,_⟩:=I.list q1;have l1:=rv.length;refine wpAny_pyNext_enum_end (I.ok.hd hc) he h1 p1.isList (by simp;omega) λh' hk=>⟨rfl,I.turns (ch:=[e,it]) (t':=s.toks) (λb o hb q=>?_) hf⟩
  simp only[wn,yY,or_false,not_or]at hb;exact hk b o hb.2 q
 self:=λ_ _ _ _ _ st h=>by obtain⟨⟨old,he⟩,_⟩:=st;exact AN he h
def xg (K:ac)(t:TA):TI:=λσ H R=>t σ H λvs H1=>∃l xs,vs=[.ref l]/\SqL K H1 l xs/\R (Ite K l) H1
theorem qG (K:ac){X:Cx}{elts:List Expr}{x1}{tpos:Pos}{a:Expr}{ta:TA}{p pos:Pos}(hg:Gl X "enumerate")(hm:X.mg "enumerate" = none)(ha:PA X [a] ta)(hK:X.K=K:=by rfl)(hs:yu [a] X.env=[(false,eval a X.env)]:=by rfl) :
  PI X (.Tuple elts x1 tpos) (.Call (.Name "enumerate" p) [a] [] pos) (xg K ta):=by
 subst hK;intro pins s σ H R I h;refine D6 (f_ I hg hm fE (yU (thn (ha pos pins s σ H _ I h) λus s1 ⟨vs,H1,I1,r1,q1⟩=>?_) hs rfl));obtain⟨l,xs,rfl,h1,q⟩:=q1;obtain⟨u,rfl,ru⟩:=kh r1;cases ru
 obtain⟨its,_,p1,_⟩:=I1.list h1;refine call_enumerate_list p1.isList λh' he hi hsz hk=>?_;refine AN he ?_;refine⟨_,_,_,_,H1,rfl,I1.kept (t':=s1.toks) hk,pX (show s1.heap.objs.size+1≠s1.heap.objs.size by omega),⟨⟨_,he⟩,hi⟩,λb hb=>?_,q⟩;have le:s1.heap.objs.size<=b:=by
  simp only[wn,yY,or_false]at hb;rcases hb with rfl | rfl <;> omega
 exact I1.fpOk le (I1.hok.fresh le)
section
variable {K:ac}{ts:TA}{as:AA}
def gS (k:Nat):List D->List D
 | []=>[]
 | d::ds=>.tup [.int (k:Nat),d]::gS (k+1) ds
theorem cZ:∀ {ds:List D} {b k:Nat} {d:D},(gS b ds)[k]? = some d->∃x,ds[k]? = some x/\d = .tup [.int ((b+k:Nat):Int),x]
 | [],b,k,d,h=>by simp[gS]at h
 | x::ds,b,0,d,h=>by
  simp only[gS,z_,zy]at h;exact⟨x,rfl,h.symm⟩
 | x::ds,b,k+1,d,h=>by
  simp only[gS,List.getElem?_cons_succ]at h;obtain⟨a,e1,e2⟩:=cZ (ds:=ds) (b:=b+1) (k:=k) h;exact⟨a,by simpa using e1,by rw[e2,show b+1+k=b+(k+1)by omega]⟩
theorem bR:∀(ds:List D) (b:Nat),(gS b ds).length=ds.length
 | [],b=>rfl
 | x::ds,b=>by simp only[gS,wS,bR ds]
theorem uw {S:Addr->Prop}{H:Hp}{l:Addr}{vs:List V}{ds:List D}(al:∀a,S a->H a≠none)(h1:SqL K H l vs)(r1:RepDs K (hid H S) vs ds):WkAt K S H (Ite K l) (gS 0 ds):=by
 intro k;constructor
 ·intro d e;obtain⟨x,ex,rfl⟩:=cZ e;rw[zw];obtain⟨v,e1,rv⟩:=r1.get ex;refine⟨⟨vs,v,h1,e1⟩,λz H' ⟨p,a,ez,hp,eH,ha⟩=>?_⟩;have a1:=ha vs h1;rw[e1]at a1;cases a1
  subst eH ez;have sm:Same H (upd H p (.tup [.int (k:Nat),v])):=(Same.refl H).new hp;have sm':Same (hid H S) (hid (upd H p (.tup [.int (k:Nat),v])) S):=bT λa o e n=>⟨sm a o e,n⟩
  refine⟨sm,?_⟩;unfold RepD;exact⟨p,[.int (k:Nat),v],rfl,(dU (λz=>al p z hp) bh),.cons (by unfold RepD;rfl) (.cons (rv.same sm') .nil)⟩
 ·intro z;rw[bR]at z;exact⟨vs,h1,by rw[r1.length];exact z⟩
def yf (pin:Nat->Bool)(as:AA):AI:=λρ q=>as ρ λrs ρ1=>match rs with
 | [r1]=>(match lA pin ρ1 r1 with
  | some (ds,c)=>q (gS 0 ds) c ρ1
  | _=>False)
 | _=>False
theorem lD {pin:Nat->Bool}(h:TAok K ts as):TIok K pin (xg K ts) (yf pin as):=by
 intro F σ ρ H q Rk r ha k;refine h F σ ρ H _ _ r ha λrs ρ1 vs H1 h1 r1 i1 k1=>?_;split at h1
 ·obtain⟨x,rfl,ix⟩:=i1.one;split at h1
  ·rename_i ds c e1;obtain⟨l1,us1,rfl,s1,w1⟩:=nQ r1 ix e1;refine⟨l1,us1,rfl,s1,k _ _ _ _ _ h1 r1 k1 λσ2 ρ2 H2 sm sv pn al hc=>?_⟩;obtain⟨v1,z1,rd1⟩:=w1 σ2 ρ2 H2 sm sv pn hc;exact uw (λa z=>(al a z).1) z1 rd1
  ·exact h1.elim
 ·exact h1.elim
end
open Builtin.SmallTypes (nextOf)
structure Feed (prog:wl)(w:yF)(it:Addr)(dep:List Addr)(St:Nat->Heap->Prop)(gv:Nat->Option bd):Prop where
 mem:it∈dep
 obj:∀i h,St i h->∃o vs n,h.get? it=some o/\o.data = .fields vs/\o.cls = .type n/\n ≠ "zip"
 keep:∀i h h',St i h->(∀b o,b∈dep->h.get? b=some o->h'.get? b=some o)->St i h'
 item:∀(A:yI) i (s:dL) x (Q:bd->dL->Prop) E,St i s.heap->gv i=some x->(∀h',St (i+1) h'->zf it s.heap h'->Q x {s with heap:=h'})->o0 (sK prog w) A (nextOf (.ref it)) Q E s
 fin:∀(A:yI) i (s:dL) (Q:bd->dL->Prop) E,A.handled=none->St i s.heap->gv i=none->(∀h' e,Fl it s.heap h'->(∃o,h'.get? e=some o/\o.cls = .type "StopIteration")->E (.ref e) {s with heap:=h'})->o0 (sK prog w) A (nextOf (.ref it)) Q E s
section
variable {prog:wl}{w:yF}
theorem k_ {it l:Addr}{xs:Array bd}(hne:l≠it):Feed prog w it [it,l] (λi h=>h.IsTupleIter it l i/\h.IsTuple l xs) (λi=>xs[i]?) where
 mem:=by simp
 obj:=λi h ⟨⟨o,e,c,d⟩,_⟩=>⟨o,_,_,e,d,c,by decide⟩
 keep:=λi h h' ⟨a,b⟩ k=>⟨a.at λo e=>k it o (by simp) e,by obtain⟨o,e,r⟩:=b;exact⟨o,k l o (by simp) e,r⟩⟩
 item:=λA i s x Q E ⟨a,b⟩ hx k=>by
  obtain⟨o,ho,hc,hd⟩:=id a;obtain⟨ol,hol,rr,nl,hdl⟩:=id b;unfold nextOf;refine bn (AH (name:=BK "__next__") a.typeIs As (AY As a.typeIs De ?_ (Db _)));show o0 _ _ (DX (.ref it) 0>>=_) _ _ s;refine bn (yG ho hd (x:=.ref l) rfl ?_);show o0 _ _ (if(Value.ref l==Value.none)=true then _ else _) _ _ s;rw[if_neg (λz=>by cases z)];show o0 _ _ (DX (.ref it) 1>>=_) _ _ s;refine bn (yG ho hd (x:=.int i 0) rfl ?_);show o0 _ _ (seqItems? (.ref l)>>=_) _ _ s;refine bn (Dm hol hdl ?_);simp only[zM,hx];refine bn (zq ho hd (by simp) (wv ⟨x,rfl,wv ?_⟩));refine k _ ⟨⟨_,yA _ ho (y9 (y8 hd _)),(Bt ..).trans hc,by rw[y8 hd];simp[yO]⟩,ol,?_,rr,nl,hdl⟩ (zV ..);exact((zV ..).2 l hne).trans hol
 fin:=λA i s Q E hh ⟨a,b⟩ hx k=>by
  obtain⟨o,ho,hc,hd⟩:=id a;obtain⟨ol,hol,rr,nl,hdl⟩:=id b;unfold nextOf;refine bn (AH (name:=BK "__next__") a.typeIs As (AY As a.typeIs De ?_ (Db _)));show o0 _ _ (DX (.ref it) 0>>=_) _ _ s;refine bn (yG ho hd (x:=.ref l) rfl ?_);show o0 _ _ (if(Value.ref l==Value.none)=true then _ else _) _ _ s;rw[if_neg (λz=>by cases z)];show o0 _ _ (DX (.ref it) 1>>=_) _ _ s;refine bn (yG ho hd (x:=.int i 0) rfl ?_);show o0 _ _ (seqItems? (.ref l)>>=_) _ _ s;refine bn (Dm hol hdl ?_);simp only[zM,hx];refine bn (ET (bn (zq ho hd (by simp) ?_)));show o0 _ _ (newExc (.type "StopIteration") []>>=_) _ _ _;refine bn ?_;simp only[newExc,newTuple];refine bn (zO ?_ (by size_fits));refine bn (m:=firstArgMember _ _) (Ac (a:=Value.none) (by first | rfl | (simp only[firstArgMember];rfl)) ?_);refine zO ?_ (by size_fits);simp only[raiseNew];refine bn (wpAny_handled ?_);first | rw[show A.in1.handled=none from hh] | rw[hh]
  refine bn (wv (wpAny_throw ?_));exact k _ _ (((zV ..).extBut.push _).push _) ⟨_,xL _ rfl,rfl⟩
variable {A:yI}{E:bd->dL->Prop}{s:dL}{z TI TO i1 i2:Addr}{d1 d2:List Addr}{S1 S2:Nat->Heap->Prop}{g1 g2:Nat->Option bd}
end
end L2
set_option maxHeartbeats 1000000
namespace L2
open PySem PySem.Spec PyProof.Rows
open PySem.MeetsSeq PySem.MeetsSeq2 PySem.MeetsSeq3
open PySem.AutoSeq1 (wpAny_loadPart')
def Fly (od:Option Addr)(h:Heap)(e C T:Addr):Prop :=
 ∃oe vs oT ts,h.get? e=some oe/\oe.cls = .ref C/\oe.dict=od/\oe.data = .fields vs/\vs[1]? = some (.ref T)/\T≠e/\h.get? T=some oT/\oT.data = .fields ts/\ts[3]? = some .none
structure Gone (fs:List Addr)(h h':Heap)(e:Addr)(hv:bd):Prop where
 keep:∀b o,h.get? b=some o->b≠e->hv ≠ .ref b->b∉fs->h'.get? b=some o
 slot:∀b o,h.get? b=some o->b≠e->hv ≠ .ref b->∃sl,h'.get? b=some {o with slots:=sl}
section
variable {M:C1}{A:yI}{E:bd->dL->Prop}{s:dL}{base:Heap}{env:Env}{outer:List Env}{L e C:Addr}{oe:Obj}{vs:Array bd}{od:Option Addr}
theorem ox {hd:bd}{had:Bool}{Q:Unit->dL->Prop}(fr:A.frames=some (env::outer))(ff:s.heap.FunFrames base (env::outer))(lf:env.frame=some L)
  (ge:s.heap.get? e=some oe) (gc:oe.cls = .ref C) (gd:oe.dict=od) (gf:oe.data = .fields vs) (gz:1<vs.size)
  (fin:∀h' T,s.heap.objs.size<=T->Fly od h' e C T->(∀b o,s.heap.get? b=some o->b≠e->b∉frs (env::outer)->h'.get? b=some o)->(∀b o,s.heap.get? b=some o->b≠e->∃sl,h'.get? b=some {o with slots:=sl})->Q () {s with heap:=h'}) :
  o0 M A (do let a <- frameOf env;let pl <- Ea L had;let b <- z4 hd a .none (yO L) .none pl;Do (.ref e) 1 b) (λ_ s'=>o0 M A (AK (.ref e) none) Q E s') E s:=by
 have off:e∉frs (env::outer):=λq=>by
  obtain⟨_,o,go,no⟩:=ff.mem q;cases ge.symm.trans go
  exact no vs gf
 refine bn (CS fr ff lf λha sa=>bn (CF λpl ip=>?_));unfold z4 DW;refine bn (zO ?_ (ip.sizeOk5 _ _ _ _ _));have ge1:ha.get? e=some oe:=(sa.2.1 e off).trans ge;have sz:ha.objs.size=s.heap.objs.size:=sa.1;generalize hT:([hd,Value.ref L,.none,yO L,.none]++(if pl.isEmpty then pc 6 Value.none else pl)).toArray=tv;have tz:3<tv.size:=by rw[<- hT,li,ms];simp only[wS,AW];omega
 have neT:e≠ha.objs.size:=yn (lc ge1);refine zq (im _ ge1) gf gz ?_;generalize hp:ha.push {cls:=.type "traceback",dict:=none,data:=.fields tv}=hb;have gT:hb.get? ha.objs.size=some {cls:=.type "traceback",dict:=none,data:=.fields tv}:=by rw[<- hp];exact xL _ rfl
 have kb:∀b o,ha.get? b=some o->hb.get? b=some o:=λb o q=>by rw[<- hp];exact im _ q
 have w1:=y8 gf λa=>a.setIfInBounds 1 (.ref ha.objs.size);have g3:=yA (yP λa=>a.setIfInBounds 1 (.ref ha.objs.size)) (kb e oe ge1) (y9 w1);have gT3:=(sB hb (yP λa=>a.setIfInBounds 1 (.ref ha.objs.size)) neT).trans gT;unfold AK;refine bn (yG g3 w1 (x:=.ref ha.objs.size) (by simp[gz]) ?_);rw[if_pos (by simp:(Value.ref ha.objs.size != Value.none)=true)];refine zq gT3 rfl tz ?_;have on:∀b o,b≠e->ha.get? b=some o->((hb.update e (yP λa=>a.setIfInBounds 1 (.ref ha.objs.size))).update ha.objs.size (yP λa=>a.setIfInBounds 3 ((none:Option Addr).elim Value.none λf=>yO f))).get? b=some o:=λb o ne q=>by
  rw[sB _ _ (yQ (lc q)),sB _ _ (zd ne)];exact kb b o q
 refine fin _ ha.objs.size (by rw[sz];exact lw _) ⟨_,_,_,_,(sB _ _ neT.symm).trans g3,(Bt _ _).trans gc,?_,w1,by simp[gz],neT.symm,yA _ gT3 (y9 (y8 rfl _)),y8 rfl _,by simp[tz]⟩ (λb o q ne nf=>on b o ne ((sa.2.1 b nf).trans q)) λb o q ne=>?_
 ·obtain⟨oc,od,oda,osl⟩:=oe;cases gf
  exact gd
 ·obtain⟨sl,q'⟩:=sa.2.2 b o q;exact⟨sl,on b _ ne q'⟩
theorem lv {hv:bd}{Q:Unit->dL->Prop}(fr:A.frames=some (env::outer))(ff:s.heap.FunFrames base (env::outer))(lf:env.frame=some L)
  (ge:s.heap.get? e=some oe) (gc:oe.cls = .ref C) (gd:oe.dict=od) (gf:oe.data = .fields vs) (g1:vs[1]? = some hv)
  (hh:hv = .none ∨ ∃T oT ts,hv = .ref T/\T≠e/\s.heap.get? T=some oT/\oT.data = .fields ts/\ts[3]? = some .none)
  (fin:∀h' T,s.heap.objs.size<=T->Fly od h' e C T->Gone (frs (env::outer)) s.heap h' e hv->Q () {s with heap:=h'}) :
  o0 M A (z7 (.ref e) env) (λ_ s'=>o0 M A (AK (.ref e) none) Q E s') E s:=by
 have gz:=(yV.mp g1).1;unfold z7;simp only[lf];refine bn (yG ge gf g1 ?_);rcases hh with rfl | ⟨T,oT,ts,rfl,nT,gT,fT,t3⟩
 ·rw[if_neg (by decide)];exact ox fr ff lf ge gc gd gf gz λh' T' q1 q2 q3 q4=>fin h' T' q1 q2 ⟨λb o a1 a2 _ a4=>q3 b o a1 a2 a4,λb o a1 a2 _=>q4 b o a1 a2⟩
 ·rw[if_pos (by simp:(Value.ref T != Value.none)=true)];refine bn (yG gT fT t3 ?_);rw[if_neg (by simp[yO]:¬(Value.none==yO L)=true)];refine bn (zq gT fT (yV.mp t3).1 ?_);have ot:∀b,b≠T->(s.heap.update T (yP λa=>a.setIfInBounds 3 Value.none)).get? b=s.heap.get? b:=λb q=>sB _ _ (zd q);have gT':=yA (yP λa=>a.setIfInBounds 3 Value.none) gT (y9 (y8 fT _));have nr:∀b o,s.heap.get? b=some o->(∀us,o.data ≠ .fields us)->b≠T:=λb o q nf z=>by
   subst z;cases gT.symm.trans q
   exact nf ts fT
  refine ox fr (ff.of_keeps λb o q nf=>⟨o,(ot b (nr b o q nf)).trans q,rfl⟩) lf ((ot e nT.symm).trans ge) gc gd gf gz λh' T' q1 q2 q3 q4=>fin h' T' ?_ q2 ⟨λb o a1 a2 a3 a4=>q3 b o ((ot b λz=>a3 (by rw[z])).trans a1) a2 a4,λb o a1 a2 a3=>q4 b o ((ot b λz=>a3 (by rw[z])).trans a1) a2⟩;rwa [CB]at q1
end
def Hot (od:Option Addr)(h0 h:Heap)(H:Hp)(e C:Addr):Prop :=
 ∃oe vs hv,h.get? e=some oe/\oe.cls = .ref C/\oe.dict=od/\oe.data = .fields vs/\vs[1]? = some hv/\h0.get? e=none/\H e=none /\
  (hv = .none ∨ ∃T oT ts,hv = .ref T/\T≠e/\h.get? T=some oT/\oT.data = .fields ts/\ts[3]? = some .none/\h0.get? T=none/\H T=none)
section
variable {X:Cx}{pins:List (Addr×Obj)}{σ:St}{H:Hp}{s:dL}{h0:Heap}{e C:Addr}{od:Option Addr}
theorem lvI {E:bd->dL->Prop}{Q:Unit->dL->Prop}(I:Inv X pins σ H s)(hs:X.stack=X.env::X.outer)(hf:X.env.frame=some X.env.locals)(hsub:∀b o,h0.get? b=some o->b<s.heap.objs.size)(hot:Hot od h0 s.heap H e C)
  (fin:∀h' ch,(∀b∈ch,h0.get? b=none/\H b=none)->e∈ch->Un (frs X.stack) ch H H s.heap h'->HOk X.prog X.w H h'->Hot od h0 h' H e C->Q () {s with heap:=h'}) :
  o0 (sK X.prog X.w) X.A (z7 (.ref e) X.env) (λ_ s'=>o0 (sK X.prog X.w) X.A (AK (.ref e) none) Q E s') E s:=by
 obtain⟨oe,vs,hv,ge,gc,gd,gf,g1,ye,ue,hh⟩:=hot;have hh':hv = .none ∨ ∃T oT ts,hv = .ref T/\T≠e/\s.heap.get? T=some oT/\oT.data = .fields ts/\ts[3]? = some .none:=by
  rcases hh with q | ⟨T,oT,ts,q1,q2,q3,q4,q5,_⟩
  ·exact .inl q
  ·exact .inr ⟨T,oT,ts,q1,q2,q3,q4,q5⟩
 refine lv (hs▸I.ok.frames) (hs▸I.stack) hf ge gc gd gf g1 hh' λh' T q1 ⟨oe',vs',oT',ts',f1,f2,f3,f4,f5,f6,f7,f8,f9⟩ g=>?_;have hch:∀b∈e::(match hv with | .ref T=>[T] | _=>[]),h0.get? b=none/\H b=none:=λb hb=>by
  rcases wn.mp hb with rfl | hb
  ·exact⟨ye,ue⟩
  ·rcases hh with rfl | ⟨T,oT,ts,rfl,_,_,_,_,y,u⟩
   ·cases hb
   ·rw[y7.mp hb];exact⟨y,u⟩
 have nch:∀b,b∉e::(match hv with | .ref T=>[T] | _=>[])->b≠e/\hv ≠ .ref b:=λb hb=>⟨λz=>hb (z ▸ .head _),λz=>hb (by subst z;exact .tail _ (.head _))⟩
 have there:∀b o,s.heap.get? b=some o->∃o',h'.get? b=some o'∨b=e∨hv = .ref b:=λb o q=>by
  by_cases z1:b=e
  ·exact⟨o,.inr (.inl z1)⟩
  ·by_cases z2:hv = .ref b
   ·exact⟨o,.inr (.inr z2)⟩
   ·obtain⟨sl,q'⟩:=g.slot b o q z1 z2;exact⟨_,.inl q'⟩
 refine fin h' _ hch (.head _) ⟨λb o q n nf nx=>g.keep b o q (nch b nx).1 (nch b nx).2 (by rw[<- hs];exact nf),λb o q n _ nx=>g.slot b o q (nch b nx).1 (nch b nx).2,λb o _ n _=>n,λb o q nx=>?_,λ_ _ q=>q,λ_ _ _ q=>q,λb ps q=>⟨#[],by rw[q];simp⟩⟩ (λa o q=>?_) ⟨oe',vs',_,f1,f2,f3,f4,f5,ye,ue,.inr ⟨T,oT',ts',rfl,f6,f7,f8,f9,?_,I.hok.fresh q1⟩⟩
 ·obtain⟨sl,q'⟩:=g.slot b o q (nch b nx).1 (nch b nx).2;exact⟨_,q'⟩
 ·have tr:∀b o',H b=some o'->b≠e/\hv ≠ .ref b/\b∉frs (X.env::X.outer):=λb o' z=>by
   refine⟨λw=>?_,λw=>?_,λw=>?_⟩
   ·rw[w,ue]at z;cases z
   ·rcases hh with y | ⟨T,oT,ts,y,_,_,_,_,_,u⟩
    ·rw[y]at w;cases w
    ·rw[y]at w;cases w;rw[u]at z;cases z
   ·rw[<- hs]at w;rw[I.stkFree b w]at z;cases z
  refine(I.hok a o q).stay (λb u hb z=>?_) (λ_ z=>z) λ_ _ z=>z;have:∃o',H b=some o':=by
   rcases hb with rfl | hb
   ·exact⟨_,q⟩
   ·exact⟨_,hb⟩
  obtain⟨o',ho'⟩:=this;obtain⟨a1,a2,a3⟩:=tr b o' ho';exact g.keep b u z a1 a2 a3
 ·cases z:h0.get? T with
  | none=>rfl
  | some o=>exact absurd (hsub T o z) (BL.mpr q1)
end
def odV:Option Addr->bd
 | none=>.none
 | some dx=>.ref dx
def Yg (h:Heap)(od:Option Addr):Prop:=∀dx,od=some dx->h.get? dx=none
def CX1 (P:wl)(w:yF):CXT:=λouter H s E e s' =>
 ∃a C od H',e = .ref a/\s'.os=s.os/\BG s'.gens/\Un (frs outer) [] H H' s.heap s'.heap/\HOk P w H' s'.heap/\Hot od s.heap s'.heap H' a C/\Yg s.heap od/\E (odV od) (some C) H'
section
variable {P:wl}{w:yF}{K:ac}{mg:Str->Option bd}{base:Heap}{N:List Str}{qual:Str}{scope:zA}{f:Addr}{cd:bd}{A:yI}{outer:List Env}{s0:dL}{H0:Hp}{E:XK}
theorem uh {pins:List (Addr×Obj)}{σ:St}{H:Hp}{s:dL}{e C:Addr}{od:Option Addr}(I:Inv (cxOf (CX1 P w) P w K mg base N qual scope f cd A outer s0 H0 E) pins σ H s)(hot:Hot od s0.heap s.heap H e C)(hyg:Yg s0.heap od)(he:E (odV od) (some C) H) :
  (cxOf (CX1 P w) P w K mg base N qual scope f cd A outer s0 H0 E).xe (.ref e) s:=by
 show o0 (sK P w) _ (BF _ (.ref e)) _ _ s;unfold BF;refine bn (lvI I rfl rfl (λb o q=>?_) hot λh' ch hch hin un hok hot'=>?_)
 ·exact nw (lc q) I.sz
 ·have lo:∀b o,s0.heap.get? b=some o->b∉ch:=λb o q z=>by rw[(hch b z).1]at q;cases q
  have nL:∀b o,s0.heap.get? b=some o->b≠s0.heap.objs.size:=λb o q=>yn (lc q);refine⟨e,C,od,H,rfl,I.os,I.bare,⟨λb o q n nf _=>?_,λb o q n hb _=>?_,λb o q n _=>I.base.free b o q n (λz=>nomatch z),λb o q _=>?_,I.base.tups,I.base.frzs,I.base.tbls⟩,hok,hot',hyg,he⟩
  ·refine un.keep b o (I.base.keep b o q n nf λz=>nomatch z) (I.base.free b o q n λz=>nomatch z) (λz=>?_) (lo b o q);rcases wn.mp z with z | z
   ·exact nL b o q z
   ·exact nf z
  ·obtain⟨sl,q'⟩:=I.base.slot b o q n hb λz=>nomatch z
   obtain⟨sl',q''⟩:=un.slot b _ q' (I.base.free b o q n λz=>nomatch z) (.tail _ hb) (lo b o q);exact⟨sl',q''⟩
  ·obtain⟨o',q'⟩:=I.base.there b o q λz=>nomatch z
   exact un.there b o' q' (lo b o q)
end
abbrev bmV:List bd:=[.type "ValueError",.type "Exception",.type "BaseException",.type "object"]
theorem vd {K:ac}{h:Heap}{x:Str}{C:Addr}{mg:Str->Option bd}(KX:K.In h)(hm:mg x=some (.ref C))(q:zB K C bmV "ValueError.__new__" = true):OwnCls x C bmV "ValueError.__new__" mg h:=by
 unfold zB at q;split at q;next dd cd sl lk =>
  split at q;next C' bm k0 k1 k2 k3 n k5 em es =>
   simp only[y4,beq_iff_eq,Ai]at q;obtain⟨⟨⟨⟨⟨rfl,rfl⟩,nd⟩,tl⟩,nk⟩,ni⟩:=q;obtain⟨a1,a2,a3,a4,a5,a6,a7,a8,a9,a10,a11⟩:=cd;obtain⟨l⟩:=sl;dsimp only at em nd nk ni es;subst em nd es;exact⟨hm,bm,a4,a1,a5,a2,a6,a7,a8,a9,a10,dd,k0,k1,k2,k3,k5,_,KX _ _ lk,.of_isNs (BY KX nk),PySem.W.nsMap_none_of_in KX nk ni,BX KX tl⟩
  ·cases q
 ·cases q
theorem HOk.get {P:wl}{w:yF}{H:Hp}{h:Heap}{a:Addr}{o:HO}(k:HOk P w H h)(e:H a=some o):∃u,h.get? a=some u:=by
 have x:=k a o e;cases o with
 | lst xs=>obtain⟨_,_,_,_,e⟩:=x;exact⟨_,e⟩
 | tup xs=>obtain⟨_,_,_,ob,e,_⟩:=x;exact⟨_,e⟩
 | dK kvs=>obtain⟨_,_,_,_,o,_,_,e,_⟩:=x;exact⟨_,e⟩
 | dT kvs=>obtain⟨_,_,_,_,o,_,_,e,_⟩:=x;exact⟨_,e⟩
 | set S n=>obtain⟨o,_,_,_,e,_⟩:=x;exact⟨_,e⟩
 | ins C dx fs=>obtain⟨_,_,_,e,_⟩:=x;exact⟨_,e⟩
 | own y=>exact x
 | xd fs=>obtain⟨_,⟨_,_,_,e,_⟩,_⟩:=x;exact⟨_,e⟩
 | rng lo hi=>obtain⟨_,_,_,e⟩:=x;exact⟨_,e⟩
 | frz ob u=>obtain⟨e,_⟩:=x;exact⟨_,e⟩
 | tbl ps=>exact⟨_,x⟩
 | met f y=>exact⟨_,x⟩
 | ext φ=>obtain⟨_,e,_⟩:=x;exact e
 | big ps φ=>obtain⟨_,_,e,_⟩:=x;exact e
theorem Inv.back0 {X:Cx}{pins:List (Addr×Obj)}{σ:St}{H:Hp}{s:dL}(I:Inv X pins σ H s)(hx:X.ex=[]){b:Addr}(h:s.heap.get? b=none):X.s₀.heap.get? b=none:=by
 cases q:X.s₀.heap.get? b with
 | none=>rfl
 | some o =>
  obtain⟨o',q'⟩:=I.base.there b o q (by rw[hx];simp);rw[h]at q';cases q'
def Fld (H:Hp):Option Str->Option Addr->V->Prop
 | none,od,v=>od=none/\v = .non
 | some f,od,v=>∃dx,od=some dx/\H dx=some (.xd [(f,v)])
structure Tie (X:Cx)(C:Addr)(fn:Option Str)(R:VK):Prop where
 ex:X.ex=[]
 run:∀ {pins:List (Addr×Obj)} {σ:St} {H:Hp} {s:dL} {e:Addr} {od:Option Addr} {v:V},Inv X pins σ H s->Hot od X.s₀.heap s.heap H e C->Yg X.s₀.heap od->Fld H fn od v->R v H->X.xe (.ref e) s
def SPr (X:Cx)(pins:List (Addr×Obj))(D:Ends)(f:Flow)(s':dL):Prop :=
 match f with
 | .next=>∃ σ' H',Inv X pins σ' H' s'/\D.nx σ' H'
 | _=>False
def PSr (X:Cx)(R:VK)(st:Stmt)(t:TS):Prop :=
 ∀(pins:List (Addr×Obj)) (s:dL) (σ:St) (H:Hp) (D:Ends),D.rt=R->Inv X pins σ H s->t D σ H->o0 (sK X.prog X.w) X.A (exec st X.env) (SPr X pins D) X.xe s
def PSsr (X:Cx)(R:VK)(st:List Stmt)(t:TS):Prop :=
 ∀(pins:List (Addr×Obj)) (s:dL) (σ:St) (H:Hp) (D:Ends),D.rt=R->Inv X pins σ H s->t D σ H->o0 (sK X.prog X.w) X.A (execs st X.env) (SPr X pins D) X.xe s
def uc (D:Ends):Ends:={nx:=D.nx,rt:=λ_ _=>False,bk:=λ_ _=>False,ct:=λ_ _=>False}
section
variable {X:Cx}{R:VK}{C:Addr}
theorem bS {st:Stmt}{t:TS}(h:PS X.nox st t)(ht:∀D σ H,t D σ H->t (uc D) σ H:=by intro _ _ _ h;exact h):PSr X R st t:=λpins s σ H D _ I hw=>by
 refine yJ (h pins s σ H (uc D) (I.wish _) (ht D σ H hw)) (λf s' q=>?_) λ_ _ z=>yD z;cases f with
 | next=>obtain⟨σ',H',I',q⟩:=q;exact⟨σ',H',I'.unwish,q⟩
 | brk=>obtain⟨_,_,_,q⟩:=q;exact q
 | cont=>obtain⟨_,_,_,q⟩:=q;exact q
 | ret u=>obtain⟨_,_,_,_,_,q⟩:=q;exact q
theorem bq:PSsr X R [] tNext:=λ_ _ σ H _ _ I h=>AB ⟨σ,H,I,h⟩
theorem aE {st:Stmt}{rest:List Stmt}{t u:TS}(h1:PSr X R st t)(h2:PSsr X R rest u):PSsr X R (st::rest) (tSeq t u):=by
 intro pins s σ H D e I h;refine BR (thn (h1 pins s σ H {D with nx:=u D} e I h) λf s1 q=>?_);cases f with
 | next =>
  obtain⟨σ',H',I',q⟩:=q;exact h2 pins s1 σ' H' D e I' q
 | ret v=>exact q
 | brk=>exact q
 | cont=>exact q
theorem dZ {st:Stmt}:PSr X R st tNever:=λ_ _ _ _ _ _ _ h=>h.elim
theorem cN {st:List Stmt}:PSsr X R st tNever:=λ_ _ _ _ _ _ _ h=>h.elim
theorem fb {c:Expr}{a b:List Stmt}{tc:TT}{t u:TS}{pos:Pos}(hc:PT X.nox c tc)(ha:PSsr X R a t)(hb:PSsr X R b u):PSr X R (.If c a b pos) (tIfS tc t u):=by
 intro pins s σ H D e I h;refine wpAny_If (thn (hc.nox pins s σ H _ I h) λd s1 ⟨H1,I1,q1⟩=>?_);cases d with
 | true=>exact ha pins s1 σ H1 D e I1 q1
 | false=>exact hb pins s1 σ H1 D e I1 q1
theorem i6 {x:Str}(T:Tie X C none R)(hc:X.calm=true)(hm:X.mg x=some (.ref C))(hq:zB X.K C bmV "ValueError.__new__" = true){e0:Expr}{v0:V}{np cpos pos:Pos}(ha:PE X.nox e0 (tC v0))
  (hg:Gl X x:=by rfl) (he:yu [e0] X.env=[(false,eval e0 X.env)]:=by rfl) (hdb:(x==("__debug__" : Str))=false:=by decide):PSr X R (.Raise (some (.Call (.Name x np) [e0] [] cpos)) none pos) (tRet (tC .non)):=by
 intro pins s σ H D e I h;obtain⟨tl,N,nm,q,bs,hdct,sn,sub,ab,col,dd,k0,k1,k2,k3,k5,mN,hC,hN,hni,tw⟩:=(vd I.mod.kin hm hq).obj;refine wpAny_Raise_call_subT (k5:=k5) (k3:=k3) (k2:=k2) (k1:=k1) (k0:=k0) (dd:=dd) (col:=col) (ab:=ab) (sub:=sub) (sn:=sn) (hdct:=hdct) (bs:=bs) (N:=N) (q:=q) (nm:=nm) (C:=C) (bm:=tl) (mN:=mN) A4 (tw.hasType (by decide +kernel)) (I.ok.hd hc) (by rw[he];rfl) hni (gk I hg hm ⟨rfl,?_⟩ hdb);rw[he];refine AR (Au ?_);refine thn (ha.nox pins s σ H (λv H'=>H'=H) I rfl) λu s1 ⟨x,H1,I1,r1,q1⟩=>Az ?_;subst q1;refine⟨rfl,by show(1:Nat)<=_;decide,I1.bk _ _ hC,hN.keeps I1.bk,tw.keeps I1.bk,λh' a mk=>?_⟩;obtain⟨tt,g1,g2,g3⟩:=mk.there;refine T.run (I1.kept (t':=s1.toks) mk.keeps) ⟨_,_,.none,g1,rfl,rfl,rfl,rfl,I1.back0 T.ex mk.new,?_,.inl rfl⟩ (λ_ z=>nomatch z) ⟨rfl,rfl⟩ (e▸h);cases z:H1 a with
 | none=>rfl
 | some o =>
  obtain⟨u,z'⟩:=I1.hok.get z;rw[mk.new]at z';cases z'
end
theorem PA.nox {X:Cx}{es:List Expr}{t:TA}(h:PA X.nox es t):PA X es t:=λpos pins s σ H Q I hw =>
 yJ (h pos pins s σ H Q (I.wish _) hw) (λ_ _ ⟨xs,H',I',r,q⟩=>⟨xs,H',I'.unwish,r,q⟩) λ_ _ z=>yD z
def XW (E:XK)(C:Addr)(fn:Option Str):VK:=λv H'=>∀od,Fld H' fn od v->E (odV od) (some C) H'
def spX (C:Addr)(fn:Option Str)(sp:Sp):Sp:=λvs H Q E=>sp vs H (XW E C fn) E
structure OkX (P:wl)(w:yF)(K:ac)(mg:Str->Option bd)(base:Heap)(k:Nat)(x:Str)(ps:List Str)(C:Addr)(fn:Option Str)(sp:Sp):Prop where
 ex:∃f fd,mg x=some (.ref f)/\zQ K (.ref f)=true/\ly K fd ps []/\FnOk P w K mg base (CX1 P w) k f fd ps (spX C fn sp)
section
variable {P:wl}{w:yF}{K:ac}{mg:Str->Option bd}{base:Heap}{N:List Str}{qual:Str}{scope:zA}{f:Addr}{cd:bd}{A:yI}{outer:List Env}{s0:dL}{H0:Hp}{E:XK}{C:Addr}{fn:Option Str}{od:Option Addr}
theorem tie1:Tie (cxOf (CX1 P w) P w K mg base N qual scope f cd A outer s0 H0 E) C fn (XW E C fn):=⟨rfl,λI hot hy hf hr=>uh I hot hy (hr _ hf)⟩
theorem Hot.older {h0 h1 h:Heap}{H:Hp}{e C:Addr}(q:Hot od h1 h H e C)(le:∀b,h1.get? b=none->h0.get? b=none):Hot od h0 h H e C:=by
 obtain⟨oe,vs,hv,a1,a2,a3,a4,a5,a6,a7,a8⟩:=q;refine⟨oe,vs,hv,a1,a2,a3,a4,a5,le _ a6,a7,?_⟩;rcases a8 with z | ⟨T,oT,ts,b1,b2,b3,b4,b5,b6,b7⟩
 ·exact .inl z
 ·exact .inr ⟨T,oT,ts,b1,b2,b3,b4,b5,le _ b6,b7⟩
theorem wG:gW (CX1 P w) (cxOf (CX1 P w) P w K mg base N qual scope f cd A outer s0 H0 E) E:=by
 rintro pins σ H s e s' I ⟨a,C,od,H',rfl,os,bare,un,hok,hot,hy,he⟩;exact uh (I.call' os un hok bare λb z=>nomatch z) (hot.older λb q=>I.back0 rfl q) (λdx q=>I.back0 rfl (hy dx q)) he
end
section
variable {X:Cx}{E:XK}{C:Addr}{fn:Option Str}{K:ac}{S:ASp}
theorem n_ {k:Nat}{x:Str}{ps:List Str}{p cpos pos:Pos}{e:Expr}{es:List Expr}{t:TA}(F:OkX X.prog X.w X.K X.mg X.base k x ps C fn (spA K S))(hr:Room k X.A)(hx:gW (CX1 X.prog X.w) X E)(ha:PA X.nox (e::es) t)(hg:Gl X x:=by rfl)
  (hdb:(x==("__debug__" : Str))=false:=by decide) (he:yu (e::es) X.env=(false,eval e X.env)::yu es X.env:=by rfl) (hpl:(Al cpos (yu es X.env)).any (·.1)=false:=by rfl)
  (hs:AJ (.Call (.Name x p) (e::es) [] cpos) none pos.line X.env=pure false:=by rfl) :
  PSr X (XW E C fn) (.Expr (.Call (.Name x p) (e::es) [] cpos) pos) (tRet (kE (spA K S) [] E0 t)):=by
 obtain⟨f,fd,hm,hk,hb,F⟩:=F.ex;intro pins s σ H D e1 I h;have pe:=kN (p:=p) (sp:=spX C fn (spA K S)) (E:=E) F hr hg hm hk hb .nil hx ha.nox hdb he hpl;have h':kE (spX C fn (spA K S)) [] E t σ H λ_ _=>False:=by
  have h2:t σ H λvs H1=>spA K S (vs++[]) H1 D.rt E0:=h;rw[e1]at h2;exact h2
 exact wpAny_Expr_any (thn (pe pins s σ H _ I h') λv s1 ⟨_,_,_,_,q1⟩=>q1.elim) I.quiet hs
theorem u6 {R:VK}{body:List Stmt}{t:TS}(h:PSsr X R body t):PSs X body (λ_ σ H=>∃D0:Ends,D0.rt=R/\(∀ σ H,¬D0.nx σ H)/\t D0 σ H):=by
 rintro pins s σ H D I ⟨D0,e,no,ht⟩;refine thn (h pins s σ H D0 e I ht) λfl s' q=>?_;cases fl with
 | next=>obtain⟨σ',H',_,q⟩:=q;exact(no _ _ q).elim
 | ret v=>exact yD q
 | brk=>exact yD q
 | cont=>exact yD q
end
theorem DefN.aokX {P:wl}{w:yF}{K:ac}{mg:Str->Option bd}{base:Heap}{x:Str}{st:Stmt}{N ps:List Str}{k:Nat}{a:AS}(D:DefN K mg x st ps)(Sc:bG N ps (aM st))(pr:Nat->Bool)(us:En)(S:ASp)(C:Addr)(fn:Option Str)(hus:pc (N.length - ps.length) Sv.un=us)
  (hbody:∀(f:Addr) (cdv:bd) (A:yI) (outer:List Env) (s:dL) (H:Hp) (E:XK),Room k (A.deeper (A0 x (aM st) s.heap.objs.size f cdv)) ->
   ∃t,PSsr (cxOf (CX1 P w) P w K mg base N x (aM st) f cdv A outer s H E) (XW E C fn) (cD st) t/\TSok K pr t a)
  (hS:∀ss q,S ss q->ss.length=ps.length/\ownB pr ss 0=true/\a ⟨λ_=>False,λr ρ=>(∃d,r = .d d)/\q r (outS ss ρ),λ_=>False,λ_=>False⟩ (ss++us)):OkX P w K mg base (k+1) x ps C fn (spA K S):=by
 have lenOk:∀vs H Q E,spX C fn (spA K S) vs H Q E->vs.length=ps.length:=λvs H Q E h=>by
  obtain⟨ss,Z,q,r,hs',_⟩:=h;have:=r.len;rw[db]at this;rw[this];exact(hS ss q hs').1
 obtain⟨f,fd,hm,F,hb⟩:=D.ex;refine⟨f,fd,hm,F.kp,.all hb,?_⟩;obtain⟨oc,od,kV,doc,pm,an,cdv,ct,osl,rfl,lk,hcd⟩:=F.ex;refine xm lk hcd Sc lenOk λA outer s H vs Q E hr h=>?_;have hl:=lenOk _ _ _ _ h;obtain⟨ss,Z,q,r0,hs',post⟩:=h;obtain⟨h1,h2,h3⟩:=hS ss q hs';obtain⟨t,ht,tok⟩:=hbody f cdv A outer s H E hr;refine⟨_,u6 ht,{nx:=λ_ _=>False,rt:=XW E C fn,bk:=λ_ _=>False,ct:=λ_ _=>False},rfl,λ_ _ z=>z,?_⟩;have hp:∀i a,(F0 vs ss H Z).pin i a->pr i=true:=λi a h=>by
  rcases h with h | h
  ·have:=mQ h2 i h.1;rwa [zw]at this
  ·exact h.elim
 unfold iu;rw[hl];rw[<- hus]at h3;refine tok (F0 vs ss H Z) _ _ H _ _ hp (r0.ext _) h3 ⟨λ_ _ _ z=>z.elim,λ_ _ _ z=>z.elim,λ_ _ _ z=>z.elim,λσ' ρ' rr v H' hq r=>?_⟩;obtain⟨⟨d,e⟩,hq⟩:=hq;subst e;obtain⟨r1,r2⟩:=r;obtain⟨o1,o2,o3⟩:=r0.out r1;exact post (.d d) _ v H' hq o3 (λi z=>nomatch z) ⟨o1,r2.same o2⟩
section
variable {X:Cx}{pins:List (Addr×Obj)}{σ σ1:St}{H H1:Hp}{s s1:dL}{h':Heap}{ch:List Addr}{e C:Addr}
theorem Inv.hot (I1:Inv X pins σ1 H1 s1)(I:Inv X pins σ H s)(hx:X.ex=[])(un:Un (frs X.stack) ch H H s.heap h')(hok:HOk X.prog X.w H h')(hch:∀b∈ch,s1.heap.get? b=none):Inv X pins σ H {s with heap:=h'}:=by
 have n0:∀b o,X.s₀.heap.get? b=some o->b∉ch:=λb o q z=>by
  obtain⟨o',q'⟩:=I1.base.there b o q (by rw[hx];simp);rw[hch b z]at q';cases q'
 have nf:∀b o,X.s₀.heap.get? b=some o->b∉X.fs->b∉frs X.stack:=λb o q n z=>by
  rcases wn.mp (I.stkSub b z)with z | z
  ·exact absurd (nw (lc q) I.ok.above) (by rw[z];exact zu _)
  ·exact n z
 have nx:∀b,b∉X.ex:=λb=>by rw[hx];simp
 obtain⟨m,⟨o,es,ep,ho,r⟩,hl⟩:=id I.loc;have nL:X.env.locals∉ch:=λz=>by
  obtain⟨m1,⟨o1,_,_,ho1,_⟩,_⟩:=id I1.loc;rw[hch _ z]at ho1;cases ho1
 have nC:∀x c,X.env.cells.lookup x=some c->c∉ch:=λx c q z=>by
  obtain⟨v,o1,ho1,_⟩:=I1.cell x c q;rw[hch _ z]at ho1;cases ho1
 have cell:∀ {x c v},X.env.cells.lookup x=some c->s.heap.IsCell c v->Heap.IsCell h' c v:=λ{x c v} q ⟨oc,hoc,hd⟩=>by
  obtain⟨sl,q'⟩:=un.any hoc (I.freeC x c q) (nC x c q);exact⟨_,q',hd⟩
 obtain⟨sl,hL⟩:=un.any ho I.free nL;refine⟨I.ok,I.os,I.bare,⟨λb o q n f _=>?_,λb o q n f _=>?_,λb o q n _=>I.base.free b o q n (nx b),λb o q _=>?_,I.base.tups,I.base.frzs,I.base.tbls⟩,⟨m,⟨_,es,ep,hL,r⟩,λi x v a1 a2 a3=>?_⟩,λx c q=>?_,I.free,I.freeC,λp hp=>?_,hok,I.len⟩
 ·exact un.keep b o (I.base.keep b o q n f (nx b)) (I.base.free b o q n (nx b)) (nf b o q f) (n0 b o q)
 ·obtain⟨sl1,q1⟩:=I.base.slot b o q n f (nx b);obtain⟨sl2,q2⟩:=un.any q1 (I.base.free b o q n (nx b)) (n0 b o q);exact⟨sl2,q2⟩
 ·obtain⟨o',q'⟩:=I.base.there b o q (nx b);exact un.there b o' q' (n0 b o q)
 ·obtain⟨u,ru,lk⟩:=hl i x v a1 a2 a3;refine⟨u,ru,?_⟩;rcases lk with z | ⟨z1,c,z2,z3⟩
  ·exact .inl z
  ·exact .inr ⟨z1,c,z2,cell z2 z3⟩
 ·obtain⟨v,hv⟩:=I.cell x c q;exact⟨v,cell q hv⟩
 ·obtain⟨p1,p2,p3,p4,p5⟩:=I.pin p hp;refine⟨un.keep _ _ p1 p2 (λz=>?_) (λz=>?_),p2,p3,p4,p5⟩
  ·rcases wn.mp (I.stkSub _ z)with z | z
   ·exact p3 z
   ·exact p4 z
  ·have:=(I1.pin p hp).1;rw[hch _ z]at this;cases this
theorem sfI {A:yI}{E:bd->dL->Prop}{Q:Unit->dL->Prop}{h0:Heap}{od:Option Addr}(I:Inv X pins σ H s)(hot:Hot od h0 s.heap H e C)
  (fin:∀h' ch,(∀b∈ch,h0.get? b=none)->Un (frs X.stack) ch H H s.heap h'->HOk X.prog X.w H h'->(∃oe vs,h'.get? e=some oe/\oe.cls = .ref C/\oe.dict=od/\oe.data = .fields vs)->Q () {s with heap:=h'}) :
  o0 (sK X.prog X.w) A (AK (.ref e) none) Q E s:=by
 obtain⟨oe,vs,hv,ge,gc,gd,gf,g1,ye,ue,hh⟩:=hot;unfold AK;refine bn (yG ge gf g1 ?_);rcases hh with rfl | ⟨T,oT,ts,rfl,nT,gT,fT,t3,yT,uT⟩
 ·rw[if_neg (by decide)];exact wv (fin s.heap [] (λ_ z=>nomatch z) (.kept λ_ _ q=>q) I.hok ⟨oe,vs,ge,gc,gd,gf⟩)
 ·rw[if_pos (by simp:(Value.ref T != Value.none)=true)];refine zq gT fT (yV.mp t3).1 ?_;have ot:∀b,b≠T->(s.heap.update T (yP λa=>a.setIfInBounds 3 ((none:Option Addr).elim Value.none λf=>yO f))).get? b=s.heap.get? b:=λb q=>sB _ _ (zd q);have nin:∀b,b∉[T]->b≠T:=λb q z=>q (by rw[z];exact .head _);refine fin _ [T] (λb z=>by rw[y7.mp z];exact yT) ⟨λb o q _ _ n=>(ot b (nin b n)).trans q,λb o q _ _ n=>⟨o.slots,(ot b (nin b n)).trans q⟩,λ_ _ _ n _=>n,λb o q n=>⟨o,(ot b (nin b n)).trans q⟩,λ_ _ q=>q,λ_ _ _ q=>q,λb ps q=>⟨#[],by rw[q];simp⟩⟩ (λa o q=>?_) ⟨oe,vs,(ot e nT.symm).trans ge,gc,gd,gf⟩;refine(I.hok a o q).stay (λb u hb z=>(ot b λw=>?_).trans z) (λ_ z=>z) λ_ _ z=>z;subst w;rcases hb with hb | hb
  ·rw[<- hb,uT]at q;cases q
  ·rw[uT]at hb;cases hb
end
def r9 (X:Cx)(body:List Stmt)(c:Expr):Prop:=∀(Q:Flow->dL->Prop) (E:bd->dL->Prop) (pins:List (Addr×Obj)) (σ:St) (H:Hp) (s:dL),Inv X pins σ H s->o0 (sK X.prog X.w) X.A (eval c X.env) (λ_ _=>False) E s->o0 (sK X.prog X.w) X.A (execs body X.env) Q E s
section
variable {X:Cx}{K:ac}{S:ASp}
theorem qC {body:List Stmt}{t:TS}{h0:Bc}{hs:List Bc}{pos:Pos}(h:PSs X.nox body t):PS X (.Try body (h0::hs) [] [] pos) t:=by
 intro pins s σ H D I ht;refine Fh (yJ (h pins s σ H D (I.wish _) ht) (λf s1 q=>?_) λ_ _ z=>yD z);have q':=SP.unwish q;cases f with
 | next=>exact AB q'
 | ret v=>exact q'
 | brk=>exact q'
 | cont=>exact q'
theorem pf {st:Stmt}{t u:TS}(h1:PS X st t)(h2:PS X st u):PS X st (λD σ H=>t D σ H∨u D σ H):=λpins s σ H D I h=>h.elim (h1 pins s σ H D I) (h2 pins s σ H D I)
end
end L2
namespace L2
open PySem PySem.Spec PyProof.Rows PySem.W
section
variable {K:ac}{pr:Nat->Bool}{t u:TS}{a b:AS}{S:ASp}{ts:TA}{as:AA}{th:Addr->TS}{ah:AS}{i:Nat}
def aOr2 (a b:AS):AS:=λk ρ=>a k ρ∨b k ρ
theorem h8 (h1:TSok K pr t a)(h2:TSok K pr u b):TSok K pr (λD σ H=>t D σ H∨u D σ H) (aOr2 a b):=λF σ ρ H D e hp r ha k=>ha.elim (λz=>.inl (h1 F σ ρ H D e hp r z k)) λz=>.inr (h2 F σ ρ H D e hp r z k)
end
section
variable {X:Cx}{pins:List (Addr×Obj)}{σ σ1:St}{H H1:Hp}{s s1:dL}{h':Heap}{e C:Addr}
def mcx (X:Cx)(e:Addr):Cx:={X with A:=X.A.mark (some (.ref e)),calm:=false,xe:=λ_ _=>False}
theorem Inv.mcx (I:Inv X pins σ H s)(e:Addr):Inv (mcx X e) pins σ H s :=
 ⟨⟨I.ok.mod,I.ok.kind,I.ok.glob,I.ok.blt,I.ok.above,I.ok.inj,I.ok.has,I.ok.cab,λz=>(nomatch z),I.ok.frames,I.ok.stk,I.ok.exf,I.ok.bs,I.ok.bsz,I.ok.noex,I.ok.exfs,I.ok.funs,I.ok.frf⟩,I.os,I.bare,I.base,I.loc,I.cell,I.free,I.freeC,I.pin,I.hok,I.len⟩
end
structure ECls (C:Addr)(h:Heap):Prop where
 obj:∃bm N nm q bs hdct sn sub ab col dd k0 k1 k2 k3 k5,h.get? C=some (Ad nm q C N bs bm hdct sn sub ab col dd k0 k1 k2 k3 k5 "ValueError.__new__")/\B0 h bmV bm
def fA (K:ac)(C:Addr):Bool:=match K.lookup C with
 | some ⟨.type "type",_,.cls cd,sl⟩=>(match cd.mro,sl.toList with
  | .ref C'::bm,[_,_,_,_,some (.builtin n),_]=>C'==C&&n == "ValueError.__new__" && !cd.hasDel&&Ee K bmV bm
  | _,_=>false)
 | _=>false
theorem ecls {K:ac}{h:Heap}{C:Addr}(KX:K.In h)(q:fA K C=true):ECls C h:=by
 unfold fA at q;split at q;next dd cd sl lk =>
  split at q;next C' bm k0 k1 k2 k3 n k5 em es =>
   simp only[y4,beq_iff_eq,Ai]at q;obtain⟨⟨⟨rfl,rfl⟩,nd⟩,tl⟩:=q;obtain⟨a1,a2,a3,a4,a5,a6,a7,a8,a9,a10,a11⟩:=cd;obtain⟨l⟩:=sl;dsimp only at em nd es;subst em nd es;exact⟨bm,a4,a1,a5,a2,a6,a7,a8,a9,a10,dd,k0,k1,k2,k3,k5,KX _ _ lk,BX KX tl⟩
  ·cases q
 ·cases q
theorem rA {M:C1}{A:yI}{E:bd->dL->Prop}{h:Heap}{g:Array DA}{d:Drawn}{t:Nat}{os:OsState}{e C Dc:Addr}{oe:Obj}{Q:Bool->dL->Prop}{b:Bool}
  (oD:ECls Dc h) (ge:h.get? e=some oe) (gc:oe.cls = .ref C) (hs:∀(A':yI) (E':bd->dL->Prop) (Q':Bool->dL->Prop),Q' b ⟨h,g,d,t,os⟩->o0 M A' (isSubtype (.ref C) (.ref Dc)) Q' E' ⟨h,g,d,t,os⟩)
  (hq:Q b ⟨h,g,d,t,os⟩):o0 M A (excMatches (.ref e) (.ref Dc)) Q E ⟨h,g,d,t,os⟩:=by
 obtain⟨b2,N2,m2,q2,s2,c2,n2,u2,a2,l2,d2,k20,k21,k22,k23,k25,hD,T2⟩:=oD.obj;have hB:(Value.ref Dc::b2).contains (.type "BaseException")=true:=by rw[Bk,T2.hasType (b:=true) (by decide +kernel),Bd]
 have f:=tc_notTuple;unfold excMatches;repeat (first | (with_reducible refine zv ge ?_;rw[gc]) | with_reducible refine zv hD ?_ | (with_reducible refine Bp hD ?_;rw[hB]) | wp_step)
 refine hs _ _ _ ?_;cases b with
 | true =>
  repeat wp_step
  exact hq
 | false =>
  repeat wp_step
  exact hq
section
variable {X:Cx}{K:ac}{S:ASp}
def HB (X:Cx)(C:Addr)(od:Option Addr)(hs:List Bc)(tH:Addr->TS):Prop :=
 ∀(a:Addr) (D:Ends) (pins:List (Addr×Obj)) (σ:St) (H1 H2:Hp) (s1 s3:dL),Inv X pins σ H1 s1->Inv X pins σ H2 s3->Hot od s1.heap s3.heap H2 a C->tH a D σ H2 ->
  o0 (sK X.prog X.w) X.A (handleBy (.ref a) X.env hs) (SP X pins D) X.xe s3
theorem hI {y:Str}{C Dc:Addr}{od:Option Addr}{np hpos:Pos}{suite:List Stmt}{b0:Stmt}{rest:List Bc}{th:TS}
  (hex:X.ex=[]) (hy:X.mg y=some (.ref Dc)) (q2:fA X.K Dc=true) (q3:zg X.K (.ref C) (.ref Dc)=some true)
  (hh:∀a,PSs (mcx X a) (b0::suite) th) (hgy:Gl X y:=by rfl) (hdy:(y==("__debug__" : Str))=false:=by decide) :
  HB X C od (.ExceptHandler (some (.Name y np)) none (b0::suite) hpos::rest) (λ_=>th):=by
 intro a D pins σ H1 H2 s1 s3 I1 I3 hot3 hW;obtain⟨oe3,vs3,hv3,ge3,gc3,gd3,gf3,g13,y3,u3,hh3⟩:=id hot3;refine wpAny_handleBy_cons (codeAny_handlers_test (gk (I3.mcx a) hgy hy ?_ hdy)) (by intro q;cases q);refine rA (b:=true) (ecls I3.kIn q2) ge3 gc3 (λA' E' Q' q=>(PySem.W.looks_subIn I3.kIn q3).at q) (codeAny_handlers_suite ?_);refine sfI I3 hot3 λh4 ch4 hch4 un4 hok4 ⟨oe4,vs4,ge4,gc4,gd4,gf4⟩=>?_;have I4:=Inv.hot I1 I3 hex un4 hok4 hch4;refine yJ (hh a pins _ _ _ D (I4.mcx a) hW) (λfl s6 q6=>?_) λ_ _ z=>yD z;have go:∀ {σ6:St} {H6:Hp},Inv (L2.mcx X a) pins σ6 H6 s6->Inv X pins σ6 H6 s6:=λI6=>⟨I3.ok,I6.os,I6.bare,I6.base,I6.loc,I6.cell,I6.free,I6.freeC,I6.pin,I6.hok,I6.len⟩
 cases fl with
 | next=>obtain⟨σ6,H6,I6,q⟩:=q6;exact⟨σ6,H6,go I6,q⟩
 | brk=>obtain⟨σ6,H6,I6,q⟩:=q6;exact⟨σ6,H6,go I6,q⟩
 | cont=>obtain⟨σ6,H6,I6,q⟩:=q6;exact⟨σ6,H6,go I6,q⟩
 | ret u=>obtain⟨v,σ6,H6,I6,rv,q⟩:=q6;exact⟨v,σ6,H6,go I6,rv,q⟩
theorem g5 {k:Nat}{x:Str}{ps:List Str}{C:Addr}{fn:Option Str}{p cpos pos:Pos}{e:Expr}{es:List Expr}{t:TA}{body:List Stmt}{h0:Bc}{hs:List Bc}{tH:Option Addr->Addr->TS}
  (F:OkX X.prog X.w X.K X.mg X.base k x ps C fn (spA K S)) (hr:Room k X.A) (hc:X.calm=true) (hex:X.ex=[]) (hst:X.stack=X.env::X.outer) (hfr:X.env.frame=some X.env.locals) (ha:PA X.nox (e::es) t)
  (hb1:r9 X body (.Call (.Name x p) (e::es) [] cpos)) (hH:∀od,HB X C od (h0::hs) (tH od))
  (hg:Gl X x:=by rfl) (hdb:(x==("__debug__" : Str))=false:=by decide) (he:yu (e::es) X.env=(false,eval e X.env)::yu es X.env:=by rfl) (hpl:(Al cpos (yu es X.env)).any (·.1)=false:=by rfl) :
  PS X (.Try body (h0::hs) [] [] pos) (λD σ H=>t σ H λvs H1=>spA K S (vs++[]) H1 (λv H'=>∀a od,H' a=none->Fld H' fn od v->(∀dx,od=some dx->H1 dx=none)->tH od a D σ H') E0):=by
 intro pins s σ H D I h;obtain⟨f,fd,hm,hk,hb,F⟩:=F.ex;refine Fh (hb1 _ _ pins σ H _ I ?_);refine Bx (gk I hg hm ?_ hdb);refine Dt (h₀:=X.base) I.ok.mod.kin hk (yJ (ha cpos pins s σ H _ (I.wish _) h) (λus s1 ⟨vs,H1,I1w,r,q⟩=>⟨I1w.unwish.kIn,?_⟩) λ_ _ z=>yD z) he hpl;have I1:=I1w.unwish;have q':spX C fn (spA K S) (vs++[]) H1 (λ_ _=>False) (λu cls H'=>cls=some C/\∃v od,u=odV od/\Fld H' fn od v/\∀a od,H' a=none->Fld H' fn od v->(∀dx,od=some dx->H1 dx=none)->tH od a D σ H'):=by
  obtain⟨ss,Z,q',a1,a2,a3⟩:=q;exact⟨ss,Z,q',a1,a2,λr ss' v H' b1 b2 b3 b4 od hf=>⟨rfl,v,od,rfl,hf,a3 r ss' v H' b1 b2 b3 b4⟩⟩
 have hl:(us++[]).length=ps.length:=by
  rw[<- (r.append (.nil:Vals [] [])).length];exact F.len (vs++[]) H1 _ _ q'
 refine CG (BW (F.run X.A X.stack s1 H1 ⟨us,[]⟩ (us++[]) (vs++[]) _ _ hr I1.env0 (hb s1 us I1.kIn hl) (r.append .nil) q') λrr s2 hq=>?_);cases rr with
 | ok fl =>
  cases fl with
  | ret u=>obtain⟨_,_,_,_,_,_,_,z⟩:=hq;exact z.elim
  | next=>exact yD hq
  | brk=>exact yD hq
  | cont=>exact yD hq
 | error ev =>
  obtain⟨a,C',od,H2,rfl,os,bare,un,hok,hot,hyg,hC,v,od',hO,hF,hW⟩:=hq;cases hC
  obtain rfl:od=od':=by
   cases od <;> cases od' <;> first | rfl | cases hO <;> rfl
  have I2:Inv X pins σ H2 s2:=I1.call' os un hok bare λb z=>nomatch z;have sub1:∀b o,s1.heap.get? b=some o->b<s2.heap.objs.size:=λb o q=>by
   obtain⟨o',q'⟩:=un.there b o q λz=>nomatch z
   exact lc q'
  refine lvI I2 hst hfr sub1 hot λh3 ch3 hch3 _ un3 hok3 hot3=>?_;have I3:=Inv.hot I1 I2 hex un3 hok3 λb hb=>(hch3 b hb).1;obtain⟨oe3,vs3,hv3,ge3,gc3,gd3,gf3,g13,y3,u3,hh3⟩:=id hot3;refine hH od a D pins σ H1 H2 s1 _ I1 I3 hot3 (hW a od u3 hF λdx e=>?_);cases z:H1 dx with
  | none=>rfl
  | some o =>
   obtain⟨u,z'⟩:=I1.hok.get z;rw[hyg dx e]at z';cases z'
theorem g8 {n:Str}{c:Expr}{np pos:Pos}(hs:AJ c (some (.Name n np)) pos.line X.env=pure false:=by rfl):r9 X [.Assign [.Name n np] c pos] c:=λQ E pins σ H s I h =>
 BR (CT (thn h λ_ _ z=>z.elim) hs)
end
section
variable {X:Cx}{R:VK}{E:XK}{C:Addr}{fn:Option Str}{K:ac}{S:ASp}
theorem t5 {st:Stmt}{t u:TS}(h1:PSr X R st t)(h2:PSr X R st u):PSr X R st (λD σ H=>t D σ H∨u D σ H):=λpins s σ H D e I h=>h.elim (h1 pins s σ H D e I) (h2 pins s σ H D e I)
end
section
variable {K:ac}{pr:Nat->Bool}{F:Fr}{σ:St}{ρ:En}{H:Hp}{th:TS}{ah:AS}{S:ASp}{ts:TA}{as:AA}{ta:TE}{a:AE}
def x6 (ca:AE)(ah:R->AS):AS:=λk ρ=>ca ρ λr ρ1=>ah r k ρ1
theorem fJ {fn:Option Str}{tH:Option Addr->Addr->TS}{aH:R->AS}(ht:TAok K ts as)
  (hh:∀(F:Fr) (σ:St) (ρ:En) (H1 H':Hp) (D:Ends) (k:lz) (r:R) (v:V) (a:Addr) (od:Option Addr),(∀i a,F.pin i a->pr i=true)->Rel K F σ ρ H'->InF K F σ ρ H' v r.frz->aH r k ρ->tQ K F D k->H' a=none->Fld H' fn od v->(∀dx,od=some dx->¬hs F σ ρ dx)->tH od a D σ H') :
  TSok K pr (λD σ H=>ts σ H λvs H1=>spA K S (vs++[]) H1 (λv H'=>∀a od,H' a=none->Fld H' fn od v->(∀dx,od=some dx->H1 dx=none)->tH od a D σ H') E0) (x6 (xH S as) aH):=by
 intro F σ ρ H D k hp r ha ko;refine ht F σ ρ H _ _ r ha λrs ρ1 vs H1 h1 r1 i1 k1=>?_;obtain⟨hd,hS⟩:=h1;have s:=i1.srcs;rw[zZ];refine⟨rs.map (cI ρ1),(fS F σ ρ1 H1 (vs.map some) (rs.map (cI ρ1))).Z,_,r1.sub s hd,hS,λrr ss' v H' hq sb no out a od hn hf hdx=>?_⟩;have o:Out K F σ ρ1 H1 (back ρ1 rs ss') v H' rr:=by
  cases rr with
  | o i=>exact absurd rfl (no i)
  | d d =>
   obtain⟨a,b⟩:=out;obtain⟨x,y,z⟩:=r1.back s hd a sb;exact⟨x,y,RepD.same b z⟩
  | x sv =>
   obtain⟨a,b,c⟩:=out;obtain⟨x,y,z⟩:=r1.back s hd a sb;exact⟨x,y,b,c.keep z λl o ho=>by rw[b]at ho;cases ho⟩
  | t n =>
   obtain⟨a,b⟩:=out;obtain⟨x,y,z⟩:=r1.back s hd a sb;exact⟨x,y,b⟩
  | n sv =>
   obtain⟨Hb,l,o,a,b,c,e1,e2,e3⟩:=out;obtain⟨x,y,z⟩:=r1.back s hd a sb;exact⟨Hb,l,o,x,y,b,c.keep z λ_ _ _ _ e=>e,e1,e2,e3⟩
 obtain⟨r',k',i'⟩:=o.inF;refine hh F σ _ H1 H' D k rr v a od hp r' i' hq ko hn hf λdx e z=>?_;rcases z with z | z
 ·exact(r1.zl dx z).1 (hdx dx e)
 ·exact dG r1 (k'.so z) (hdx dx e)
theorem eE {fn:Option Str}(hh:TSok K pr th ah) :
  ∀(F:Fr) (σ:St) (ρ:En) (H1 H':Hp) (D:Ends) (k:lz) (r:R) (v:V) (a:Addr) (od:Option Addr),(∀i a,F.pin i a->pr i=true)->Rel K F σ ρ H'->InF K F σ ρ H' v r.frz->(λ_=>ah) r k ρ->tQ K F D k->H' a=none->Fld H' fn od v->(∀dx,od=some dx->¬hs F σ ρ dx)->(λ(_:Option Addr) (_:Addr)=>th) od a D σ H' :=
 λF σ ρ H1 H' D k r v a od hp r' i' z ko hn hf hd=>hh F σ ρ H' D k hp r' z ko
end
end L2
namespace L2
open PySem PySem.Spec PyProof.Rows Builtin
end L2
namespace L2
open PySem PySem.Spec PyProof.Rows
def Itw (K:ac)(l:Addr)(n:Nat):It :=
 ⟨λi H=>∃xs x,SqL K H l xs/\xs.length=n/\i<n/\xs[n - 1 - i]? = some x,λi H x H'=>H'=H/\∀xs,SqL K H l xs->xs[n - 1 - i]? = some x,λi H=>n<=i⟩
theorem sg {P:wl}{w:yF}{K:ac}{tg:Expr}(a it:Addr)(n:Nat):Turn P w K tg (Itw K a n) [it] it (λi h=>i<=n/\h.IsRevIter it a ((n:Int) - 1 - (i:Int))) where
 mem:=by simp
 obj:=λi h st b hb=>by
  have e:b=it:=by simpa using hb
  subst e;obtain⟨_,o,e,c,d⟩:=st;exact⟨o,e,λv z=>by rw[d]at z;cases z⟩
 keep:=λi h h' st k=>⟨st.1,st.2.at λo e=>k it (by simp) o e⟩
 item:=by
  intro X hP hw hK hc i pins s σ H E I hf st hg;subst hP hw hK;obtain⟨xs,x,hq,hn,hi,hx⟩:=hg;obtain⟨its,rv,p,hz⟩:=I.list hq;obtain⟨u,hu,ru⟩:=rv.get hx;obtain⟨f0,f1,f2,f3,f4,f5⟩:=hf it (by simp);have st2:=st.2;rw[show(n:Int) - 1 - (i:Int)=((n - 1 - i:Nat):Int)by omega]at st2;refine wpAny_pyNext_rev_item st2 p.isList (x:=u) (by simpa using hu) λh' st' sb=>?_;have I1:Inv X pins σ H {s with heap:=h'}:=I.turned (t':=s.toks) (λb o hb e=>(sb.2 b hb).trans e) f0 f1 f3 f4 f5;rw[show((n - 1 - i:Nat):Int) - 1=(n:Int) - 1 - ((i+1:Nat):Int)by omega]at st';obtain⟨o,e,c,d⟩:=id st';exact⟨u,rfl,q8 (s:={s with heap:=h'}) e c d (by decide) ⟨x,H,I1,ru,⟨rfl,λys hy=>by rw[I.list_inj hy hq];exact hx⟩,⟨by omega,st'⟩,λb hb=>(hf b hb).1⟩⟩
 done:=by
  intro X hP hw hK hc i pins s σ H E I hf st hg;subst hP hw hK;obtain⟨f0,f1,f2,f3,f4,f5⟩:=hf it (by simp);have hg':n<=i:=hg;have st2:=st.2;have st1:=st.1;rw[show(n:Int) - 1 - (i:Int) = -1 by omega]at st2;exact wpAny_pyNext_rev_end (I.ok.hd hc) st2 λh' eb=>⟨rfl,I.turned (t':=s.toks) (λb o hb e=>eb b o hb e) f0 f1 f3 f4 f5⟩
 self:=λ_ _ _ _ _ st h=>Ez st.2 h
def iRev (K:ac)(t:TA):TI:=λσ H R=>t σ H λvs H1=>∃l xs,vs=[.ref l]/\SqL K H1 l xs/\R (Itw K l xs.length) H1
theorem qF (K:ac){X:Cx}{tg:Expr}{a:Expr}{ta:TA}{p pos:Pos}(hg:Gl X "reversed")(hm:X.mg "reversed" = none)(ha:PA X [a] ta)(hK:X.K=K:=by rfl)(hs:yu [a] X.env=[(false,eval a X.env)]:=by rfl) :
  PI X tg (.Call (.Name "reversed" p) [a] [] pos) (iRev K ta):=by
 subst hK;intro pins s σ H R I h;refine D6 (f_ I hg hm jE (yU (thn (ha pos pins s σ H _ I h) λus s1 ⟨vs,H1,I1,r1,q1⟩=>?_) hs rfl));obtain⟨l,xs,rfl,h1,q⟩:=q1;obtain⟨u,rfl,ru⟩:=kh r1;cases ru
 obtain⟨its,rv,p1,_⟩:=I1.list h1;have hl:=rv.length;refine call_reversed_list p1.isList ?_;have it:Heap.IsRevIter (s1.heap.push (revObj l ((its.toArray.size:Int) - 1))) s1.heap.objs.size l ((xs.length:Int) - 1 - ((0:Nat):Int)):=⟨_,xL _ rfl,rfl,by rw[li,<- hl];simp[revObj]⟩
 refine Ez it ?_;refine⟨s1.heap.objs.size,[s1.heap.objs.size],_,_,H1,rfl,I1.kept (t':=s1.toks) λb o e=>im _ e,sg l _ xs.length,⟨yz _,it⟩,λb hb=>?_,q⟩;have e:b=s1.heap.objs.size:=by simpa using hb
 subst e;exact I1.fpOk (lw _) (I1.hok.fresh (lw _))
section
variable {K:ac}{ts:TA}{as:AA}
theorem vW {S:Addr->Prop}{H:Hp}{a:Addr}{vs:List V}{ds:List D}(h:SqL K H a vs)(rd:RepDs K (hid H S) vs ds):WkAt K S H (Itw K a vs.length) ds.reverse:=by
 have hl:=rd.length;intro k;constructor
 ·intro d e;have hk:k<ds.length:=by
   have:=(kt.mp e).1;rwa [zt]at this
  rw[Af hk]at e;obtain⟨v,e1,rv⟩:=rd.get e;rw[<- hl]at e1;refine⟨⟨vs,v,h,rfl,by omega,e1⟩,λx H' z=>⟨z.1▸Same.refl H,?_⟩⟩;have:=z.2 vs h;rw[e1]at this;cases this;rw[z.1];exact rv
 ·intro z;rw[zt]at z;show vs.length<=k;omega
theorem pT {pin:Nat->Bool}{ρ:En}{r:R}{ds:List D}{c:En->Prop}(e:lA pin ρ r=some (ds,c)):c ρ:=by
 cases r with
 | n s=>cases e
 | t n=>cases e
 | x n=>cases e
 | d d =>
  cases d with
  | lst es=>simp only[lA,zy,BS]at e;rw[<- e.2];trivial
  | _=>cases e
 | o i =>
  unfold lA at e;cases hg:gt ρ i with
  | ow es =>
   simp only[hg]at e;split at e
   ·simp only[zy,BS]at e;rw[<- e.2];exact hg
   ·cases e
  | _=>simp[hg]at e
def aRvd (pin:Nat->Bool)(as:AA):AI:=λρ q=>as ρ λrs ρ1=>match rs with
 | [r1]=>(match lA pin ρ1 r1 with
  | some (ds,c)=>q ds.reverse c ρ1
  | _=>False)
 | _=>False
theorem kB {pin:Nat->Bool}(h:TAok K ts as):TIok K pin (iRev K ts) (aRvd pin as):=by
 intro F σ ρ H q Rk r ha k;refine h F σ ρ H _ _ r ha λrs ρ1 vs H1 h1 r1 i1 k1=>?_;split at h1
 ·obtain⟨x,rfl,ix⟩:=i1.one;split at h1
  ·rename_i ds c e1;obtain⟨l1,us1,rfl,s1,w1⟩:=nQ r1 ix e1;obtain⟨v0,z0,rd0⟩:=w1 σ ρ1 H1 (Same.refl _) r1.sl (λ_ _ _ e=>e) (pT e1);refine⟨l1,v0,rfl,z0,k _ _ _ _ _ h1 r1 k1 λσ2 ρ2 H2 sm sv pn al hc=>?_⟩;obtain⟨v1,z1,rd1⟩:=w1 σ2 ρ2 H2 sm sv pn hc;have:=vW z1 rd1;rw[rd1.length,<- rd0.length]at this;exact this
  ·exact h1.elim
 ·exact h1.elim
end
theorem jx {prog:wl}{w:yF}{A:yI}(hh:A.handled=none)(it l:Addr)(hne:l≠it)(xs:Array bd) :
  Fg prog w A it [it,l] xs.size (λi v=>xs[i]? = some v) (λi h=>h.IsTupleIter it l i/\h.IsTuple l xs) where
 live:=λ_ _ st=>let ⟨o,ho,_⟩:=st.1;⟨o,ho⟩
 frame:=λ_ _ _ st hk=>(k_ (prog:=prog) (w:=w) hne).keep _ _ _ st λb o hb e=>hk b hb o e
 item:=λi s Q E hi st hQ=>(k_ hne).item A i s xs[i] Q E st (by simp[hi]) λh' st' sb=>hQ _ h' s.toks (by simp[hi]) st' sb
 done:=λs Q E st hE=>(k_ hne).fin A xs.size s Q E hh st (by simp) hE
open AutoSeq1 (wpAny_loadPart') in
theorem m8 (l:Addr)(xs:Array bd) :
  Meets (Builtin.«enumerate.__new__» ⟨[.type "enumerate",.ref l],[]⟩) (λ_ R s=>s.heap.IsTuple l xs /\
   R (.ok (.ret (.ref (s.heap.push {cls:=.type "tuple_iterator",data:=.fields #[.ref l,.int 0 0]}).objs.size)))
    {s with heap:=(s.heap.push {cls:=.type "tuple_iterator",data:=.fields #[.ref l,.int 0 0]}).push {cls:=.type "enumerate",data:=.fields #[.none,.bool false,.ref s.heap.objs.size,yO 0,.none,.none]}}) :=
 .of_wp λprog w A R s h=>by
  obtain⟨hp,g,d,tk,os⟩:=s;obtain⟨hl,h⟩:=h;have hsub:=sub_enumerate;have hL:Heap.IsTuple (Shared.heap ⟨hp,g,d,tk,os⟩) l xs:=hl
  wp_walk
  refine wpAny_stack_any λst=>wv ?_;split
  ·rename_i c _ _ _ _ _;cases (c==Value.type "enumerate")
   ·wp_walk using Bw hL
    exact⟨_,rfl,h⟩
   ·wp_walk using Bw hL
    exact⟨_,rfl,h⟩
  ·wp_walk using Bw hL
   exact⟨_,rfl,h⟩
theorem kf {prog:wl}{w:yF}{A:yI}{E:bd->dL->Prop}{s:dL}{l:Addr}{xs:Array bd}{Q:bd->dL->Prop}(hL:s.heap.IsTuple l xs)
  (h:∀h',C_ h' (s.heap.objs.size+1) s.heap.objs.size 0 .none->h'.IsTupleIter s.heap.objs.size l 0->h'.objs.size=s.heap.objs.size+2 ->
   (∀b o,s.heap.get? b=some o->h'.get? b=some o)->Q (.ref (s.heap.objs.size+1)) {s with heap:=h'}) :
  o0 (sK prog w) A (call (.type "enumerate") [.ref l]) Q E s:=by
 refine callType_new F.called_enumerate (by decide) (F.typeCall_enumerate_1 _) (F.newCall_enumerate_1 _) (λobj=>F.args_object_init_2 obj _) F.entry_enumerate_new
  (m8 l xs) ⟨hL,?_⟩
 have hz:(s.heap.push {cls:=.type "tuple_iterator",data:=.fields #[.ref l,.int 0 0]}).objs.size=s.heap.objs.size+1:=zK ..;show _/\_;rw[hz];have he:C_ ((s.heap.push {cls:=.type "tuple_iterator",data:=.fields #[.ref l,.int 0 0]}).push
   {cls:=.type "enumerate",data:=.fields #[.none,.bool false,.ref s.heap.objs.size,yO 0,.none,.none]}) (s.heap.objs.size+1) s.heap.objs.size 0 .none:=by
  have:=xL (s.heap.push {cls:=.type "tuple_iterator",data:=.fields #[.ref l,.int 0 0]})
   (o:={cls:=.type "enumerate",data:=.fields #[.none,.bool false,.ref s.heap.objs.size,yO 0,.none,.none]}) rfl
  rw[hz]at this;exact this
 refine⟨⟨_,he,rfl⟩,h _ he ⟨_,im _ (xL _ rfl),rfl,rfl⟩ (by rw[zK,hz]) λb o x=>im _ (im _ x)⟩
def Itf (K:ac)(l:Addr)(n:Nat):It :=
 ⟨λi H=>∃xs x,SqT K H l xs/\xs.length=n/\xs[i]? = some x,λi H v H'=>∃p x,v = .ref p/\H p=none/\H'=upd H p (.tup [.int (i:Nat),x])/\∀xs,SqT K H l xs->xs[i]? = some x,
  λi H=>n<=i/\∃xs,SqT K H l xs/\xs.length=n⟩
theorem oZ {P:wl}{w:yF}{K:ac}{elts:List Expr}{x1}{tpos:Pos}{e it l:Addr}{n:Nat}(ne:e≠it)(nl:l≠it)(nel:e≠l) :
  Turn P w K (.Tuple elts x1 tpos) (Itf K l n) [e,it] e (λi h=>((∃old,C_ h e it (i:Nat) old)/\h.IsTupleIter it l i)/\i<=n) where
 mem:=by simp
 obj:=λi h st b hb=>by
  obtain⟨⟨⟨old,he⟩,⟨o1,e1,c1,d1⟩⟩,_⟩:=st;simp only[wn,yY,or_false]at hb;rcases hb with rfl | rfl
  ·exact⟨_,he,λv q=>by cases q⟩
  ·exact⟨o1,e1,λv q=>by rw[d1]at q;cases q⟩
 keep:=λi h h' st k=>by
  obtain⟨⟨⟨old,he⟩,h1⟩,hi⟩:=st;exact⟨⟨⟨old,k e (by simp) _ he⟩,h1.at λo q=>k it (by simp) o q⟩,hi⟩
 item:=by
  intro X hP hw hK hc i pins s σ H E I hf st hg;subst hP hw hK;obtain⟨xs,x,q1,hln,hx⟩:=hg;obtain⟨⟨⟨old,he⟩,h1⟩,hin⟩:=st;obtain⟨its,rv,p1,_⟩:=I.tuple q1;have hxi:=(kt.mp hx).1;obtain⟨u,hu,ru⟩:=rv.get hx;have hlt:i<its.toArray.size:=by rw[li];exact(kt.mp hu).1
  refine DU (jx (show X.A.in1.handled=none from I.ok.hd hc) it l nl its.toArray) he ⟨h1,p1⟩ hlt ne (by simp[ne,nel]) λy h' tk hy a1 a2 a3 a4 hk=>?_;have ey:y=u:=by
   have hy':its[i]? = some y:=by simpa using hy
   rw[hu]at hy';cases hy';rfl
  subst ey;refine⟨_,rfl,Dn (s:={s with heap:=h',toks:=tk+1}) a1 λh2' he' hs'=>?_⟩;have hs2:zf e h' h2':=hs';have ls:∀ {b o},s.heap.get? b=some o->b≠s.heap.objs.size:=λe=>yn (lc e);have es:e≠s.heap.objs.size:=ls he;have up:∀b o,b∉[e,it]->s.heap.get? b=some o->h2'.get? b=some o:=λb o hb q=>by
   simp only[wn,yY,or_false,not_or]at hb;exact(hs2.2 b hb.1).trans (hk b o hb.1 hb.2 q)
  have I1:Inv X pins σ H {s with heap:=h2',toks:=tk+1}:=I.turns (t':=tk+1) up hf;have fp:FpOk X pins H s.heap.objs.size:=I.fpOk (lw _) (I.hok.fresh (lw _));have g:h2'.get? s.heap.objs.size=some {cls:=.type "tuple",data:=.seq #[.int i tk,y]}:=(hs2.2 _ (zd es)).trans a3;have I2:=I1.trackO (o:=.tup [.int (i:Nat),x]) fp ⟨by show 2<=ww;decide,[.int i tk,y],.cons ⟨_,rfl⟩ (.cons ru .nil),_,g,rfl,_,rfl⟩;refine⟨.ref s.heap.objs.size,upd H s.heap.objs.size (.tup [.int (i:Nat),x]),I2,rfl,⟨_,x,rfl,fp.1,rfl,λzs hz=>by rw[I.tuple_inj hz q1];exact hx⟩,?_,λb hb=>?_⟩
  ·refine⟨⟨⟨y,by simpa using he'⟩,?_⟩,by omega⟩;obtain⟨o,q,r⟩:=a2.1;exact⟨o,(hs2.2 it (zd ne)).trans q,r⟩
  ·have hb':=(hf b hb).1;have ne':b≠s.heap.objs.size:=by
    obtain⟨o1,e1,_⟩:=h1;simp only[wn,yY,or_false]at hb;rcases hb with rfl | rfl
    ·exact ls he
    ·exact ls e1
   rw[aU ne'];exact hb'
 done:=by
  intro X hP hw hK hc i pins s σ H E I hf st hg;subst hP hw hK;obtain⟨hni,xs,q1,hl⟩:=hg;obtain⟨⟨⟨old,he⟩,h1⟩,hin⟩:=st;obtain⟨its,rv,p1,_⟩:=I.tuple q1;have l1:=rv.length;have ei:i=its.toArray.size:=by rw[li];omega
  subst ei;refine D8 (jx (show X.A.in1.handled=none from I.ok.hd hc) it l nl its.toArray) he ⟨h1,p1⟩ λh' hk=>⟨rfl,I.turns (ch:=[e,it]) (t':=s.toks) (λb o hb q=>?_) hf⟩
  simp only[wn,yY,or_false,not_or]at hb;exact hk b o hb.2 q
 self:=λ_ _ _ _ _ st h=>by obtain⟨⟨⟨old,he⟩,_⟩,_⟩:=st;exact AN he h
def uj (K:ac)(t:TA):TI:=λσ H R=>t σ H λvs H1=>∃l xs,vs=[.ref l]/\SqT K H1 l xs/\R (Itf K l xs.length) H1
theorem sM (K:ac){X:Cx}{elts:List Expr}{x1}{tpos:Pos}{a:Expr}{ta:TA}{p pos:Pos}(hg:Gl X "enumerate")(hm:X.mg "enumerate" = none)(ha:PA X [a] ta)(hK:X.K=K:=by rfl)(hs:yu [a] X.env=[(false,eval a X.env)]:=by rfl) :
  PI X (.Tuple elts x1 tpos) (.Call (.Name "enumerate" p) [a] [] pos) (uj K ta):=by
 subst hK;intro pins s σ H R I h;refine D6 (f_ I hg hm fE (yU (thn (ha pos pins s σ H _ I h) λus s1 ⟨vs,H1,I1,r1,q1⟩=>?_) hs rfl));obtain⟨l,xs,rfl,h1,q⟩:=q1;obtain⟨u,rfl,ru⟩:=kh r1;cases ru
 obtain⟨its,_,p1,_⟩:=I1.tuple h1;have lt:l<s1.heap.objs.size:=by obtain⟨o,e,_⟩:=id p1;exact lc e
 refine kf p1 λh' he hi hsz hk=>?_;refine AN he ?_;refine⟨_,_,_,_,H1,rfl,I1.kept (t':=s1.toks) hk,oZ (show s1.heap.objs.size+1≠s1.heap.objs.size by omega) (yn lt) (zd (yn (Ew lt))),⟨⟨⟨_,he⟩,hi⟩,yz _⟩,λb hb=>?_,q⟩;have le:s1.heap.objs.size<=b:=by
  simp only[wn,yY,or_false]at hb;rcases hb with rfl | rfl <;> omega
 exact I1.fpOk le (I1.hok.fresh le)
section
variable {K:ac}{ts:TA}{as:AA}
theorem sd {S:Addr->Prop}{H:Hp}{l:Addr}{vs:List V}{ds:List D}(al:∀a,S a->H a≠none)(h1:SqT K H l vs)(r1:RepDs K (hid H S) vs ds):WkAt K S H (Itf K l vs.length) (gS 0 ds):=by
 intro k;constructor
 ·intro d e;obtain⟨x,ex,rfl⟩:=cZ e;rw[zw];obtain⟨v,e1,rv⟩:=r1.get ex;refine⟨⟨vs,v,h1,rfl,e1⟩,λz H' ⟨p,a,ez,hp,eH,ha⟩=>?_⟩;have a1:=ha vs h1;rw[e1]at a1;cases a1
  subst eH ez;have sm:Same H (upd H p (.tup [.int (k:Nat),v])):=(Same.refl H).new hp;have sm':Same (hid H S) (hid (upd H p (.tup [.int (k:Nat),v])) S):=bT λa o e n=>⟨sm a o e,n⟩
  refine⟨sm,?_⟩;unfold RepD;exact⟨p,[.int (k:Nat),v],rfl,(dU (λz=>al p z hp) bh),.cons (by unfold RepD;rfl) (.cons (rv.same sm') .nil)⟩
 ·intro z;rw[bR]at z;exact⟨by rw[r1.length];exact z,vs,h1,rfl⟩
def xG (as:AA):AI:=λρ q=>as ρ λrs ρ1=>match rs with
 | [.d (.tup ds)]=>q (gS 0 ds) (λ_=>True) ρ1
 | _=>False
theorem o6 {pin:Nat->Bool}(h:TAok K ts as):TIok K pin (uj K ts) (xG as):=by
 intro F σ ρ H q Rk r ha k;refine h F σ ρ H _ _ r ha λrs ρ1 vs H1 h1 r1 i1 k1=>?_;split at h1
 ·rename_i ds;obtain⟨x,rfl,ix⟩:=i1.one;have rd:RepD K _ x (.tup ds):=ix;unfold RepD at rd;obtain⟨a,vs,rfl,sq,rd⟩:=rd;refine⟨a,vs,rfl,cn.seqT sq.sq,k _ _ _ _ _ h1 r1 k1 λσ2 ρ2 H2 sm sv pn al hc=>?_⟩;exact sd (λa z=>(al a z).1) (cn.seqT (sm.seqT sq.sq)) (rd.same sm)
 ·exact h1.elim
end
end L2
namespace L2
open PySem PySem.Spec PyProof.Rows PySem.W
section
variable {prog:wl}{w:yF}{A:yI}{E:bd->dL->Prop}{h:Heap}{g:Array DA}{d:Drawn}{t:Nat}{os:OsState}
variable {nm q:Str}{C N:Addr}{bs bm bmB:List bd}{hdct:Bool}{sn:List Str}{sub:List bd}{ab:Bool}{col:Option Bool}{dd:Option Addr}{k0 k1 k2 k3 k5:Option bd}{B newId initId:String}
theorem jI (F:Ep B newId initId bmB)(T:B0 h bmB bm){mN:Str->Option bd}{rest:List bd}{fI:Addr}{oI:Obj}{Q:Fin->dL->Prop}
  (hC:h.get? C=some (Ad nm q C N bs bm hdct sn sub ab col dd k0 k1 k2 k3 k5 newId)) (hn:h.Ns N mN) (hi:mN "__init__" = some (.ref fI)) (hfI:h.get? fI=some oI) (hfc:oI.cls = .type "function")
  (hq:∀h' e,C5 h h' e (.ref C) rest->o0 (sK prog w) A (call (.ref fI) (.ref e::rest)) (λr s'=>r = .none/\Q (.done (.ret (.ref e))) s') E ⟨h',g,d,t,os⟩) (hrest:rest.length<=ww) :
  o0 (sK prog w) A (Builtin.«type.__call__» ⟨.ref C::rest,[]⟩) Q E ⟨h,g,d,t,os⟩:=by
 repeat (first | with_reducible refine zv hC ?_ | with_reducible refine wpAny_madeBy_exc hC ?_ | wp_step)
 refine codeAny_call_builtin_code (D5 _ F.quiet) (wpAny_check_new_subT F T hC ?_);refine codeAny_exc_new_subT F T hC ?_ hrest;show o0 _ _ _ _ _ _;have hC₁:=im {cls:=.ref C,data:=.fields #[.ref h.objs.size,.none,.none,.none,.bool false,.none]}
  (im {cls:=.type "tuple",data:=.seq rest.toArray} hC)
 have hfI₁:=im {cls:=.ref C,data:=.fields #[.ref h.objs.size,.none,.none,.none,.bool false,.none]}
  (im {cls:=.type "tuple",data:=.seq rest.toArray} hfI)
 have hn₁:((h.push {cls:=.type "tuple",data:=.seq rest.toArray}).push {cls:=.ref C,data:=.fields #[.ref h.objs.size,.none,.none,.none,.bool false,.none]}).Ns N mN :=
  let ⟨o,es,ep,e,r⟩:=hn;⟨o,es,ep,im _ (im _ e),r⟩
 have hget:((h.push {cls:=.type "tuple",data:=.seq rest.toArray}).push
   {cls:=.ref C,data:=.fields #[.ref h.objs.size,.none,.none,.none,.bool false,.none]}).get? (h.objs.size+1)=some
   {cls:=.ref C,data:=.fields #[.ref h.objs.size,.none,.none,.none,.bool false,.none]}:=by heap_get
 have hcC:(Value.ref C::bm).contains (.ref C)=true:=by simp
 have T₁:=T.keeps (h':=(h.push {cls:=.type "tuple",data:=.seq rest.toArray}).push {cls:=.ref C,data:=.fields #[.ref h.objs.size,.none,.none,.none,.bool false,.none]})
  λb o e=>im _ (im _ e)
 unfold isInstance;repeat (first | with_reducible refine zv hget ?_ | (with_reducible refine Bp hC₁ ?_;rw[hcC]) | wp_step)
 show o0 _ _ (CH (.ref C) _) _ _ _;refine wpAny_typeLookup_tail hC₁ hn₁ T₁ F.mroIs F.init.lookup ?_;rw[hi];refine Cv (bn ?_);unfold bindSpecial;refine bn (wpAny_typeOf (T := "function") ⟨_,hfI₁,hfc⟩ ?_);rw[if_pos (by decide)];refine wv (bn (yJ (hq _ (h.objs.size+1) ⟨λb o hb=>im _ (im _ hb),Ak (Fx _),h.objs.size,hget,Ak (lw _),?_⟩) (λr s' hr=>?_) λ_ _ x=>x))
 ·exact im _ (Em rfl rfl)
 ·obtain⟨rfl,hQ⟩:=hr
  wp_walk
  exact hQ
theorem rL (F:Ep B newId initId bmB)(T:B0 h bmB bm){mN:Str->Option bd}{rest:List bd}{fI:Addr}{oI:Obj}{Q:bd->dL->Prop}
  (hC:h.get? C=some (Ad nm q C N bs bm hdct sn sub ab col dd k0 k1 k2 k3 k5 newId)) (hn:h.Ns N mN) (hi:mN "__init__" = some (.ref fI)) (hfI:h.get? fI=some oI) (hfc:oI.cls = .type "function")
  (hq:∀h' e,C5 h h' e (.ref C) rest->o0 (sK prog w) (A.under (.builtin "type.__call__" ⟨.ref C::rest,[]⟩)) (call (.ref fI) (.ref e::rest)) (λr s'=>r = .none/\Q (.ref e) s') E ⟨h',g,d,t,os⟩) (hrest:rest.length<=ww) :
  o0 (sK prog w) A (call (.ref C) rest) Q E ⟨h,g,d,t,os⟩:=by
 have f1:=tc_lookup;have f2:=tc_bind (.ref C);have hT:(⟨h,g,d,t,os⟩:dL).TypeIs (.ref C) "type" := ⟨_,hC,rfl⟩
 refine CG (Fq ?_);show o0 _ _ (callAny (.ref C) _) _ _ _;repeat (any_goals (first | assumption | with_reducible refine zv hC ?_ | wp_step))
 refine⟨rfl,?_⟩;refine codeAny_call_builtin_at (D5 _ (by decide +kernel)) entry_typeCall (wpAny_check_type_call_sub hC (jI (hrest:=hrest) F T hC hn hi hfI hfc λh' e hm=>?_));exact hq h' e hm
end
section
variable {M:C1}{A:yI}{E:bd->dL->Prop}{env:Env}
variable {nm q:Str}{C N:Addr}{bs bm:List bd}{hdct:Bool}{sn:List Str}{sub:List bd}{ab:Bool}{col:Option Bool}{dd:Option Addr}{k0 k1 k2 k3 k5:Option bd}{newId:String}
theorem jJ {s:dL}{x:Sem bd}{Q:Flow->dL->Prop}(hbase:bm.contains (.type "BaseException")=true)(hh:A.handled=none)
  (h:o0 M A x (λv s₁=>∃e t od,v = .ref e/\s₁.heap.get? C=some (Ad nm q C N bs bm hdct sn sub ab col dd k0 k1 k2 k3 k5 newId) /\
   s₁.heap.get? e=some {cls:=.ref C,dict:=od,data:=.fields #[.ref t,.none,.none,.none,.bool false,.none]}/\E (.ref e) s₁) E s) :
  o0 M A (raiseStmt env (some x) none) Q E s:=by
 have hcB:(Value.ref C::bm).contains (.type "BaseException")=true:=by rw[Bk,hbase,Bd]
 unfold raiseStmt;refine bn (yJ h (λv s₁ h₁=>?_) λ_ _ x=>x);obtain⟨e,t,od,rfl,hC,he,hE⟩:=h₁;obtain⟨hp,g,d,tk,os⟩:=s₁;repeat (first | with_reducible refine zv he ?_ | with_reducible refine zv hC ?_ | (with_reducible refine Bp hC ?_;rw[hcB]) | wp_step)
 exact wpAny_raiseNew_none hh hE
end
section
variable {prog:wl}{w:yF}{A:yI}{E:bd->dL->Prop}{s:dL}{env:Env}
variable {nm q:Str}{C N:Addr}{bs bm bmB:List bd}{hdct:Bool}{sn:List Str}{sub:List bd}{ab:Bool}{col:Option Bool}{dd:Option Addr}{k0 k1 k2 k3 k5:Option bd}{B newId initId:String}
theorem jG (F:Ep B newId initId bmB){mN:Str->Option bd}{x:Str}{np cpos pos:Pos}{args:List Expr}{Q:Flow->dL->Prop}{fI:Addr}{oI:Obj}
  (hbase:bm.contains (.type "BaseException")=true) (hh:A.handled=none) (hplain:(Al cpos (yu args env)).any (·.1)=false) (hi:mN "__init__" = some (.ref fI)) (hfc:oI.cls = .type "function")
  (h:o0 (sK prog w) A (eval (.Name x np) env) (λf s₁=>f = .ref C/\o0 (sK prog w) A (evalArgs (.ref C) true (Al cpos (yu args env)) [])
   (λa s₂=>a.kw=[]/\a.pos.length<=ww/\s₂.heap.get? C=some (Ad nm q C N bs bm hdct sn sub ab col dd k0 k1 k2 k3 k5 newId)/\s₂.heap.Ns N mN/\B0 s₂.heap bmB bm/\s₂.heap.get? fI=some oI /\
    ∀h' e,C5 s₂.heap h' e (.ref C) a.pos->o0 (sK prog w) (A.under (.builtin "type.__call__" ⟨.ref C::a.pos,[]⟩)) (call (.ref fI) (.ref e::a.pos))
     (λr s'=>r = .none/\s'.heap.get? C=some (Ad nm q C N bs bm hdct sn sub ab col dd k0 k1 k2 k3 k5 newId)/\∃t od,s'.heap.get? e=some {cls:=.ref C,dict:=od,data:=.fields #[.ref t,.none,.none,.none,.bool false,.none]}/\E (.ref e) s') E {s₂ with heap:=h'}) E s₁) E s) :
  o0 (sK prog w) A (exec (.Raise (some (.Call (.Name x np) args [] cpos)) none pos) env) Q E s:=by
 rw[arm_exec_Raise];refine bn (Ax (jJ (C:=C) (nm:=nm) (q:=q) (N:=N) (bs:=bs) (bm:=bm) (hdct:=hdct) (sn:=sn) (sub:=sub) (ab:=ab) (col:=col) (dd:=dd) (k0:=k0) (k1:=k1) (k2:=k2) (k3:=k3) (k5:=k5) (newId:=newId) hbase hh (bn (yJ (wpAny_Call_ofName (yJ h (λf s₁ h₁=>?_) λ_ _ x=>x)) (λv s₃ h₃=>bn (Ax (wv h₃))) λ_ _ x=>x))));obtain⟨rfl,h₁⟩:=h₁;unfold callWith;refine bn (Cv (yJ h₁ (λa s₂ h₂=>bn (Ax ?_)) λ_ _ x=>x));obtain⟨apos,akw⟩:=a;obtain⟨hkw,hlen,hC,hn,T,hfI,h₂⟩:=h₂;obtain rfl:akw=[]:=hkw;obtain⟨hp,g,d,tk,os⟩:=s₂;simp only[hplain];refine bn (wpAny_keeperOf_exc hC ?_);refine bn (rL (hrest:=hlen) F T hC hn hi hfI hfc λh' e hm=>yJ (h₂ h' e hm) (λr s' ⟨hr,hC',t,od,he,hE⟩=>⟨hr,?_⟩) λ_ _ x=>x);exact bn (Cv (wpAny_point (wv ⟨e,t,od,rfl,hC',he,hE⟩)))
end
end L2
namespace L2
open PySem PySem.Spec PyProof.Rows PySem.W Builtin Builtin.ObjectAttr
theorem mM {h:Heap}{bmB l:List bd}(T:B0 h bmB l)(self:bd)(what:Str):refuseLoop self what l=refuseLoop self what bmB:=by
 induction T with
 | base=>rfl
 | own _ _ _ _ ih=>rw[refuseLoop_ref,ih]
section
variable {prog:wl}{w:yF}{A:yI}{E:bd->dL->Prop}{h:Heap}{g:Array DA}{d:Drawn}{t:Nat}{os:OsState}{K:ac}
variable {nm q:Str}{C N x:Addr}{bs bm:List bd}{sn:List Str}{sub:List bd}{ab:Bool}{col:Option Bool}{dd:Option Addr}{k0 k1 k2 k3 k5:Option bd}{newId:String}{hdct:Bool}{name:Str}{v:bd}{o:Obj}
theorem rO (T:B0 h bmV bm){u:bd}{od:Option Addr}{t0:Addr}{Q:bd->dL->Prop}(hC:h.get? C=some (Ad nm q C N bs bm hdct sn sub ab col dd k0 k1 k2 k3 k5 "ValueError.__new__"))
  (he:h.get? x=some {cls:=.ref C,dict:=od,data:=.fields #[.ref t0,.none,.none,.none,.bool false,.none]})
  (hq:∀h',(∀b ob,b≠x->h.get? b=some ob->h'.get? b=some ob)->(∃t1,h'.get? x=some {cls:=.ref C,dict:=od,data:=.fields #[.ref t1,.none,.none,.none,.bool false,.none]})->Q .none ⟨h',g,d,t,os⟩) :
  o0 (sK prog w) A (call (.builtin "ValueError.__init__") [.ref x,u]) Q E ⟨h,g,d,t,os⟩:=by
 have F:=A4;refine CG (ED F.init.plain F.initEntry (wpAny_check_init_subT F T hC he rfl ?_))
 wp_walk
 refine hq _ (λb ob ne hb=>?_) ⟨h.objs.size,?_⟩
 ·rw[sB _ _ (zd ne)];exact im _ hb
 ·rw[yA _ (im _ he) rfl];rfl
theorem rJ {M:C1}{nameV:bd}{Q:Unit->dL->Prop}(T:B0 h bmV bm)(hC:h.get? C=some (Ad nm q C N bs bm hdct sn sub ab col dd k0 k1 k2 k3 k5 newId))(hx:h.get? x=some o)(hc:o.cls = .ref C)(hq:Q () ⟨h,g,d,t,os⟩) :
  o0 M A (C8 "object.__setattr__" ⟨[.ref x,nameV,v],[]⟩) Q E ⟨h,g,d,t,os⟩:=by
 have SF:=CZ;have hcB:(Value.ref C::bm).contains (.type "object")=true:=by rw[Bk,T.hasType SF.hasOwner,Bd]
 have ha:=SF.args (.ref x) nameV v;simp only[C8,SF.kind,SF.split];refine bn ?_
 ·unfold isInstance;repeat (first | (with_reducible refine zv hx ?_;rw[hc]) | (with_reducible refine Bp hC ?_;rw[hcB]) | wp_step)
  exact hq
theorem uZ {Q:Unit->dL->Prop}(KX:K.In h)(T:B0 h bmV bm)(hC:h.get? C=some (Ad nm q C N bs bm true sn sub ab col dd k0 k1 k2 k3 k5 newId))
  (hsa:Av K (.ref C) "__setattr__" = some (some (.builtin "object.__setattr__"))) (hna:Av K (.ref C) name=some none) (hx:h.get? x=some o) (hc:o.cls = .ref C) (hdn:o.dict=none) (hnc:∀c,o.data ≠ .cls c)
  (hq:∀h' dx tk',h.get? dx=none->dx≠x->h.objs.size<=dx->h'.get? x=some {o with dict:=some dx}->h'.Ns1 dx (λy=>if y=name then some v else none)->(∀b ob,b≠x->h.get? b=some ob->h'.get? b=some ob)->Q () ⟨h',g,d,tk',os⟩) :
  o0 (sK prog w) A (setAttr (.ref x) name v) Q E ⟨h,g,d,t,os⟩:=by
 have SF:=CZ;have f3:=SF.slot.bind (.ref x);have L1:=looks_findIn (M:=sK prog w) KX hsa;have L2:=looks_findIn (M:=sK prog w) KX hna;have hpass:=SF.passes (.ref x);have hcB:(Value.ref C::bm).contains (.type "object")=true:=by rw[Bk,T.hasType SF.hasOwner,Bd]
 unfold setAttr callSpecial? specialOf;repeat (any_goals (first | assumption | (with_reducible refine zv hx ?_;rw[hc]) | with_reducible refine L1.at ?_ | wp_step))
 refine ED SF.slot.plain SF.entry ?_;have core:o0 (sK prog w) A.in1 (Builtin.«object.__setattr__» ⟨[.ref x,.str name t,v],[]⟩) (λfin s'=>fin = .done (.ret .none)/\Q () s') (λ_ _=>False) ⟨h,g,d,t+1,os⟩:=by
  unfold Builtin.«object.__setattr__»;repeat (first | rw[refuse_eq] | (rw[refuseLoop_ref,mM T,hpass]) | (with_reducible refine zv hx ?_;rw[hc]) | with_reducible refine wpAny_mroOf_exc hC ?_ | with_reducible refine L2.at ?_ | wp_step)
  rw[hdn,if_neg (by simp[typeHasDict])];split
  ·rename_i hcd;cases hcd
  split
  ·rename_i c hcd;exact absurd hcd (hnc c)
  ·have hx₁:(h.push {cls:=.type "dict",data:=.dict #[]}).get? x=some o:=im _ hx;have hxs:x≠h.objs.size:=yn (lc hx);refine bn (wpAny_alloc' ?_);refine bn (wpAny_update' hx₁ ?_);refine wv ?_;have hgd:((h.push {cls:=.type "dict",data:=.dict #[]}).update x λo=>{cls:=o.cls,dict:=some h.objs.size,data:=o.data,slots:=o.slots}).get? h.objs.size
     = some {cls:=.type "dict",data:=.dict #[]} :=
    (DQ _ _ _ _ hxs.symm).trans (Em rfl rfl)
   have hnd:((h.push {cls:=.type "dict",data:=.dict #[]}).update x λo=>{cls:=o.cls,dict:=some h.objs.size,data:=o.data,slots:=o.slots}).Ns h.objs.size (λ_=>none) :=
    ⟨_,#[],_,hgd,rfl,λe he=>absurd he (by simp),λ_=>rfl⟩
   show o0 _ _ (storeInDict h.objs.size (.str name t) name v) _ _ _;unfold storeInDict newKeyGuard;refine bn (wv (bn (wpAny_nsSet1 (Heap.Ns1.of_empty hnd) λh' hn' hs=>?_)));obtain⟨oD,esD,epD,hoD,hdD,hcD⟩:=hn'.count (Within.cons name v Within.nil);refine bn (wpAny_lookBehind hoD (by rw[hdD];exact pastItsLine_dict (yt hcD (by rw[wS,AW,z8];omega))) ?_)
   wp_walk
   refine⟨rfl,hq h' h.objs.size _ (Ak (lw _)) hxs.symm (lw _) ?_ hn' λb ob hbx hb=>?_⟩
   ·refine(hs.2 x hxs).trans (yA _ hx₁ ?_);have hfr:=(Heap.get?_some_iff.mp hx).2;obtain⟨oc,od,odt,osl⟩:=o;cases odt <;> first | rfl | exact hfr
   ·exact(hs.2 b (yn (lc hb))).trans ((DQ _ _ _ _ hbx).trans (im _ hb))
 refine rJ T hC hx hc (yJ core (λfin s' ⟨z1,z2⟩=>?_) λ_ _ z=>z.elim);subst z1;repeat (any_goals (first | assumption | wp_step))
end
end L2
namespace L2
open PySem PySem.Spec PyProof.Rows PySem.W
def exI (e C:Addr)(od:Option Addr):Heap->Prop:=λh=>∃t,h.get? e=some {cls:=.ref C,dict:=od,data:=.fields #[.ref t,.none,.none,.none,.bool false,.none]}
theorem exI.ok {P:wl}{w:yF}{H:Hp}{h:Heap}{e C:Addr}{od:Option Addr}(q:exI e C od h):c_ P w H h e (.ext (exI e C od)) :=
 ⟨q,let ⟨t,g⟩:=q;⟨_,g⟩,λh1 h2 ⟨t,g⟩ k=>⟨t,k _ g⟩⟩
def il (K:ac)(C fI:Addr):Bool:=match K.lookup C with
 | some ⟨.type "type",_,.cls cd,sl⟩=>(match cd.mro,sl.toList with
  | .ref C'::bm,[_,_,_,_,some (.builtin n),_]=>C'==C&&n == "ValueError.__new__" && !cd.hasDel&&Ee K bmV bm&&PySem.W.nsOkIn K cd.ns&&yB K cd.ns "__init__" == some (some (.ref fI))&&cd.hasDict
  | _,_=>false)
 | _=>false
structure OwnI (C fI:Addr)(h:Heap):Prop where
 obj:∃bm N nm q bs sn sub ab col dd k0 k1 k2 k3 k5 mN,h.get? C=some (Ad nm q C N bs bm true sn sub ab col dd k0 k1 k2 k3 k5 "ValueError.__new__")/\h.Ns N mN/\mN "__init__" = some (.ref fI)/\B0 h bmV bm
theorem pA {K:ac}{h:Heap}{N:Addr}{mg:Str->Option bd}{n:Str}{v:bd}(X:K.In h)(G:h.Ns N mg)(e:nsIn K N n=some (some v)):mg n=some v:=by
 obtain⟨o,es,ep,ho,hd,_,hf⟩:=G;unfold nsIn at e;split at e
 ·rename_i c d es' n' sl q;have:=X _ _ q;rw[ho]at this;cases this
  cases hd
  split at e
  ·rename_i en he;cases e
   rw[<- hf];unfold nsFind findBy;rw[<- Array.find?_toList,he];rfl
  ·split at e <;> cases e
 ·cases e
theorem qK {K:ac}{h:Heap}{C fI:Addr}(KX:K.In h)(q:il K C fI=true):OwnI C fI h:=by
 unfold il at q;split at q;next dd cd sl lk =>
  split at q;next C' bm k0 k1 k2 k3 n k5 em es =>
   simp only[y4,beq_iff_eq,Ai]at q;obtain⟨⟨⟨⟨⟨⟨rfl,rfl⟩,nd⟩,tl⟩,nk⟩,ni⟩,hd⟩:=q;obtain⟨a1,a2,a3,a4,a5,a6,a7,a8,a9,a10,a11⟩:=cd;obtain⟨l⟩:=sl;dsimp only at em nd nk ni es hd;subst em nd es hd;exact⟨bm,a4,a1,a5,a2,a7,a8,a9,a10,dd,k0,k1,k2,k3,k5,_,KX _ _ lk,.of_isNs (BY KX nk),pA KX (.of_isNs (BY KX nk)) ni,BX KX tl⟩
  ·cases q
 ·cases q
structure jP (K:ac)(D:Addr):Prop where
 sp:specialIn K (.ref D) "__getattribute__" = some (some (.builtin "type.__getattribute__"))
 rd:readsIn K D (.type "type")=true
 fc:findCls K (.ref D) (.type "type") "__init__" = some (.val (.builtin "ValueError.__init__"))
structure ExcI (K:ac)(C fI:Addr)(f:Str):Prop where
 cl:il K C fI=true
 fn:Ed K (.ref fI)=some (.type "function")
 sa:Av K (.ref C) "__setattr__" = some (some (.builtin "object.__setattr__"))
 na:Av K (.ref C) f=some none
section
variable {X:Cx}{pins:List (Addr×Obj)}{σ σ1:St}{H H1:Hp}{s s1:dL}{h':Heap}{e C:Addr}
theorem Inv.track2 {o:HO}(I:Inv X pins σ H s)(ue:H e=none)(y0:X.s₀.heap.get? e=none)(nL:X.env.locals≠e)(nC:∀x c,X.env.cells.lookup x=some c->c≠e)(nP:∀p∈X.pn++pins,p.1≠e)(new:c_ X.prog X.w (upd H e o) s.heap e o):Inv X pins σ (upd H e o) s:=by
 have ne:∀ {b:Addr} {o:HO},H b=some o->b≠e:=λz w=>by rw[w,ue]at z;cases z
 have n0:∀b o,X.s₀.heap.get? b=some o->b≠e:=λb o q z=>by rw[z,y0]at q;cases q
 refine⟨I.ok,I.os,I.bare,⟨I.base.keep,I.base.slot,λb o q n x=>?_,I.base.there,λb xs q=>?_,λb o u q=>?_,λb ps q=>?_⟩,I.loc,I.cell,?_,λx c q=>?_,λp hp'=>?_,λa o q=>?_,I.len⟩
 ·rw[aU (n0 b o q)];exact I.base.free b o q n x
 ·have:=I.base.tups b xs q;rw[aU (ne this)];exact this
 ·have:=I.base.frzs b o u q;rw[aU (ne this)];exact this
 ·obtain⟨more,this⟩:=I.base.tbls b ps q;exact⟨more,by rw[aU (ne this)];exact this⟩
 ·rw[aU nL];exact I.free
 ·rw[aU (nC x c q)];exact I.freeC x c q
 ·obtain⟨p1,p2,p3,p4,p5⟩:=I.pin p hp';exact⟨p1,by rw[aU (nP p hp')];exact p2,p3,p4,p5⟩
 ·by_cases z:a=e
  ·subst z;rw[bh]at q;cases q
   exact new
  ·rw[aU z]at q;exact(I.hok a o q).stay (λ_ _ _ w=>w) (λb w=>by rw[aU (ne w)];exact w) λb xs w=>by rw[aU (ne w)];exact w
def rm (H:Hp)(e:Addr):Hp:=λb=>if b=e then none else H b
theorem qu:rm H e e=none:=by unfold rm;rw[if_pos rfl]
theorem mL {b:Addr}(h:b≠e):rm H e b=H b:=by unfold rm;rw[if_neg h]
theorem Inv.untrack {φ:Heap->Prop}(I:Inv X pins σ H s)(he:H e=some (.ext φ))(y0:X.s₀.heap.get? e=none):Inv X pins σ (rm H e) s:=by
 have ne:∀ {b:Addr} {o:HO},H b=some o->(∀ φ,o ≠ .ext φ)->b≠e:=λz n w=>by rw[w,he]at z;cases z;exact n _ rfl
 have nn:∀b,H b=none->rm H e b=none:=λb z=>by unfold rm;split <;> first | rfl | exact z
 refine⟨I.ok,I.os,I.bare,⟨I.base.keep,I.base.slot,λb o q n x=>nn b (I.base.free b o q n x),I.base.there,λb xs q=>?_,λb o u q=>?_,λb ps q=>?_⟩,I.loc,I.cell,nn _ I.free,λx c q=>nn _ (I.freeC x c q),λp hp'=>?_,λa o q=>?_,I.len⟩
 ·have:=I.base.tups b xs q;rw[mL (ne this λ_ z=>nomatch z)];exact this
 ·have:=I.base.frzs b o u q;rw[mL (ne this λ_ z=>nomatch z)];exact this
 ·obtain⟨more,this⟩:=I.base.tbls b ps q;exact⟨more,by rw[mL (ne this λ_ z=>nomatch z)];exact this⟩
 ·obtain⟨p1,p2,p3,p4,p5⟩:=I.pin p hp';exact⟨p1,nn _ p2,p3,p4,p5⟩
 ·by_cases z:a=e
  ·subst z;rw[qu]at q;cases q
  ·rw[mL z]at q;exact(I.hok a o q).stay (λ_ _ _ w=>w) (λb w=>by rw[mL (ne w λ_ z=>nomatch z)];exact w) λb xs w=>by rw[mL (ne w λ_ z=>nomatch z)];exact w
theorem vZ {o:HO}(h:H e=some o):upd H e o=H:=by
 funext b;unfold upd;split
 ·rename_i z;rw[z,h]
 ·rfl
end
section
variable {X:Cx}{C D:Addr}{y f:Str}{np apos cpos pos pos' sp:Pos}{e text value:Expr}{es:List Expr}{t:TA}{tv:TE}
def rBI (C:Addr):List V->Hp->VK->Prop:=λvs H Q=>∃e od x,vs=[.ref e,x]/\H e=some (.ext (exI e C od))/\Q .non H
theorem og {pl:Sem Bool}(B:jP X.K D)(hc:fA X.K C=true)(hm:X.mg y=some (.ref D))(ha:PA X (e::es) t)(hg:Gl X y:=by rfl)(hdb:(y==("__debug__" : Str))=false:=by decide)
  (hst:yu (e::es) X.env=(false,eval e X.env)::yu es X.env:=by rfl) (hpl:(Al cpos (yu es X.env)).any (·.1)=false:=by rfl)
  (ht:eval (.Call (.Attribute (.Name y np) "__init__" apos) (e::es) [] cpos) X.env=(do
   let ov <- eval (.Name y np) X.env
   standAt apos.atName
   let (f,first) <- holding [ov] (getMethod ov "__init__" pl)
   callWith cpos f first (Al cpos (yu (e::es) X.env)) (backToKw cpos (EA [] X.env))):=by rfl) :
  PE X (.Call (.Attribute (.Name y np) "__init__" apos) (e::es) [] cpos) (λσ H Q=>t σ H λvs H1=>rBI C vs H1 Q):=by
 intro pins s σ H Q I h;refine PySem.W.methodCall_KW (pl:=pl) (gk I hg hm ?_ hdb) ht;refine method_cls I.kIn B.sp (cls_value I.kIn B.rd B.fc rfl ?_);have hA:=ha cpos pins _ σ H _ (I.tok (s.toks+1)) h;rw[hst]at hA ⊢;refine Dh (by show(false||(Al cpos (yu es X.env)).any (·.1))=false;rw[hpl] <;> rfl) (AR ?_);refine thn hA λus s2 ⟨vs,H2,I2,r,q⟩=>?_;obtain⟨e',od,x,rfl,he,hq⟩:=q;obtain⟨t0,ge⟩:=(I2.hok e' _ he).1;obtain⟨bm,N,nm,q,bs,hdct,sn,sub,ab,col,dd,k0,k1,k2,k3,k5,hC,T⟩:=(ecls I2.kIn hc).obj;cases r with
 | cons r1 rr =>
  cases rr with
  | cons r2 rr =>
   cases rr
   cases (show _=Value.ref e' from r1)
   obtain⟨hh,g,d,tk,os⟩:=s2;refine rO T hC ge λh' k hx=>⟨.non,H2,?_,rfl,hq⟩
   have:=I2.write (x:=e') (e:=e') (o:=.ext (exI e' C od)) (t':=tk) (h':=h') (by rw[he];exact True.intro) (.inl rfl) (λb u ne z=>k b u ne z) (let ⟨t1,g1⟩:=hx;⟨_,g1⟩) (exI.ok hx);rw[vZ he]at this;exact this
def sXF (C:Addr)(tv:TE)(i:Nat)(f:Str):TS:=λD σ H=>tv σ H λy H1=>∃e,σ[i]? = some (some (.ref e))/\H1 e=some (.ext (exI e C none)) /\
 ∀dx,H1 dx=none->dx≠e->D.nx σ (upd (upd H1 e (.ext (exI e C (some dx)))) dx (.xd [(f,y)]))
theorem qD {i:Nat}{sn:Str}{fI:Addr}(c:ExcI X.K C fI f)(hv:PE X value tv)(hi:PE X (.Name sn sp) (tVar i))(hs:AJ value (some (.Attribute (.Name sn sp) f pos')) pos.line X.env=pure false:=by rfl) :
  PS X (.Assign [.Attribute (.Name sn sp) f pos'] value pos) (sXF C tv i f):=by
 intro pins s σ H D I h;refine plainObj_wpAny_Assign_Attribute (thn (hv pins s σ H _ I h) λu s1 ⟨yv,H1,I1,ry,e,e1,e2,q⟩=>thn (hi pins s1 σ H1 (λx H2=>x = .ref e/\H2=H1) I1 ⟨.ref e,e1,rfl,rfl⟩) λov s2 ⟨x,H2,I2,rx,ex,eH⟩=>?_) hs;subst ex eH;obtain rfl:ov=Value.ref e:=rx;obtain⟨t0,ge⟩:=(I2.hok e _ e2).1;obtain⟨bm,N,nm,q',bs,sn',sub,ab,col,dd,k0,k1,k2,k3,k5,mN,hC,hN,_,T⟩:=(qK I2.kIn c.cl).obj;obtain⟨hh,g,d,tk,os⟩:=s2;refine uZ I2.kIn T hC c.sa c.na ge rfl rfl (λ_ z=>nomatch z) λh' dx tk' hn ne hz gx nx k=>?_;have ud:H2 dx=none:=I2.hok.fresh hz;have I3:=I2.write (x:=e) (e:=e) (o:=.ext (exI e C (some dx))) (t':=tk') (h':=h') (by rw[e2];exact True.intro) (.inl rfl) (λb u ne z=>k b u ne z) ⟨_,gx⟩ (exI.ok ⟨t0,gx⟩);have sz0:X.s₀.heap.objs.size<=dx:=yt I2.sz hz;have ge':∀b o,hh.get? b=some o->b≠dx:=λb o z w=>by rw[w,hn]at z;cases z
 have I4:=I3.track2 (e:=dx) (o:=.xd [(f,yv)]) (by rw[aU ne];exact ud) (Ak sz0)
  (λz=>by obtain⟨m1,⟨o1,_,_,ho1,_⟩,_⟩:=id I2.loc;exact ge' _ _ ho1 z)
  (λx c q z=>by obtain⟨v,o1,ho1,_⟩:=I2.cell x c q;exact ge' _ _ ho1 z)
  (λp hp z=>ge' _ _ (I2.pin p hp).1 z) ⟨_,nx,λg=>?_⟩
 ·exact⟨σ,_,I4,q dx ud ne⟩
 ·show RelO (DC g [(f,yv)]) (if g=f then some u else none);by_cases z:g=f
  ·rw[if_pos z];have hb:(g==f)=true:=beq_iff_eq.mpr z;simp only[DC,hb];exact ry
  ·rw[if_neg z];have hb:(g==f)=false:=beq_eq_false_iff_ne.mpr z;simp only[DC,hb];trivial
end
section
variable {X:Cx}{R:VK}{C fI:Addr}{f x:Str}
def tRsI (C:Addr)(f:Str)(sp:Sp)(t0:TE):TS:=λD σ H=>t0 σ H λv H1=>∀e,H1 e=none->sp [.ref e,v] (upd H1 e (.ext (exI e C none)))
 (λr H2=>r = .non/\∃dx y,H2 e=some (.ext (exI e C (some dx)))/\H2 dx=some (.xd [(f,y)])/\dx≠e/\H1 dx=none/\D.rt y (rm H2 e)) E0
theorem g0 {k:Nat}{fd:Ay}{ps:List Str}{sp:Sp}(T:Tie X C (some f) R)(hc:X.calm=true)(hm:X.mg x=some (.ref C))(c:ExcI X.K C fI f)(F:FnOk X.prog X.w X.K X.mg X.base CX0 k fI fd ps sp)(hr:Room (k+1) X.A)(hb:ly X.K fd ps [])
  {e0:Expr} {t0:TE} {np cpos pos:Pos} (ha:PE X.nox e0 t0) (hg:Gl X x:=by rfl) (he:yu [e0] X.env=[(false,eval e0 X.env)]:=by rfl) (hdb:(x==("__debug__" : Str))=false:=by decide) :
  PSr X R (.Raise (some (.Call (.Name x np) [e0] [] cpos)) none pos) (tRsI C f sp t0):=by
 intro pins s σ H D e I h;obtain⟨tl,N,nm,q,bs,sn,sub,ab,col,dd,k0,k1,k2,k3,k5,mN,hC,hN,hi,tw⟩:=(qK I.mod.kin c.cl).obj;obtain⟨oI,lkI,hfc⟩:=wp.mp (show(X.K.lookup fI).map (·.cls)=some (.type "function")from c.fn);refine jG (k5:=k5) (k3:=k3) (k2:=k2) (k1:=k1) (k0:=k0) (dd:=dd) (col:=col) (ab:=ab) (sub:=sub) (sn:=sn) (hdct:=true) (bs:=bs) (N:=N) (q:=q) (nm:=nm) (C:=C) (bm:=tl) (mN:=mN) (fI:=fI) (oI:=oI) A4 (tw.hasType (by decide +kernel)) (I.ok.hd hc) (by rw[he];rfl) hi hfc (gk I hg hm ⟨rfl,?_⟩ hdb);rw[he];refine AR (Au ?_);refine thn (ha.nox pins s σ H _ I h) λu s1 ⟨v,H1,I1,r1,q1⟩=>Az ?_;refine⟨rfl,by show(1:Nat)<=_;decide,I1.bk _ _ hC,hN.keeps I1.bk,tw.keeps I1.bk,I1.kIn _ _ lkI,λh' a mk=>?_⟩;obtain⟨tt,g1,g2,g3⟩:=mk.there;have ua:H1 a=none:=by
  cases z:H1 a with
  | none=>rfl
  | some o =>
   obtain⟨u,z'⟩:=I1.hok.get z;rw[mk.new]at z';cases z'
 have y0:=I1.back0 T.ex mk.new;have ga:∀b o,s1.heap.get? b=some o->b≠a:=λb o z w=>by rw[w,mk.new]at z;cases z
 have It:=(I1.kept (t':=s1.toks) mk.keeps).track2 (e:=a) (o:=.ext (exI a C none)) ua y0
  (λz=>by obtain⟨m1,⟨o1,_,_,ho1,_⟩,_⟩:=id I1.loc;exact ga _ _ ho1 z)
  (λx c q z=>by obtain⟨v,o1,ho1,_⟩:=I1.cell x c q;exact ga _ _ ho1 z)
  (λp hp z=>ga _ _ (I1.pin p hp).1 z) (exI.ok ⟨tt,g1⟩)
 have hl:([Value.ref a,u]:List bd).length=ps.length:=F.len _ _ _ _ (q1 a ua);refine CG (BW (F.run _ X.stack _ _ ⟨[Value.ref a,u],[]⟩ [Value.ref a,u] [.ref a,v] _ E0 (hr.make C [u] []) (It.env0.make C [u] []) (by have:=hb _ [Value.ref a,u] It.kIn (by simpa using hl);simpa using this) (.cons rfl (.cons r1 .nil)) (q1 a ua)) λrr s' hq=>?_);cases rr with
 | error ev=>exact yD hq
 | ok fl =>
  cases fl with
  | next=>exact yD hq
  | brk=>exact yD hq
  | cont=>exact yD hq
  | ret w' =>
   obtain⟨v',H2,os,bare,un,hok,rv,ev,dx,y,e2,e3,ne,ud,qq⟩:=hq;subst ev;have I2:Inv X pins σ H2 s':=It.call' os un hok bare λb z=>nomatch z;have yd:X.s₀.heap.get? dx=none:=by
    refine I1.back0 T.ex ?_;cases z:s1.heap.get? dx with
    | none=>rfl
    | some o =>
     have:=un.free dx o (mk.keeps _ _ z) (by rw[aU ne];exact ud) (λz=>nomatch z);rw[e3]at this;cases this
   have I3:=I2.untrack e2 y0;obtain⟨t1,g4⟩:=(I2.hok a _ e2).1;refine⟨rv,I2.bk _ _ hC,t1,some dx,g4,?_⟩;exact T.run I3 ⟨_,_,.none,g4,rfl,rfl,rfl,rfl,y0,qu,.inl rfl⟩ (λz w=>by cases w;exact yd) ⟨dx,rfl,by rw[mL ne];exact e3⟩ (e▸qq)
end
def spIP (C:Addr)(f:Str):Sp:=λvs H Q _=>∃e,∃n:Nat,vs=[.ref e,.int n]/\n<10000000000000000000000000000000000000000000000000000000000000000000000/\H e=some (.ext (exI e C none))/\∀dx,H dx=none->dx≠e->Q .non (upd (upd H e (.ext (exI e C (some dx)))) dx (.xd [(f,.int n)]))
theorem tn3:∀k:Nat,k<10000000000000000000000000000000000000000000000000000000000000000000000->(toString (k:Int):Str).length<=70:=λk h=>toString_length_le (v:=(k:Int)) (k:=70) (by omega) (by decide) (by omega)
theorem wQ {k:Nat}(h:k<10000000000000000000000000000000000000000000000000000000000000000000000):(k:Int).natAbs.log2<1920:=by
 rw[Int.natAbs_natCast];by_cases h0:k=0
 ·subst h0;decide
 ·have:=(Fw h0).mpr (show k<2^233 by omega);omega
section
variable {K:ac}{C:Addr}{f:Str}{pr:Nat->Bool}{t0:TE}{a0:AE}
theorem u0 {H:Hp}{e dx:Addr}{o o1 o2:HO}(he:H e=none)(ne:dx≠e):rm (upd (upd (upd H e o) e o1) dx o2) e=upd H dx o2:=by
 funext b;unfold rm upd;by_cases z:b=e
 ·subst z;rw[if_pos rfl,if_neg (zd ne),he]
 ·rw[if_neg z];by_cases w:b=dx
  ·rw[if_pos w,if_pos w]
  ·rw[if_neg w,if_neg w,if_neg z,if_neg z]
def aRsP (a:AE):AS:=λk ρ=>a ρ λr ρ1=>match r with
 | .d (.int i)=>(0<=i/\i<10000000000000000000000000000000000000000000000000000000000000000000000)/\k.rt (.d (.int i)) ρ1
 | _=>False
theorem gX (ha:TEok K t0 a0):TSok K pr (tRsI C f (spIP C f) t0) (aRsP a0):=by
 intro F σ ρ H D k hp r h ko;refine ha F σ ρ H _ _ r h λr1 ρ1 v H1 h1 o=>?_;obtain⟨r',k1,i1⟩:=o.inF;split at h1
 ·rename_i i;obtain⟨⟨l0,l2⟩,h1⟩:=h1;have ev:v = .int i:=i1.int;subst ev;intro e ue;refine⟨e,i.toNat,by rw[D4 l0],by omega,bh,λdx hd ne=>⟨rfl,dx,.int i,?_,?_,ne,?_,?_⟩⟩
  ·rw[aU (zd ne),bh]
  ·rw[bh,D4 l0]
  ·rw[aU ne]at hd;exact hd
  ·rw[aU ne]at hd;rw[u0 ue ne];refine ko.rt σ ρ1 (.d (.int i)) _ _ h1 ⟨r'.fresh hd,?_⟩;unfold RepD;rfl
 ·exact h1.elim
end
def xu:Stmt->Stmt
 | .ClassDef _ _ _ (st::_) _ _ _ _ _ _ _=>st
 | _=>.Pass ⟨0,0,0,0⟩
structure jH (K:ac)(C fI:Addr)(f qual:Str)(st:Stmt)(ps:List Str):Prop where
 xi:ExcI K C fI f
 fn:∃fd,Fun K "__init__" qual st fI fd/\∀us:List bd,us.length=ps.length->Dq fd ⟨us,[]⟩=pure (ps.zip us)
theorem oE {K:ac}{C fI:Addr}{f qual:Str}{st:Stmt}{ps:List Str}{oc:bd}{od an:Option Addr}{osl:Array (Option bd)}{kV doc pm cdv ct:bd}(i:Av K (.ref C) "__init__" = some (some (.ref fI)))
  (l:K.lookup fI=some ⟨oc,od,.func (zN "__init__" qual (eU st) (cD st) (aM st) .none kV doc pm an cdv ct),osl⟩) (c:Ag K cdv qual=true) (k:zQ K (.ref fI)=true)
  (cl:il K C fI=true) (fn:Ed K (.ref fI)=some (.type "function")) (sa:Av K (.ref C) "__setattr__" = some (some (.builtin "object.__setattr__"))) (na:Av K (.ref C) f=some none)
  (hb:∀(kV doc pm:bd) (an:Option Addr) (cdv ct:bd) (us:List bd),us.length=ps.length->Dq (zN "__init__" qual (eU st) (cD st) (aM st) .none kV doc pm an cdv ct) ⟨us,[]⟩=pure (ps.zip us)):jH K C fI f qual st ps :=
 ⟨⟨cl,fn,sa,na⟩,_,uk l c k,λus hl=>hb kV doc pm an cdv ct us hl⟩
theorem rz {K:ac}{C:Addr}(q:zB K C bmV "ValueError.__new__" = true):fA K C=true:=by
 unfold zB at q;unfold fA;split at q;next dd cd sl lk =>
  try rw[lk]
  split at q;next C' bm k0 k1 k2 k3 n k5 em es =>
   simp only[y4,beq_iff_eq,Ai]at q;obtain⟨⟨⟨⟨⟨rfl,rfl⟩,nd⟩,tl⟩,nk⟩,ni⟩:=q;first | (simp[em,es,nd,tl];done) | simp_all
  ·cases q
 ·cases q
theorem j0 {K:ac}{C fI:Addr}(q:il K C fI=true):fA K C=true:=by
 unfold il at q;unfold fA;split at q;next dd cd sl lk =>
  try rw[lk]
  split at q;next C' bm k0 k1 k2 k3 n k5 em es =>
   simp only[y4,beq_iff_eq,Ai]at q;obtain⟨⟨⟨⟨⟨⟨rfl,rfl⟩,nd⟩,tl⟩,nk⟩,ni⟩,hd⟩:=q;first | (simp[em,es,nd,tl];done) | simp_all
  ·cases q
 ·cases q
theorem j3 {σ:St}{H:Hp}{Q:VK}{a c:Str}{n i:Nat}(ha:a.length<=1000)(hc:c.length<=1000)(hn:n<10000000000000000000000000000000000000000000000000000000000000000000000)(hv:σ[i]? = some (some (.int n)))(h:∀t,Q (.str t) H):pI (tC (.str a)) (pI (tFmt (tVar i)) (pI (tC (.str c)) jNil)) An σ H Q:=by
 have t3:=tn3 n hn;have l0:An.length=0:=rfl;have e1:(An++a).length<=1000:=by rw[AD,l0];omega
 have e2:(An++a++(toString (n:Int):Str)).length<=1070:=by rw[AD];omega
 have e3:(An++a++(toString (n:Int):Str)++c).length<=2070:=by rw[AD];omega
 refine⟨_,rfl,by rw[z8];omega,.int n,hv,n,rfl,wQ hn,_,rfl,by rw[z8];omega,_,rfl,by rw[z8];omega,by rw[z8];omega,h _⟩
theorem j2 {σ:St}{H:Hp}{Q:VK}{a:Str}{n i:Nat}(ha:a.length<=1000)(hn:n<10000000000000000000000000000000000000000000000000000000000000000000000)(hv:σ[i]? = some (some (.int n)))(h:∀t,Q (.str t) H):pI (tC (.str a)) (pI (tFmt (tVar i)) jNil) An σ H Q:=by
 have t3:=tn3 n hn;have l0:An.length=0:=rfl;have e1:(An++a).length<=1000:=by rw[AD,l0];omega
 have e2:(An++a++(toString (n:Int):Str)).length<=1070:=by rw[AD];omega
 refine⟨_,rfl,by rw[z8];omega,.int n,hv,n,rfl,wQ hn,_,rfl,by rw[z8];omega,by rw[z8];omega,h _⟩
end L2
namespace L2
open PySem PySem.Spec PyProof.Rows
section
variable {M:C1}{A:yI}{E:bd->bd->dL->Prop}{s:dL}{base:Heap}{env:Env}{outer:List Env}{L e C:Addr}{oe:Obj}{vs:Array bd}{od:Option Addr}
theorem lT {E0:bd->dL->Prop}{hd:bd}{had:Bool}{Q:bd->Unit->dL->Prop}(fr:A.frames=some (env::outer))(ff:s.heap.FunFrames base (env::outer))(lf:env.frame=some L)
  (ge:s.heap.get? e=some oe) (gc:oe.cls = .ref C) (gd:oe.dict=od) (gf:oe.data = .fields vs) (gz:1<vs.size)
  (fin:∀h' T,s.heap.objs.size<=T->Fly od h' e C T->(∀b o,s.heap.get? b=some o->b≠e->b∉frs (env::outer)->h'.get? b=some o)->(∀b o,s.heap.get? b=some o->b≠e->∃sl,h'.get? b=some {o with slots:=sl})->Q (.ref e) () {s with heap:=h'}) :
  o0 M A (do let a <- frameOf env;let pl <- Ea L had;let b <- z4 hd a .none (yO L) .none pl;Do (.ref e) 1 b) (λ_ s'=>CK M A env (λx s2=>o0 M A (BF env x) (Q x) (E x) s2) (.ref e) s') E0 s:=by
 have off:e∉frs (env::outer):=λq=>by
  obtain⟨_,o,go,no⟩:=ff.mem q;cases ge.symm.trans go
  exact no vs gf
 refine bn (CS fr ff lf λha sa=>bn (CF λpl ip=>?_));unfold z4 DW;refine bn (zO ?_ (ip.sizeOk5 _ _ _ _ _));have ge1:ha.get? e=some oe:=(sa.2.1 e off).trans ge;have sz:ha.objs.size=s.heap.objs.size:=sa.1;generalize hT:([hd,Value.ref L,.none,yO L,.none]++(if pl.isEmpty then pc 6 Value.none else pl)).toArray=tv;have tz:3<tv.size:=by rw[<- hT,li,ms];simp only[wS,AW];omega
 have neT:e≠ha.objs.size:=yn (lc ge1);refine zq (im _ ge1) gf gz ?_;generalize hp:ha.push {cls:=.type "traceback",dict:=none,data:=.fields tv}=hb;have gT:hb.get? ha.objs.size=some {cls:=.type "traceback",dict:=none,data:=.fields tv}:=by rw[<- hp];exact xL _ rfl
 have kb:∀b o,ha.get? b=some o->hb.get? b=some o:=λb o q=>by rw[<- hp];exact im _ q
 have w1:=y8 gf λa=>a.setIfInBounds 1 (.ref ha.objs.size);have g3:=yA (yP λa=>a.setIfInBounds 1 (.ref ha.objs.size)) (kb e oe ge1) (y9 w1);have gT3:=(sB hb (yP λa=>a.setIfInBounds 1 (.ref ha.objs.size)) neT).trans gT;unfold CK;refine bn (yG g3 w1 (x:=.ref ha.objs.size) (by simp[gz]) ?_);rw[if_neg (by simp:¬(Value.ref ha.objs.size==Value.none)=true)];rw[lf];unfold AK;refine bn (yG g3 w1 (x:=.ref ha.objs.size) (by simp[gz]) ?_);rw[if_pos (by simp:(Value.ref ha.objs.size != Value.none)=true)];refine zq gT3 rfl tz ?_;generalize hh2:hb.update e (yP λa=>a.setIfInBounds 1 (.ref ha.objs.size))=hc at g3 gT3 ⊢;have g4:=(sB hc (yP λa=>a.setIfInBounds 3 ((some L:Option Addr).elim Value.none λf=>yO f)) neT.symm).trans g3;have w4:=y8 (o:={cls:=.type "traceback",dict:=none,data:=.fields tv}) rfl λa=>a.setIfInBounds 3 ((some L:Option Addr).elim Value.none λf=>yO f);have gT4:=yA (yP λa=>a.setIfInBounds 3 ((some L:Option Addr).elim Value.none λf=>yO f)) gT3 (y9 w4);unfold BF z7;simp only[lf];refine bn (bn (yG g4 w1 (x:=.ref ha.objs.size) (by simp[gz]) ?_));rw[if_pos (by simp:(Value.ref ha.objs.size != Value.none)=true)];refine bn (yG gT4 w4 (x:=yO L) (by simp[tz]) ?_);rw[if_pos (by simp:(yO L==yO L)=true)];refine wv ?_;unfold AK;refine bn (yG g4 w1 (x:=.ref ha.objs.size) (by simp[gz]) ?_);rw[if_pos (by simp:(Value.ref ha.objs.size != Value.none)=true)];refine zq gT4 w4 (by simp[tz]) ?_;have w5:=y8 w4 λa=>a.setIfInBounds 3 ((none:Option Addr).elim Value.none λf=>yO f);have on:∀b o,b≠e->ha.get? b=some o->((hc.update ha.objs.size (yP λa=>a.setIfInBounds 3 ((some L:Option Addr).elim Value.none λf=>yO f))).update ha.objs.size (yP λa=>a.setIfInBounds 3 ((none:Option Addr).elim Value.none λf=>yO f))).get? b=some o:=λb o ne q=>by
  rw[sB _ _ (yQ (lc q)),sB _ _ (yQ (lc q)),<- hh2,sB _ _ (zd ne)];exact kb b o q
 refine fin _ ha.objs.size (by rw[sz];exact lw _) ⟨_,_,_,_,(sB _ _ neT.symm).trans g4,(Bt _ _).trans gc,?_,w1,by simp[gz],neT.symm,yA _ gT4 (y9 w5),w5,by simp[tz]⟩ (λb o q ne nf=>on b o ne ((sa.2.1 b nf).trans q)) λb o q ne=>?_
 ·obtain⟨oc,od,oda,osl⟩:=oe;cases gf
  exact gd
 ·obtain⟨sl,q'⟩:=sa.2.2 b o q;exact⟨sl,on b _ ne q'⟩
theorem lv2 {E0:bd->dL->Prop}{hv:bd}{Q:bd->Unit->dL->Prop}(fr:A.frames=some (env::outer))(ff:s.heap.FunFrames base (env::outer))(lf:env.frame=some L)
  (ge:s.heap.get? e=some oe) (gc:oe.cls = .ref C) (gd:oe.dict=od) (gf:oe.data = .fields vs) (g1:vs[1]? = some hv)
  (hh:hv = .none ∨ ∃T oT ts,hv = .ref T/\T≠e/\s.heap.get? T=some oT/\oT.data = .fields ts/\ts[3]? = some .none)
  (fin:∀h' T,s.heap.objs.size<=T->Fly od h' e C T->Gone (frs (env::outer)) s.heap h' e hv->Q (.ref e) () {s with heap:=h'}) :
  o0 M A (z7 (.ref e) env) (λ_ s'=>CK M A env (λx s2=>o0 M A (BF env x) (Q x) (E x) s2) (.ref e) s') E0 s:=by
 have gz:=(yV.mp g1).1;unfold z7;simp only[lf];refine bn (yG ge gf g1 ?_);rcases hh with rfl | ⟨T,oT,ts,rfl,nT,gT,fT,t3⟩
 ·rw[if_neg (by decide)];exact lT fr ff lf ge gc gd gf gz λh' T' q1 q2 q3 q4=>fin h' T' q1 q2 ⟨λb o a1 a2 _ a4=>q3 b o a1 a2 a4,λb o a1 a2 _=>q4 b o a1 a2⟩
 ·rw[if_pos (by simp:(Value.ref T != Value.none)=true)];refine bn (yG gT fT t3 ?_);rw[if_neg (by simp[yO]:¬(Value.none==yO L)=true)];refine bn (zq gT fT (yV.mp t3).1 ?_);have ot:∀b,b≠T->(s.heap.update T (yP λa=>a.setIfInBounds 3 Value.none)).get? b=s.heap.get? b:=λb q=>sB _ _ (zd q);have gT':=yA (yP λa=>a.setIfInBounds 3 Value.none) gT (y9 (y8 fT _));have nr:∀b o,s.heap.get? b=some o->(∀us,o.data ≠ .fields us)->b≠T:=λb o q nf z=>by
   subst z;cases gT.symm.trans q
   exact nf ts fT
  refine lT fr (ff.of_keeps λb o q nf=>⟨o,(ot b (nr b o q nf)).trans q,rfl⟩) lf ((ot e nT.symm).trans ge) gc gd gf gz λh' T' q1 q2 q3 q4=>fin h' T' ?_ q2 ⟨λb o a1 a2 a3 a4=>q3 b o ((ot b λz=>a3 (by rw[z])).trans a1) a2 a4,λb o a1 a2 a3=>q4 b o ((ot b λz=>a3 (by rw[z])).trans a1) a2⟩;rwa [CB]at q1
end
def Cx.pz (X:Cx):bd->dL->Prop:=E8 (sK X.prog X.w) X.A X.env (CK (sK X.prog X.w) X.A X.env X.xe)
section
variable {X:Cx}{pins:List (Addr×Obj)}{σ:St}{H:Hp}{s:dL}{h0:Heap}{e C:Addr}{od:Option Addr}
theorem lvI2 {E0:bd->dL->Prop}{E:bd->bd->dL->Prop}{Q:bd->Unit->dL->Prop}(I:Inv X pins σ H s)(hs:X.stack=X.env::X.outer)(hf:X.env.frame=some X.env.locals)(hsub:∀b o,h0.get? b=some o->b<s.heap.objs.size)(hot:Hot od h0 s.heap H e C)
  (fin:∀h' ch,(∀b∈ch,h0.get? b=none/\H b=none)->e∈ch->Un (frs X.stack) ch H H s.heap h'->HOk X.prog X.w H h'->Hot od h0 h' H e C->Q (.ref e) () {s with heap:=h'}) :
  o0 (sK X.prog X.w) X.A (z7 (.ref e) X.env) (λ_ s'=>CK (sK X.prog X.w) X.A X.env (λx s2=>o0 (sK X.prog X.w) X.A (BF X.env x) (Q x) (E x) s2) (.ref e) s') E0 s:=by
 obtain⟨oe,vs,hv,ge,gc,gd,gf,g1,ye,ue,hh⟩:=hot;have hh':hv = .none ∨ ∃T oT ts,hv = .ref T/\T≠e/\s.heap.get? T=some oT/\oT.data = .fields ts/\ts[3]? = some .none:=by
  rcases hh with q | ⟨T,oT,ts,q1,q2,q3,q4,q5,_⟩
  ·exact .inl q
  ·exact .inr ⟨T,oT,ts,q1,q2,q3,q4,q5⟩
 refine lv2 (hs▸I.ok.frames) (hs▸I.stack) hf ge gc gd gf g1 hh' λh' T q1 ⟨oe',vs',oT',ts',f1,f2,f3,f4,f5,f6,f7,f8,f9⟩ g=>?_;have hch:∀b∈e::(match hv with | .ref T=>[T] | _=>[]),h0.get? b=none/\H b=none:=λb hb=>by
  rcases wn.mp hb with rfl | hb
  ·exact⟨ye,ue⟩
  ·rcases hh with rfl | ⟨T,oT,ts,rfl,_,_,_,_,y,u⟩
   ·cases hb
   ·rw[y7.mp hb];exact⟨y,u⟩
 have nch:∀b,b∉e::(match hv with | .ref T=>[T] | _=>[])->b≠e/\hv ≠ .ref b:=λb hb=>⟨λz=>hb (z ▸ .head _),λz=>hb (by subst z;exact .tail _ (.head _))⟩
 have there:∀b o,s.heap.get? b=some o->∃o',h'.get? b=some o'∨b=e∨hv = .ref b:=λb o q=>by
  by_cases z1:b=e
  ·exact⟨o,.inr (.inl z1)⟩
  ·by_cases z2:hv = .ref b
   ·exact⟨o,.inr (.inr z2)⟩
   ·obtain⟨sl,q'⟩:=g.slot b o q z1 z2;exact⟨_,.inl q'⟩
 refine fin h' _ hch (.head _) ⟨λb o q n nf nx=>g.keep b o q (nch b nx).1 (nch b nx).2 (by rw[<- hs];exact nf),λb o q n _ nx=>g.slot b o q (nch b nx).1 (nch b nx).2,λb o _ n _=>n,λb o q nx=>?_,λ_ _ q=>q,λ_ _ _ q=>q,λb ps q=>⟨#[],by rw[q];simp⟩⟩ (λa o q=>?_) ⟨oe',vs',_,f1,f2,f3,f4,f5,ye,ue,.inr ⟨T,oT',ts',rfl,f6,f7,f8,f9,?_,I.hok.fresh q1⟩⟩
 ·obtain⟨sl,q'⟩:=g.slot b o q (nch b nx).1 (nch b nx).2;exact⟨_,q'⟩
 ·have tr:∀b o',H b=some o'->b≠e/\hv ≠ .ref b/\b∉frs (X.env::X.outer):=λb o' z=>by
   refine⟨λw=>?_,λw=>?_,λw=>?_⟩
   ·rw[w,ue]at z;cases z
   ·rcases hh with y | ⟨T,oT,ts,y,_,_,_,_,_,u⟩
    ·rw[y]at w;cases w
    ·rw[y]at w;cases w;rw[u]at z;cases z
   ·rw[<- hs]at w;rw[I.stkFree b w]at z;cases z
  refine(I.hok a o q).stay (λb u hb z=>?_) (λ_ z=>z) λ_ _ z=>z;have:∃o',H b=some o':=by
   rcases hb with rfl | hb
   ·exact⟨_,q⟩
   ·exact⟨_,hb⟩
  obtain⟨o',ho'⟩:=this;obtain⟨a1,a2,a3⟩:=tr b o' ho';exact g.keep b u z a1 a2 a3
 ·cases z:h0.get? T with
  | none=>rfl
  | some o=>exact absurd (hsub T o z) (BL.mpr q1)
end
section
variable {P:wl}{w:yF}{K:ac}{mg:Str->Option bd}{base:Heap}{N:List Str}{qual:Str}{scope:zA}{f:Addr}{cd:bd}{A:yI}{outer:List Env}{s0:dL}{H0:Hp}{E:XK}
theorem ug {pins:List (Addr×Obj)}{σ:St}{H:Hp}{s:dL}{e C:Addr}{od:Option Addr}(I:Inv (cxOf (CX1 P w) P w K mg base N qual scope f cd A outer s0 H0 E) pins σ H s)(hot:Hot od s0.heap s.heap H e C)(hyg:Yg s0.heap od)(he:E (odV od) (some C) H) :
  (cxOf (CX1 P w) P w K mg base N qual scope f cd A outer s0 H0 E).pz (.ref e) s:=by
 refine lvI2 I rfl rfl (λb o q=>?_) hot λh' ch hch hin un hok hot'=>?_
 ·exact nw (lc q) I.sz
 ·have lo:∀b o,s0.heap.get? b=some o->b∉ch:=λb o q z=>by rw[(hch b z).1]at q;cases q
  have nL:∀b o,s0.heap.get? b=some o->b≠s0.heap.objs.size:=λb o q=>yn (lc q);refine⟨e,C,od,H,rfl,I.os,I.bare,⟨λb o q n nf _=>?_,λb o q n hb _=>?_,λb o q n _=>I.base.free b o q n (λz=>nomatch z),λb o q _=>?_,I.base.tups,I.base.frzs,I.base.tbls⟩,hok,hot',hyg,he⟩
  ·refine un.keep b o (I.base.keep b o q n nf λz=>nomatch z) (I.base.free b o q n λz=>nomatch z) (λz=>?_) (lo b o q);rcases wn.mp z with z | z
   ·exact nL b o q z
   ·exact nf z
  ·obtain⟨sl,q'⟩:=I.base.slot b o q n hb λz=>nomatch z
   obtain⟨sl',q''⟩:=un.slot b _ q' (I.base.free b o q n λz=>nomatch z) (.tail _ hb) (lo b o q);exact⟨sl',q''⟩
  ·obtain⟨o',q'⟩:=I.base.there b o q λz=>nomatch z
   exact un.there b o' q' (lo b o q)
end
abbrev Cx.inFor (X:Cx):Cx:={X with xe:=X.pz}
section
variable {X:Cx}{R:VK}{tg:Expr}
theorem i7 {iter:Expr}{body:List Stmt}{wi:TI}{g:TG}{tb:TS}{pos:Pos}(hc:X.calm=true)(hi:PI X.nox tg iter wi)(hg:PG X.nox tg g)(hb:PSsr X.inFor R body tb)
  (hs:∀x,z9 iter X.env x=pure x:=by intro _;rfl):PSr X R (.For tg iter body [] pos) (tFor wi g tb):=by
 intro pins s σ H D e I h;refine wpAny_For (yJ (hi pins s σ H _ (I.wish _) h) (λv s1 h1=>yJ h1 (λitv s2 h2=>?_) λ_ _ z=>yD z) λ_ _ z=>yD z) hs;obtain⟨it,fp,tn,J,H2,e2,I2w,T,st2,f2,W,⟨m0,w0⟩,turn⟩:=h2;subst e2;have I2:=I2w.unwish;have stat:∀ {H':Hp},(∀b∈fp,H' b=none)->∀b∈fp,FpOk X pins H' b:=λhn b hb=>⟨hn b hb,(f2 b hb).2⟩
 refine EK (λn s'=>∃i σ' H',Inv X pins σ' H' s'/\tn i s'.heap/\(∀b∈fp,H' b=none)/\W i n σ' H') ?_ m0 ⟨0,σ,H2,I2,st2,λb hb=>(f2 b hb).1,w0⟩;rintro n s3 ⟨i,σ3,H3,I3,st3,fr3,w3⟩;rcases turn i n σ3 H3 w3 with⟨stop,qn⟩ | ⟨go,N,hN,step⟩
 ·refine thn (T.done X rfl rfl rfl hc i pins s3 σ3 H3 X.pz I3 (stat fr3) st3 stop) λr s4 ⟨hr,I4⟩=>?_;subst hr;exact AB ⟨σ3,H3,I4,qn⟩
 ·refine thn (T.item X rfl rfl rfl hc i pins s3 σ3 H3 X.pz I3 (stat fr3) st3 go) λr s4 ⟨u,hr,h4⟩=>?_;subst hr;refine thn h4 λ_ s5 ⟨x,H5,I5,r5,y5,st5,fr5⟩=>?_;have I5':=I5.pinned (stat fr5) (T.obj _ _ st5);refine yJ (hg _ s5 σ3 H5 x u _ (I5'.wish _) r5 (step x H5 y5)) (λ_ s6 ⟨σ6,H6,I6,q6⟩=>?_) λ_ _ z=>yD z;refine thn (hb _ s6 σ6 H6 {D with nx:=N,ct:=N,bk:=D.nx} e (I6.unwish.wish _) q6) λf s7 q7=>?_;have EF:∀ {σ7:St} {H7:Hp},Inv X (pins++ja fp s5.heap) σ7 H7 s7->N σ7 H7->∃m,m<n/\∃i σ' H',Inv X pins σ' H' s7/\tn i s7.heap/\(∀b∈fp,H' b=none)/\W i m σ' H':=λ{σ7 H7} I7 n7=>by
   obtain⟨m',hm,w7⟩:=hN σ7 H7 n7;refine⟨m',hm,i+1,σ7,H7,I7.unpinned,T.keep _ _ _ st5 λb hb o e=>(I7.pin (b,o) (wr _ (wr _ (cP hb e)))).1,λb hb=>?_,w7⟩;obtain⟨o,e,d⟩:=T.obj _ _ st5 b hb;exact(I7.pin (b,o) (wr _ (wr _ (cP hb e)))).2.1
  cases f with
  | next=>obtain⟨σ7,H7,I7,n7⟩:=q7;exact EF I7.unwish n7
  | cont=>exact q7.elim
  | brk=>exact q7.elim
  | ret v=>exact q7.elim
end
section
variable {P:wl}{w:yF}{K:ac}{mg:Str->Option bd}{base:Heap}{N:List Str}{qual:Str}{scope:zA}{f:Addr}{cd:bd}{A:yI}{outer:List Env}{s0:dL}{H0:Hp}{E:XK}{C:Addr}{fn:Option Str}
theorem tie2:Tie (cxOf (CX1 P w) P w K mg base N qual scope f cd A outer s0 H0 E).inFor C fn (XW E C fn):=⟨rfl,λI hot hy hf hr=>ug I.unwish hot hy (hr _ hf)⟩
end
end L2
namespace L2
theorem l3 {i j:Nat}{d:D}{ρ:En}{k:En->Prop}(h:pN 2 (gR (gb i) (gR (gb j) gaNil)) d ρ k):∃ ρ',k ρ':=by
 cases d with
 | tup ds =>
  cases ds with
  | nil=>exact h.elim
  | cons d1 ds =>
   cases ds with
   | nil=>exact h.elim
   | cons d2 ds =>
    cases ds with
    | nil=>exact⟨_,h⟩
    | cons _ _=>exact h.elim
 | _=>exact h.elim
theorem iP {i j m:Nat}{d1 d2 d3:D}{ρ:En}{k:En->Prop}(h:k (pt (pt (pt ρ i (.vl d1)) j (.vl d2)) m (.vl d3))):pN 2 (gR (gb i) (gR (pN 2 (gR (gb j) (gR (gb m) gaNil))) gaNil)) (.tup [d1,.tup [d2,d3]]) ρ k:=h
end L2
namespace L2
open PySem PySem.Spec PyProof.Rows
abbrev EnO (h:Heap)(e it:Addr)(i:Int)(old:bd)(a:Addr)(f:Bool):Prop :=
 h.get? e=some {cls:=.type "enumerate",dict:=none,data:=.fields #[yO a,.bool f,.ref it,yO i,.none,old],slots:=#[]}
section
variable {prog:wl}{w:yF}{A:yI}{E:bd->dL->Prop}{s:dL}
theorem sS {a:Addr}{o:Obj}{Q:Option Obj->dL->Prop}(ho:s.heap.get? a=some o)(h:Q (some o) s):o0 (sK prog w) A (loadIfAlive a) Q E s:=by
 have h':Q (s.heap.get? a) s:=by rw[ho];exact h
 exact λ_ _ _=>h'
theorem tj {e it a:Addr}{f:Bool}{oa:Obj}{fp:List Addr}{n i:Nat}{P:Nat->bd->Prop}{St:Nat->Heap->Prop}{old:bd}{Q:bd->dL->Prop}
  (D:Fg prog w A it fp n P St) (he:EnO s.heap e it i old a f) (ha:s.heap.get? a=some oa) (hae:a≠e) (hai:a≠it) (hst:St i s.heap) (hlt:i<n) (hne:e≠it) (hef:e∉fp)
  (hQ:∀x h' tk,P i x->EnO h' e it ((i:Int)+1) old a true->St (i+1) h' ->
   h'.get? s.heap.objs.size=some {cls:=.type "tuple",data:=.seq #[.int i tk,x]}->h'.objs.size=s.heap.objs.size+1 ->
   (∀b o,b≠e->b≠it->s.heap.get? b=some o->h'.get? b=some o)->Q (.ref s.heap.objs.size) {s with heap:=h',toks:=tk+1}) :
  o0 (sK prog w) A (Builtin.«enumerate.__next__» ⟨[.ref e],[]⟩) (λfin s'=>∃v,fin = .done (.ret v)/\Q v s') E s:=by
 obtain⟨hp,g,d,tk₀,os⟩:=s;show o0 _ _ (DX (.ref e) 2>>=_) _ _ _;refine bn (yG he rfl (x:=.ref it) rfl ?_);refine bn (D.item i _ _ _ hlt hst λx h₁ tk hPx hit₁ hs₁=>?_);replace hs₁:zf it hp h₁:=hs₁;have he₁:EnO h₁ e it i old a f:=(hs₁.2 e hne).trans he;show o0 _ _ (DX (.ref e) 3>>=_) _ _ ⟨h₁,g,d,tk,os⟩;refine bn (yG he₁ rfl (x:=yO i) rfl ?_);show o0 _ _ (DX (.ref e) 4>>=_) _ _ ⟨h₁,g,d,tk,os⟩;refine bn (yG he₁ rfl (x:=.none) rfl ?_);show o0 _ _ (mkInt i>>=_) _ _ ⟨h₁,g,d,tk,os⟩;refine bn (wpAny_mkInt ?_);show o0 _ _ (Do (.ref e) 3 (yO ((i:Int)+1))>>=_) _ _ ⟨h₁,g,d,tk+1,os⟩;refine bn (CD he₁ (by simp) λh₂ he₂ hs₂=>?_);replace hs₂:zf e h₁ h₂:=hs₂;replace he₂:EnO h₂ e it ((i:Int)+1) old a f:=he₂;show o0 _ _ (Do (.ref e) 4 .none>>=_) _ _ ⟨h₂,g,d,tk+1,os⟩;refine bn (CD he₂ (by simp) λh₃ he₃ hs₃=>?_);replace hs₃:zf e h₂ h₃:=hs₃;replace he₃:EnO h₃ e it ((i:Int)+1) old a f:=he₃;show o0 _ _ (newTuple [.int i tk,x]>>=_) _ _ ⟨h₃,g,d,tk+1,os⟩;refine bn (wpAny_newTuple ?_);have he₄:EnO (h₃.push {cls:=.type "tuple",data:=.seq #[.int i tk,x]}) e it ((i:Int)+1) old a f:=im _ he₃;generalize hh₄:h₃.push {cls:=.type "tuple",data:=.seq #[.int i tk,x]}=h₄ at he₄;have hsz:h₃.objs.size=hp.objs.size:=by rw[hs₃.1,hs₂.1,hs₁.1]
 have hel:e<hp.objs.size:=lc he;have ht₄:h₄.get? hp.objs.size=some {cls:=.type "tuple",data:=.seq #[.int i tk,x]}:=by rw[<- hh₄,<- hsz];exact xL _ rfl
 have hz₄:h₄.objs.size=hp.objs.size+1:=by rw[<- hh₄,zK,hsz]
 have hk₄:∀b o,b≠e->b≠it->hp.get? b=some o->h₄.get? b=some o:=λb o hbe hbi hb=>by
  rw[<- hh₄];exact im _ (hs₃.extBut b o hbe (hs₂.extBut b o hbe (hs₁.extBut b o hbi hb)))
 have hit₄:St (i+1) h₄:=D.frame _ _ _ hit₁ λb hb o y=>by
  have hbe:b≠e:=λq=>hef (q▸hb);rw[<- hh₄];exact im _ (hs₃.extBut b o hbe (hs₂.extBut b o hbe y))
 show o0 _ _ (Bo (.ref e)>>=_) _ _ ⟨h₄,g,d,tk+1,os⟩;rw[hsz];clear hh₄ he₃ hs₃ he₂ hs₂ he₁ hs₁ hit₁ hsz h₃ h₂ h₁;have ha₄:h₄.get? a=some oa:=hk₄ a oa hae hai ha;refine bn ?_;unfold Bo;refine bn (yG he₄ rfl (x:=yO a) rfl ?_);show o0 _ _ (loadIfAlive ((a:Int).toNat)>>=_) _ _ _;rw[zM];refine bn (sS ha₄ ?_);simp only[Option.isNone_some,zT,if_false];refine bn (yG he₄ rfl (x:=.bool f) rfl ?_);have fin:∀h₅:Heap,EnO h₅ e it ((i:Int)+1) old a true->zf e h₄ h₅->Q (.ref hp.objs.size) ⟨h₅,g,d,tk+1,os⟩:=λh₅ he₅ hs₅ =>
  hQ x h₅ tk hPx he₅ (D.frame _ _ _ hit₄ λb hb o y=>hs₅.extBut b o (λq=>hef (q▸hb)) y) (hs₅.extBut _ _ (yQ hel) ht₄) (by show h₅.objs.size=hp.objs.size+1;rw[hs₅.1,hz₄]) λb o hbe hbi hb=>hs₅.extBut b o hbe (hk₄ b o hbe hbi hb)
 cases f with
 | true =>
  rw[if_neg (show ¬((Value.bool true != Value.bool true)=true)from zS)];refine wv ?_;simp only[zT,if_false];exact wv ⟨_,rfl,fin h₄ he₄ (FD _ _)⟩
 | false =>
  rw[if_pos (show(Value.bool false != Value.bool true)=true from rfl)];refine bn (CD he₄ (by simp) λh₅ he₅ hs₅=>?_);replace hs₅:zf e h₄ h₅:=hs₅;replace he₅:EnO h₅ e it ((i:Int)+1) old a true:=he₅;refine wv ?_;simp only[zT,if_false];exact wv ⟨_,rfl,fin h₅ he₅ hs₅⟩
def EnS (h:Heap)(e it:Addr)(i:Nat)(S:Addr):Prop:=(∃old,C_ h e it i old) ∨ ∃old a f oa,EnO h e it i old a f/\h.get? a=some oa/\a≠e/\a≠it/\a≠S
theorem EnS.keep {h h':Heap}{e it S:Addr}{i:Nat}(x:EnS h e it i S)(hk:∀b o,b≠S->h.get? b=some o->h'.get? b=some o)(hS:e≠S):EnS h' e it i S:=by
 rcases x with⟨old,he⟩ | ⟨old,a,f,oa,he,ha,h1,h2,h3⟩
 ·exact .inl ⟨old,hk _ _ hS he⟩
 ·exact .inr ⟨old,a,f,oa,hk _ _ hS he,hk _ _ h3 ha,h1,h2,h3⟩
theorem EnS.typeIs {e it S:Addr}{i:Nat}(x:EnS s.heap e it i S):s.TypeIs (.ref e) "enumerate" := by
 rcases x with⟨old,he⟩ | ⟨old,a,f,oa,he,_⟩
 ·exact⟨_,he,rfl⟩
 ·exact⟨_,he,rfl⟩
theorem ti {e it S:Addr}{fp:List Addr}{n i:Nat}{P:Nat->bd->Prop}{St:Nat->Heap->Prop}{Q:Option bd->dL->Prop}
  (D:Fg prog w A.in1 it fp n P St) (he:EnS s.heap e it i S) (hit:it<s.heap.objs.size) (hS:S<s.heap.objs.size) (hst:St i s.heap) (hlt:i<n) (hne:e≠it) (hef:e∉fp)
  (hQ:∀x h' tk,P i x->EnS h' e it (i+1) S->St (i+1) h' ->
   h'.get? s.heap.objs.size=some {cls:=.type "tuple",data:=.seq #[.int i tk,x]}->h'.objs.size=s.heap.objs.size+1 ->
   (∀b o,b≠e->b≠it->s.heap.get? b=some o->h'.get? b=some o)->Q (some (.ref s.heap.objs.size)) {s with heap:=h',toks:=tk+1}) :
  o0 (sK prog w) A (Cj (.ref e)) Q E s:=by
 have hT:s.TypeIs (.ref e) "enumerate" := he.typeIs;rcases he with⟨old,he⟩ | ⟨old,a,f,oa,he,ha,h1,h2,h3⟩
 ·refine DU D he hst hlt hne hef λx h' tk hP ho hs ht hz hk=>hQ x h' tk hP (.inr ⟨x,_,false,_,?_,ht,yQ (lc he),yQ hit,yQ hS⟩) hs ht hz hk;have ec:((i+1:Nat):Int)=(i:Int)+1:=by omega
  rw[ec];exact ho
 ·unfold Cj;refine bn (wpAny_attempt (AH (name:=BK "__next__") hT AU
   (AY AU hT DR
    (tj D he ha h1 h2 hst hlt hne hef λx h' tk hP ho hs ht hz hk=>wv (hQ x h' tk hP (.inr ⟨old,a,true,oa,?_,hk a oa h1 h2 ha,h1,h2,h3⟩) hs ht hz hk)) (DI _))))
  have ec:((i+1:Nat):Int)=(i:Int)+1:=by omega
  rw[ec];exact ho
theorem vC {e it S:Addr}{fp:List Addr}{n i:Nat}{P:Nat->bd->Prop}{St:Nat->Heap->Prop}{Q:Option bd->dL->Prop}
  (D:Fg prog w A.in1 it fp n P St) (he:EnS s.heap e it i S) (hst:St n s.heap)
  (hQ:∀h',Fl it s.heap h'->Q none {s with heap:=h'}):o0 (sK prog w) A (Cj (.ref e)) Q E s:=by
 have hT:s.TypeIs (.ref e) "enumerate" := he.typeIs;rcases he with⟨old,he⟩ | ⟨old,a,f,oa,he,ha,h1,h2,h3⟩
 ·exact D8 D he hst hQ
 ·unfold Cj;refine bn (wpAny_attempt (AH (name:=BK "__next__") hT AU
   (AY AU hT DR ?_ (DI _))))
  show o0 _ _ (DX (.ref e) 2>>=_) _ _ _;refine bn (yG he rfl (x:=.ref it) rfl ?_);refine bn (D.done _ _ _ hst λh' x he' hx'=>?_);obtain⟨o,ho,hc⟩:=hx';refine bn (wpAny_isInstance (T := "StopIteration") (b:=true) ⟨o,ho,hc⟩ isSubtype_stop ?_);exact wv (hQ _ he')
end
structure LeG (P:Nat->bd->Prop)(lo:Addr)(h:Heap)(as:List Addr):Prop where
 rise:as.Pairwise (· < ·)
 above:∀a∈as,lo<a
 pairs:∀(j:Nat) (a:Addr),as[j]? = some a->∃tk x,P j x/\h.get? a=some {cls:=.type "tuple",data:=.seq #[.int j tk,x]}
theorem LeG.there {P:Nat->bd->Prop}{lo:Addr}{h:Heap}{as:List Addr}(g:LeG P lo h as){a:Addr}(ha:a∈as):a<h.objs.size:=by
 obtain⟨j,hj⟩:=List.mem_iff_getElem?.mp ha;obtain⟨_,_,_,e⟩:=g.pairs j a hj;exact lc e
section
variable {prog:wl}{w:yF}{A:yI}{s:dL}{R:Ec->dL->Prop}
theorem vj {S e it:Addr}{fp:List Addr}{n:Nat}{P:Nat->bd->Prop}{St:Nat->Heap->Prop}(D:Fg prog w A.in1.in1 it fp n P St)(heS:e<S)(hiS:it<S)(hne:e≠it)(hef:e∉fp)(hSf:S∉fp)(hn:n<=ww)(res:bd){h₁:Heap}
  (hR:∀h' tk acc c as,(∀b o,b≠S->b≠e->b≠it->h₁.get? b=some o->h'.get? b=some o)->h'.get? S=some {cls:=.type "list",dict:=none,data:=.seq acc c,slots:=#[]}->as.length=n->LeG P S h' as ->
   acc.toList=as.map Value.ref->R (.ok (.ret res)) {s with heap:=h',toks:=tk}) :
  ∀(k i:Nat) (h:Heap) (tk c:Nat) (acc:Array bd) (as:List Addr),n - i=k->i<=n->EnS h e it i S->St i h->(∀b o,b≠S->b≠e->b≠it->h₁.get? b=some o->h.get? b=some o) ->
   h.get? S=some {cls:=.type "list",dict:=none,data:=.seq acc c,slots:=#[]}->acc.toList=as.map Value.ref->as.length=i->LeG P S h as ->
   A_ (sK prog w) A (.builtin "list.extend.loop" ⟨[.ref S,.ref e,res],[]⟩) R {s with heap:=h,toks:=tk}:=by
 intro k;induction k with
 | zero =>
  intro i h tk c acc as hk hi hst hD hkeep hS hacc hal hG;have hin:i=n:=by omega
  subst hin;refine Df CM ?_;rw[BQ Bg _];show o0 _ A.in1 (Cj (.ref e)>>=_) _ _ _;refine bn (vC (s:={s with heap:=h,toks:=tk}) (A:=A.in1) D hst hD λh' he=>?_);refine wv (hR h' tk acc c as (λb o h1 h2 h3 e=>he b o h3 (hkeep b o h1 h2 h3 e)) (he S _ (yQ hiS) hS) hal ⟨hG.rise,hG.above,λj a hj=>?_⟩ hacc);obtain⟨t,x,e1,e3⟩:=hG.pairs j a hj;exact⟨t,x,e1,he a _ (yQ (Ar hiS (hG.above a (yp hj)))) e3⟩
 | succ k ih =>
  intro i h tk c acc as hk hi hst hD hkeep hS hacc hal hG;have hlt:i<n:=by omega
  have hsz:acc.size=i:=by rw[<- B3,hacc,db,hal]
  have hSl:S<h.objs.size:=lc hS;refine Df CM ?_;rw[BQ Bg _];show o0 _ A.in1 (Cj (.ref e)>>=_) _ _ _;refine bn (ti (s:={s with heap:=h,toks:=tk}) (A:=A.in1) (S:=S) D hst (Ar hiS hSl) hSl hD hlt hne hef λx h' tk' hP hst' hD' ht hz hkp=>?_);dsimp only at ht hz hkp ⊢;have hS':=hkp S _ (yQ heS) (yQ hiS) hS;have up:∀b o,b≠S->h'.get? b=some o->(h'.update S (zE (·.push (Value.ref h.objs.size)))).get? b=some o:=λb o hb e=>(sB _ _ (zd hb)).trans e;show o0 _ A.in1 (DV S (·.push (Value.ref h.objs.size))>>=_) _ _ _;refine bn ?_;refine B4 hS' rfl (wv ⟨DL Bg _,ih (i+1) _ (tk'+1) _ (acc.push (Value.ref h.objs.size)) (as++[h.objs.size]) (by omega) hlt (hst'.keep up (yn heS)) (D.frame _ _ _ hD' λb hb o e=>up b o (λq=>hSf (q▸hb)) e)
   (λb o h1 h2 h3 e=>up b o h1 (hkp b o h2 h3 (hkeep b o h1 h2 h3 e))) (yA _ hS' rfl) (by rw[Array.toList_push,hacc,yo];rfl) (by rw[ms,hal];rfl) ⟨?_,?_,?_⟩⟩) (by rw[hsz];omega) (by show(acc.push (Value.ref h.objs.size)).size<=ww+1;rw[Array.size_push,hsz];omega)
  ·refine List.pairwise_append.mpr ⟨hG.rise,List.pairwise_singleton _ _,λa ha b hb=>?_⟩;rw[y7.mp hb];exact hG.there ha
  ·intro a ha;rcases zL.mp ha with ha | ha
   ·exact hG.above a ha
   ·rw[y7.mp ha];exact hSl
  ·intro j b hj;rcases Nat.lt_trichotomy j as.length with h1 | h1 | h1
   ·rw[yx h1]at hj;obtain⟨t,x',e1,e3⟩:=hG.pairs j b hj;have hb:=hG.above b (yp hj);exact⟨t,x',e1,up b _ (yQ hb) (hkp b _ (yQ (Ar heS hb)) (yQ (Ar hiS hb)) e3)⟩
   ·subst h1;have hb:h.objs.size=b:=by simpa using hj
    subst hb;exact⟨tk',x,by rw[hal];exact hP,by rw[hal];exact up _ _ (yQ hSl) ht⟩
   ·have hnone:(as++[h.objs.size])[j]? = none:=yS (by rw[ms,yr];omega);rw[hnone]at hj;cases hj
end
theorem nz:CH (.type "enumerate") "__len__" = pure none:=by rw[Fo,Et];kernel_rfl
theorem l7:CH (.type "enumerate") "__length_hint__" = pure none:=by rw[Fo,Et];kernel_rfl
section
variable {prog:wl}{w:yF}{A:yI}{E:bd->dL->Prop}{s:dL}
theorem vm {e it:Addr}{fp:List Addr}{n:Nat}{P:Nat->bd->Prop}{St:Nat->Heap->Prop}{old:bd}{Q:bd->dL->Prop}(D:Fg prog w A.in1.in1.in1 it fp n P St)(he:C_ s.heap e it 0 old)(hit:it<s.heap.objs.size)(hst:St 0 s.heap)(hne:e≠it)(hef:e∉fp)(hfp:∀b∈fp,b<s.heap.objs.size)(hn:n<=ww)
  (hQ:∀h' tk acc c as,(∀b o,b≠e->b≠it->s.heap.get? b=some o->h'.get? b=some o)->h'.get? s.heap.objs.size=some {cls:=.type "list",dict:=none,data:=.seq acc c,slots:=#[]}->as.length=n->LeG P s.heap.objs.size h' as ->
   acc.toList=as.map Value.ref->Q (.ref s.heap.objs.size) {s with heap:=h',toks:=tk}) :
  o0 (sK prog w) A (call (.type "list") [.ref e]) Q E s:=by
 refine callType_codes (Q₁:=λobj s₁=>obj = .ref s.heap.objs.size/\s₁={s with heap:=s.heap.push {cls:=.type "list",data:=.seq #[]}}) PySem.F.called_list (PySem.F.typeCall_list_1 _) PySem.F.entry_list_init
  (code_list_new _ ⟨rfl,rfl⟩) λobj s₁ h₁=>?_
 obtain⟨rfl,rfl⟩:=h₁;have hel:e<s.heap.objs.size:=lc he;have hS:(s.heap.push {cls:=.type "list",data:=.seq #[]}).get? s.heap.objs.size=some {cls:=.type "list",data:=.seq #[]}:=xL _ rfl;have old1:∀b o,s.heap.get? b=some o->(s.heap.push {cls:=.type "list",data:=.seq #[]}).get? b=some o:=λb o e=>im _ e;have lts:∀b o,s.heap.get? b=some o->b≠s.heap.objs.size:=λb o e=>yn (lc e);refine⟨⟨_,hS,rfl⟩,PySem.F.args_list_init_2 _ _,?_⟩;generalize hS0:s.heap.objs.size=S at hS hit hfp hQ hel lts ⊢;generalize hh1:s.heap.push {cls:=.type "list",data:=.seq #[]}=hp1 at hS old1 ⊢;show o0 _ _ (do let old <- CC (.ref S);FE (.ref S) (λ_=>#[]);letGo old.toList.reverse;AL (.ref S) (.ref e) .none) _ _ _;refine bn ?_;unfold CC;refine bn (Dm hS rfl (wv ?_));show o0 _ _ (DV S (λ_=>#[])>>=λ_=>letGo (#[]:Array bd).toList.reverse>>=λ_=>AL (.ref S) (.ref e) .none) _ _ _;refine bn (B4 hS rfl ?_);have hS₂:=yA (zE (λ_=>(#[]:Array bd))) hS rfl;have oth:∀b o,b≠S->hp1.get? b=some o->(hp1.update S (zE (λ_=>(#[]:Array bd)))).get? b=some o :=
  λb o hb e=>(sB _ _ (zd hb)).trans e
 refine bn (wpAny_letGo ?_);generalize hp1.update S (zE (λ_=>(#[]:Array bd)))=hp2 at hS₂ oth ⊢;have old2:∀b o,s.heap.get? b=some o->hp2.get? b=some o:=λb o e=>oth b o (lts b o e) (old1 b o e);have he2:C_ hp2 e it 0 old:=old2 _ _ he;have hT2:Shared.TypeIs {s with heap:=hp2} (.ref e) "enumerate" := ⟨_,he2,rfl⟩
 unfold AL;refine bn (wpAny_typeOf hT2 ?_);have h1:Cr (.ref S) (.ref e)=false:=by simp[Cr,yQ hel]
 have h2:(Value.type "enumerate" == Value.type "list")=false:=by decide
 have h3:(Value.type "enumerate" == Value.type "tuple")=false:=by decide
 simp only[h1,h2,h3,E1,zT,if_false];refine bn (AN he2 ?_);refine bn (Cv ?_);unfold FG;refine bn (B5 hT2 nz ?_);show o0 _ _ (specialOf (Value.ref e) (BK "__length_hint__")>>=_) _ _ _;refine bn (B5 hT2 l7 ?_);refine wv ?_;show o0 _ _ (rule "list.extend.makes-room" >>= λ_=>FF (.ref S)>>=λ_ =>
  EF (.builtin "list.extend.loop" ⟨[.ref S,.ref e,.none],[]⟩)) _ _ _
 refine bn (ET ?_);refine bn ?_;show o0 _ _ (DV S (·.push .none)>>=λ_=>DV S (·.pop)) _ _ _;refine bn (B4 hS₂ rfl ?_);have hS₃:=yA (zE (·.push Value.none)) hS₂ rfl;refine B4 (hz:=by seq_fits) hS₃ rfl ?_;have hS₄:=yA (zE (·.pop)) hS₃ rfl;have oth4:∀b o,b≠S->hp2.get? b=some o->((hp2.update S (zE (·.push Value.none))).update S (zE (·.pop))).get? b=some o :=
  λb o hb e=>(sB _ _ (zd hb)).trans ((sB _ _ (zd hb)).trans e)
 generalize (hp2.update S (zE (·.push Value.none))).update S (zE (·.pop))=hp4 at hS₄ oth4 ⊢;have old4:∀b o,s.heap.get? b=some o->hp4.get? b=some o:=λb o e=>oth4 b o (lts b o e) (old2 b o e);refine wv ⟨DL Bg _,?_⟩;refine vj (s:=s) (h₁:=s.heap) D hel hit hne hef (λq=>zu _ (hfp _ q)) hn .none (λh' tk acc c as hk hS' hl hG hacc=>?_) n 0 hp4 s.toks _ #[] [] (Cs _) (yz _) (.inl ⟨old,old4 _ _ he⟩) (D.frame _ _ _ hst λb hb o e=>old4 b o e) (λb o _ _ _ e=>old4 b o e) hS₄ rfl rfl
  ⟨List.Pairwise.nil,(λ_ ha=>nomatch ha),(λj a hj=>by simp at hj)⟩
 exact⟨rfl,hQ h' tk acc c as (λb o h1 h2 e=>hk b o (lts b o e) h1 h2 e) hS' hl hG hacc⟩
end
theorem jT {X:Cx}{pins:List (Addr×Obj)}{σ:St}{s:dL}{H1:Hp}{lo:Addr}(fp:∀b,lo<=b->FpOk X pins H1 b):∀(as:List Addr) (xs:List V) (k:Nat) (H:Hp),Inv X pins σ H s->as.Pairwise (· < ·)->(∀a∈as,lo<=a)->(∀a∈as,H a=none) ->
  (∀j a,as[j]? = some a->∃tk x u,xs[j]? = some x/\RelV x u/\s.heap.get? a=some {cls:=.type "tuple",data:=.seq #[.int ((k+j:Nat):Int) tk,u]}) ->
  ∃H',Inv X pins σ H' s/\Same H H'/\(∀j a,as[j]? = some a->∃x,xs[j]? = some x/\H' a=some (.tup [.int ((k+j:Nat):Int),x]))/\∀b,b∉as->H' b=H b
 | [],xs,k,H,I,_,_,_,_=>⟨H,I,.refl _,(λj a h=>by simp at h),λ_ _=>rfl⟩
 | a::as,xs,k,H,I,hp,hl,hn,ht=>by
  obtain⟨tk,x,u,ex,ru,eu⟩:=ht 0 a rfl;have ea:=hn a yW;have hp':=List.pairwise_cons.mp hp;have ne:∀b∈as,b≠a:=λb hb=>yQ (hp'.1 b hb);have I2:=I.trackO (p:=a) (o:=.tup [.int ((k:Nat):Int),x]) ⟨ea,(fp a (hl a yW)).2⟩ ⟨by show 2<=ww;decide,[.int ((k:Nat):Int) tk,u],.cons ⟨_,rfl⟩ (.cons ru .nil),_,eu,rfl,_,rfl⟩;cases xs with
  | nil=>simp at ex
  | cons x0 xs =>
   simp only[z_,zy]at ex;subst ex;obtain⟨H',J1,J2,J3,J4⟩:=jT fp as xs (k+1) _ I2 hp'.2 (λb hb=>hl b (yN _ hb)) (λb hb=>by rw[aU (ne b hb)];exact hn b (yN _ hb)) (λj b hj=>by
    obtain⟨tk,x,u,e1,e2,e3⟩:=ht (j+1) b (by simpa using hj);exact⟨tk,x,u,by simpa using e1,e2,by rw[show k+1+j=k+(j+1)by omega];exact e3⟩)
   refine⟨H',J1,λb o e=>J2 b o (by rw[aU (bD e ea)];exact e),λj b hj=>?_,λb hb=>?_⟩
   ·cases j with
    | zero =>
     simp only[z_,zy]at hj;subst hj;exact⟨x0,rfl,J2 a _ bh⟩
    | succ j =>
     obtain⟨x,e1,e2⟩:=J3 j b (by simpa using hj);exact⟨x,by simpa using e1,by rw[show k+(j+1)=k+1+j by omega];exact e2⟩
   ·have nb:b≠a:=λz=>hb (z▸yW);rw[J4 b (λz=>hb (yN _ z)),aU nb]
def tLsE (K:ac)(t:TA):TE:=λσ H Q=>t σ H λvs H1=>∃l xs,vs=[.ref l]/\SqT K H1 l xs/\∀ys H0 p,Same H1 H0->ys.length=xs.length ->
 (∀j x,xs[j]? = some x->∃q,ys[j]? = some (.ref q)/\H1 q=none/\H0 q=some (.tup [.int (j:Nat),x]))->H0 p=none->Q (.ref p) (upd H0 p (.lst ys))
theorem qH (K:ac){X:Cx}{a:Expr}{ta:TA}{p1 p2 pos1 pos2:Pos}(hc:X.calm=true)(hg1:Gl X "list")(hm1:X.mg "list" = none)(hg2:Gl X "enumerate")(hm2:X.mg "enumerate" = none)(ha:PA X [a] ta)(hK:X.K=K:=by rfl)
  (hs1:yu [.Call (.Name "enumerate" p2) [a] [] pos2] X.env=[(false,eval (.Call (.Name "enumerate" p2) [a] [] pos2) X.env)]:=by rfl) (hs2:yu [a] X.env=[(false,eval a X.env)]:=by rfl) :
  PE X (.Call (.Name "list" p1) [.Call (.Name "enumerate" p2) [a] [] pos2] [] pos1) (tLsE K ta):=by
 subst hK;intro pins s σ H Q I h;refine D6 (f_ I hg1 hm1 gn (yU ?_ hs1 rfl));rw[hs1];show o0 _ _ (E6 [(false,eval (.Call (.Name "enumerate" p2) [a] [] pos2) X.env)]) _ _ s;refine Au ?_;refine D6 (f_ I hg2 hm2 fE (yU (thn (ha pos2 pins s σ H _ I h) λus s1 ⟨vs,H1,I1,r1,q1⟩=>?_) hs2 rfl));obtain⟨l,xs,rfl,h1,q⟩:=q1;obtain⟨u,rfl,ru⟩:=kh r1;cases ru
 obtain⟨its,rv,p1,hz⟩:=I1.tuple h1;have lt:l<s1.heap.objs.size:=by obtain⟨o,e,_⟩:=id p1;exact lc e
 refine kf p1 λh' he hi hsz hk=>Az ?_;have pt1:h'.IsTuple l its.toArray:=by obtain⟨o,e,r⟩:=p1;exact⟨o,hk _ _ e,r⟩
 have nl:l≠s1.heap.objs.size:=yn lt;have nel:s1.heap.objs.size+1≠l:=zd (yn (Ew lt));have ltI:s1.heap.objs.size<h'.objs.size:=by rw[hsz];exact Nat.lt_add_of_pos_right (by decide)
 have e0:C_ h' (s1.heap.objs.size+1) s1.heap.objs.size ((0:Nat):Int) .none:=he;refine vm (s:={s1 with heap:=h'}) (jx (show X.A.in1.in1.in1.handled=none from I1.ok.hd hc) s1.heap.objs.size l nl its.toArray) he ltI ⟨hi,pt1⟩ (EH _) (λz=>by
  simp only[wn,yY,or_false]at z;rcases z with z | z
  ·exact EH _ z
  ·exact nel z) (λb hb=>?_) (by rw[li,<- rv.length];exact hz) λh2 tk acc c as hk2 hS hl hG hacc=>?_
 ·show b<h'.objs.size;simp only[wn,yY,or_false]at hb;rcases hb with rfl | rfl
  ·exact ltI
  ·exact Ar lt ltI
 ·have hle:s1.heap.objs.size<=h'.objs.size:=by omega
  have hS':h2.get? h'.objs.size=some {cls:=.type "list",dict:=none,data:=.seq acc c,slots:=#[]}:=hS;have le0:∀b,s1.heap.objs.size<=b->FpOk X pins H1 b:=λb hb=>I1.fpOk hb (I1.hok.fresh hb);have I2:Inv X pins σ H1 {s1 with heap:=h'}:=I1.kept (t':=s1.toks) hk;have I3:Inv X pins σ H1 {s1 with heap:=h2,toks:=tk}:=Inv.turns (s:={s1 with heap:=h'}) (ch:=[s1.heap.objs.size+1,s1.heap.objs.size]) (t':=tk) I2 (λb o hb e=>by
   simp only[wn,yY,or_false,not_or]at hb;exact hk2 b o hb.1 hb.2 e) (λb hb=>le0 b (by
    simp only[wn,yY,or_false]at hb;rcases hb with rfl | rfl
    ·exact Fx _
    ·exact lw _))
  have abv:∀b∈as,h'.objs.size<b:=hG.above;obtain⟨H0,J1,J2,J3,J4⟩:=jT (lo:=s1.heap.objs.size) le0 as xs 0 H1 I3 hG.rise (λb hb=>yt hle (yR (abv b hb))) (λb hb=>I1.hok.fresh (yt hle (yR (abv b hb)))) (λj b hj=>by
   obtain⟨t,x,e1,e2⟩:=hG.pairs j b hj;have e1':its[j]? = some x:=by simpa using e1
   have hjl:j<xs.length:=by rw[rv.length];exact(kt.mp e1').1
   obtain⟨u,hu,ru⟩:=rv.get (bv hjl);rw[e1']at hu;cases hu
   exact⟨t,xs[j],x,bv hjl,ru,by rw[zw];exact e2⟩)
  have nS:h'.objs.size∉as:=λz=>zu _ (abv _ z);have f0:=le0 h'.objs.size (by omega);have n0:H0 h'.objs.size=none:=by rw[J4 _ nS];exact f0.1
  have hal:as.length=xs.length:=by rw[hl,li,<- rv.length]
  have vr:∀l:List Addr,Vals (l.map V.ref) (l.map Value.ref):=λl=>by
   induction l with
   | nil=>exact .nil
   | cons a l ih=>exact .cons rfl ih
  have I4:=J1.track (D:=h'.objs.size) (ys:=as.map V.ref) (its:=acc.toList) (n:=c) n0 (yt I1.sz (by omega)) f0.2.1 f0.2.2.2.2.1 f0.2.2.2.2.2 (by rw[db,hal];exact hz) (by rw[hacc];exact vr as) (by simpa using hS');refine⟨.ref h'.objs.size,_,I4,rfl,q _ H0 _ J2 (by rw[db,hal]) (λj x hx=>?_) n0⟩;have hj:j<as.length:=by rw[hal];exact(kt.mp hx).1
  obtain⟨x',e1,e2⟩:=J3 j as[j] (bv hj);rw[hx]at e1;cases e1
  rw[zw]at e2;refine⟨as[j],by rw[lm,bv hj];rfl,I1.hok.fresh (yt hle (yR (abv as[j] (zc hj)))),e2⟩
section
variable {K:ac}{ts:TA}{as:AA}
def aLsE (as:AA):AE:=λρ q=>as ρ λrs ρ1=>match rs with
 | [.d (.tup ds)]=>q (.n (.ow (gS 0 ds))) ρ1
 | _=>False
theorem n4 {H1 H0:Hp}:∀ {vs:List V} {ds:List D} {ys:List V} {b:Nat},RepDs K H1 vs ds->ys.length=vs.length->(∀j x,vs[j]? = some x->∃q,ys[j]? = some (.ref q)/\H0 q=some (.tup [.int ((b+j:Nat):Int),x]))->(∀a o,H1 a=some o->H0 a=some o)->RepDs K H0 ys (gS b ds)
 | [],[],ys,b,_,hl,_,_=>by
  cases ys with
  | nil=>exact .nil
  | cons _ _=>simp at hl
 | v::vs,d::ds,ys,b,r,hl,hy,sm=>by
  cases ys with
  | nil=>simp at hl
  | cons y ys =>
   unfold RepDs at r;obtain⟨q,e1,e2⟩:=hy 0 v rfl;simp only[z_,zy]at e1;subst e1;refine .cons ?_ (n4 (b:=b+1) r.2 (by simpa using hl) (λj x hx=>?_) sm)
   ·unfold RepD;exact⟨q,[.int (b:Nat),v],rfl,e2,.cons (by unfold RepD;rfl) (.cons (r.1.same sm) .nil)⟩
   ·obtain⟨q',e3,e4⟩:=hy (j+1) x (by simpa using hx);exact⟨q',by simpa using e3,by rw[show b+1+j=b+(j+1)by omega];exact e4⟩
 | [],_::_,_,_,r,_,_,_=>by unfold RepDs at r;exact r.elim
 | _::_,[],_,_,r,_,_,_=>by unfold RepDs at r;exact r.elim
theorem mG (h:TAok K ts as):TEok K (tLsE K ts) (aLsE as):=by
 intro F σ ρ H q Q r ha k;refine h F σ ρ H _ _ r ha λrs ρ1 vs H1 h1 r1 i1 k1=>?_;split at h1
 ·rename_i ds;obtain⟨x,rfl,ix⟩:=i1.one;have rd:RepD K _ x (.tup ds):=ix;unfold RepD at rd;obtain⟨a,vs,rfl,sq,rd⟩:=rd;refine⟨a,vs,rfl,cn.seqT sq.sq,λys H0 p sm hl hy hp=>?_⟩;have k0:Kp σ ρ1 ρ1 H1 H0:=⟨λa o e _=>sm a o e,λ_ h=>h⟩
  have hv:∀ {b},H1 b=none->¬hs F σ ρ1 b:=λ{b} e z=>oF r1 z e;refine k (.n (.ow (gS 0 ds))) ρ1 _ _ h1 ⟨H0,p,_,r1.grow sm,k1.trans k0,rfl,⟨p,ys,rfl,bh,?_⟩,hp,rfl,rfl⟩;refine n4 rd hl (λj x hx=>?_) k0.vis;obtain⟨q',e1,e2,e3⟩:=hy j x hx;exact⟨q',e1,dU (hv e2) (by rw[zw];exact e3)⟩
 ·exact h1.elim
end
theorem n6 {κ:Type} [DecidableEq κ](kvs:List (κ×D))(k:κ)(d:D):(putD kvs k d).length<=kvs.length+1:=by
 unfold putD;split
 ·simp
 ·simp
theorem iR:isSubtype (.type "range_iterator") (.type "reversed")=pure false:=by rw[isSubtype_type];kernel_rfl
section
variable {prog:wl}{w:yF}{A:yI}{E:bd->dL->Prop}{s:dL}
theorem pd {r:Addr}{a b c:Int}{t u v:Tok}{Q:Int×Int×Int->dL->Prop}(hr:Ei s.heap r a b c t u v)(h:Q (a,b,c) s):o0 (sK prog w) A (Cf (.ref r)) Q E s:=by
 unfold Cf;refine bn (yG hr rfl (x:=.int a t) rfl ?_);refine bn (Ac (a:=some a) rfl ?_);refine bn (yG hr rfl (x:=.int b u) rfl ?_);refine bn (Ac (a:=some b) rfl ?_);refine bn (yG hr rfl (x:=.int c v) rfl ?_);refine bn (Ac (a:=some c) rfl ?_);exact wv h
theorem mj {r:Addr}{n:Nat}{t u v:Tok}{Q:bd->dL->Prop}(hr:Ei s.heap r 0 n 1 t u v)(hn:n<=1000000)
  (h:Q (.ref s.heap.objs.size) {s with heap:=s.heap.push {cls:=.type "range_iterator",data:=.fields #[yO ((n:Int) - 1),yO n,yO (-1)]}}) :
  o0 (sK prog w) A (call (.builtin "range.__reversed__") [.ref r]) Q E s:=by
 have hT:s.TypeIs (.ref r) "range" := ⟨_,hr,rfl⟩
 refine AY B1 hT F.entry_range_reversed ?_ (F.args_range_reversed_1 _);have e0:zW 0 n 1=n:=by unfold zW;simp;omega
 have es:(yw 0&&yw n&&yw 1&&yw (-1)&&yw (0 - 1)&&yw n)=true:=by
  simp only[yw,y4,decide_eq_true_eq];omega
 unfold Builtin.«range.__reversed__»;refine bn (Ac (a:=Value.ref r) (by first | rfl | kernel_rfl) ?_);refine bn (pd hr ?_);show o0 _ _ (if(!(yw 0&&yw n&&yw 1&&yw (-1)&&yw (0 - 1)&&yw (zW 0 n 1)))=true then _ else _) _ _ _;rw[e0,es];simp only[Bool.not_true,zT,if_false,if_true];refine bn ?_;unfold DW;refine zO (wv ⟨_,rfl,?_⟩);have e1:(0:Int)+((n:Int) - 1)*1=(n:Int) - 1:=by omega
 rw[e1];exact h
theorem mh {r:Addr}{n:Nat}{t u v:Tok}{Q₁:bd->dL->Prop}(hr:Ei s.heap r 0 n 1 t u v)(hn:n<=1000000)
  (h:Q₁ (.ref s.heap.objs.size) {s with heap:=s.heap.push {cls:=.type "range_iterator",data:=.fields #[yO ((n:Int) - 1),yO n,yO (-1)]}}) :
  A_ (sK prog w) A (.call (.builtin "reversed.__new__") ⟨[.type "reversed",.ref r],[]⟩) (wants Q₁ E) s:=by
 have hT:s.TypeIs (.ref r) "range" := ⟨_,hr,rfl⟩
 refine Fq ?_;show o0 _ A.in1 (do C8 "reversed.__new__" ⟨[.type "reversed",.ref r],[]⟩;EF (.builtin "reversed.__new__" ⟨[.type "reversed",.ref r],[]⟩)) _ _ s;refine bn (Ac (F.newCall_reversed_1 _) (wv ⟨DL Eo _,Df F.entry_reversed_new ?_⟩));rw[BQ Eo _];unfold Builtin.«reversed.__new__»;refine bn (Ac (newClass_reversed _) ?_);try dsimp only
 refine bn (Ac (a:=()) (by first | rfl | kernel_rfl) ?_);refine bn (Ac (a:=()) (by first | rfl | kernel_rfl) ?_);try dsimp only
 refine bn (B5 hT B1.lookup ?_);try dsimp only
 refine bn (Ac (B1.bind _) ?_);try dsimp only
 first
 | rw[if_neg (show ¬((Value.builtin "range.__reversed__" == Value.none)=true)from zS)]
 | (show o0 _ _ (if(Value.builtin "range.__reversed__" == Value.none)=true then _ else _) _ _ _;rw[if_neg (show ¬((Value.builtin "range.__reversed__" == Value.none)=true)from zS)])
 refine bn (ET ?_);refine bn (m:=runValue (.call (.builtin "range.__reversed__") ⟨[.ref r],[]⟩)) (show o0 _ _ (call (.builtin "range.__reversed__") [.ref r]) _ _ _ from mj hr hn ?_);first
 | exact wv h
 | exact bn (wv (wv h))
theorem mn {r:Addr}{n:Nat}{t u v:Tok}{Q:bd->dL->Prop}(hr:Ei s.heap r 0 n 1 t u v)(hn:n<=1000000)
  (h:Q (.ref s.heap.objs.size) {s with heap:=s.heap.push {cls:=.type "range_iterator",data:=.fields #[yO ((n:Int) - 1),yO n,yO (-1)]}}):o0 (sK prog w) A (call (.type "reversed") [.ref r]) Q E s:=by
 refine callType_other (U := "range_iterator") (Q₁:=λobj s₁=>obj = .ref s.heap.objs.size/\s₁={s with heap:=s.heap.push {cls:=.type "range_iterator",data:=.fields #[yO ((n:Int) - 1),yO n,yO (-1)]}}) (by decide +kernel) F.create_reversed ⟨_,_,F.mro_reversed⟩ F.made_reversed iR (F.typeCall_reversed_1 _) (mh hr hn ⟨rfl,rfl⟩) ?_;rintro obj s₁ ⟨rfl,rfl⟩;exact⟨⟨_,xL _ rfl,rfl⟩,h⟩
end
def xb (ta:TA):TI:=λσ H R=>ta σ H λvs H1=>∃n:Nat,vs=[.int n]/\n<=1000000/\R (Itd ((n:Int) - 1) n) H1
theorem mP {X:Cx}{tg:Expr}{a:Expr}{ta:TA}{p p2 pos pos2:Pos}(hg1:Gl X "reversed")(hm1:X.mg "reversed" = none)(hg:Gl X "range")(hm:X.mg "range" = none)(ha:PA X [a] ta)
  (ho:yu [.Call (.Name "range" p2) [a] [] pos2] X.env=[(false,eval (.Call (.Name "range" p2) [a] [] pos2) X.env)]:=by rfl) (hs:yu [a] X.env=[(false,eval a X.env)]:=by rfl) :
  PI X tg (.Call (.Name "reversed" p) [.Call (.Name "range" p2) [a] [] pos2] [] pos) (xb ta):=by
 intro pins s σ H R I h;refine D6 (f_ I hg1 hm1 jE (yU ?_ ho rfl));rw[ho];show o0 _ _ (E6 [(false,eval (.Call (.Name "range" p2) [a] [] pos2) X.env)]) _ _ s;refine Au ?_;refine D6 (f_ I hg hm boot_range (yU (thn (ha pos2 pins s σ H _ I h) λus s1 ⟨vs,H1,I1,r1,q1⟩=>?_) hs rfl));obtain⟨n,rfl,hn,q⟩:=q1;obtain⟨u,rfl,ru⟩:=kh r1;obtain⟨t,rfl⟩:=ru;refine call_range_1 (Az ?_);refine mn (EN ..) hn ?_;have it0:Dd ((s1.heap.push {cls:=.type "range",data:=.fields #[.int 0 s1.toks,.int n t,.int 1 (s1.toks+1)]}).push {cls:=.type "range_iterator",data:=.fields #[yO ((n:Int) - 1),yO n,yO (-1)]}) (s1.heap.push {cls:=.type "range",data:=.fields #[.int 0 s1.toks,.int n t,.int 1 (s1.toks+1)]}).objs.size (((n:Int) - 1)+((0:Nat):Int)*(-1)) ((n:Int) - ((0:Nat):Int)) (-1):=by
  have e1:((n:Int) - 1)+((0:Nat):Int)*(-1)=(n:Int) - 1:=by simp
  have e2:((n:Int) - ((0:Nat):Int))=n:=by simp
  rw[e1,e2];exact xL _ rfl
 refine BV it0 ?_;have I2:Inv X pins σ H1 {s1 with heap:=s1.heap.push {cls:=.type "range",data:=.fields #[.int 0 s1.toks,.int n t,.int 1 (s1.toks+1)]},toks:=s1.toks+1+1}:=I1.kept λb o e=>im _ e;refine⟨_,[(s1.heap.push {cls:=.type "range",data:=.fields #[.int 0 s1.toks,.int n t,.int 1 (s1.toks+1)]}).objs.size],_,_,H1,rfl,I2.kept (t':=s1.toks+1+1) λb o e=>im _ e,pZ _ ((n:Int) - 1) n,it0,λb hb=>?_,q⟩;have e:b=(s1.heap.push {cls:=.type "range",data:=.fields #[.int 0 s1.toks,.int n t,.int 1 (s1.toks+1)]}).objs.size:=by simpa using hb
 subst e;exact I2.fpOk (lw _) (I2.hok.fresh (lw _))
section
variable {K:ac}{ts:TA}{as:AA}
def x9 (as:AA):AI:=λρ q=>as ρ λrs ρ1=>match rs with
 | [.d (.int j)]=>(0<=j/\j<=1000000)/\q (dwnD (j - 1) j.toNat) (λ_=>True) ρ1
 | _=>False
theorem iO {pin:Nat->Bool}(h:TAok K ts as):TIok K pin (xb ts) (x9 as):=by
 intro F σ ρ H q Rk r ha k;refine h F σ ρ H _ _ r ha λrs ρ1 vs H1 h1 r1 i1 k1=>?_;split at h1
 ·rename_i j;obtain⟨x,rfl,ix⟩:=i1.one;obtain⟨⟨h0,hz⟩,h1⟩:=h1;obtain⟨n,rfl⟩:=BE h0;rw[zM]at h1;exact⟨n,by rw[ix.int],by omega,k _ _ _ _ _ h1 r1 k1 λ_ _ _ _ _ _ _ _=>vX⟩
 ·exact h1.elim
end
end L2
namespace L2
theorem xX {R:List Nat}{i:Nat}(h:i<R.length):R.getD i 0=R[i]:=by rw[bi,bv h];rfl
theorem k8 {A B:List Nat}{i:Nat}(h:i<A.length):(A++B).getD i 0=A.getD i 0:=by
 simp only[bi];rw[yx h]
theorem vz {A:List Nat}{x:Nat}:(A++[x]).getD A.length 0=x:=by simp
theorem cY:∀ {js:List (Nat×Nat)} {rows:List Nat} {i:Nat},i<rows.length->(js.foldl aD rows).getD i 0=rows.getD i 0
 | [],_,_,_=>rfl
 | p::r,rows,i,h=>by
  rw[y_,cY (by rw[bW];omega)];exact k8 h
theorem ro:∀ {js:List (Nat×Nat)} {rows:List Nat} {k:Nat} {p:Nat×Nat},okIx rows.length js->js[k]? = some p ->
  (js.foldl aD rows).getD (rows.length+k) 0=(js.foldl aD rows).getD p.1 0 ^^^ (js.foldl aD rows).getD p.2 0
 | [],_,_,_,_,e=>by simp at e
 | q::r,rows,k,p,h,e=>by
  obtain⟨h1,h2,h3⟩:=h;rw[y_];cases k with
  | zero =>
   simp only[z_,zy]at e;subst e;rw[cY (by rw[bW];omega),cY (by rw[bW];omega),cY (by rw[bW];omega)];have e1:(aD rows q).getD (rows.length+0) 0=rows.getD q.1 0 ^^^ rows.getD q.2 0:=vz;have e2:(aD rows q).getD q.1 0=rows.getD q.1 0:=k8 (by omega);have e3:(aD rows q).getD q.2 0=rows.getD q.2 0:=k8 (by omega);rw[e1,e2,e3]
  | succ k =>
   have:=ro (js:=r) (rows:=aD rows q) (k:=k) (p:=p) (by rw[bW];exact h3) (by simpa using e);rw[bW]at this;rw[<- this];congr 1;omega
theorem qN:∀ {js:List (Nat×Nat)} {rows:List Nat},(∀i p,js[i]? = some p->p.1<p.2/\p.2<rows.length+i/\(js.foldl aD rows).getD p.1 0≠(js.foldl aD rows).getD p.2 0)->okJs rows js
 | [],_,_=>trivial
 | q::r,rows,h=>by
  obtain⟨h1,h2,h3⟩:=h 0 q rfl;rw[Bh]at h2;rw[y_,cY (by rw[bW];omega),cY (by rw[bW];omega)]at h3;have e:∀i,i<rows.length->(aD rows q).getD i 0=rows.getD i 0:=λi hi=>k8 hi;rw[e _ (by omega),e _ h2]at h3;refine⟨h1,h2,h3,qN λi p hp=>?_⟩;obtain⟨a,b,c⟩:=h (i+1) p (by simpa using hp);exact⟨a,by rw[bW];omega,c⟩
theorem wH {m t:Nat}(h:t<m):(aO m).getD t 0=1 <<< t:=by
 rw[xX (by rw[bf];exact h)];unfold aO;simp
structure Rws (N:Net):Prop where
 ix:okIx N.m N.js
 ne:∀(i:Nat) (p:Nat×Nat),N.js[i]? = some p->(bQ N).getD p.1 0≠(bQ N).getD p.2 0
theorem wq {N:Net}(h:bN N):Rws N:=by
 have hix:okIx N.m N.js:=by have:=cV h.js;rwa [bf]at this
 refine⟨hix,λi p hp=>?_⟩;have:=oo h.js hp;obtain⟨h1,h2⟩:=bY hix hp;have lt:=(kt.mp hp).1;have hl:((N.js.take i).foldl aD (aO N.m)).length=N.m+i:=by rw[cb,bf,yZ];omega
 have e:∀j,j<N.m+i->((N.js.take i).foldl aD (aO N.m)).getD j 0=(bQ N).getD j 0:=λj hj=>by
  unfold bQ;conv=>rhs;rw[<- zU i N.js,zn]
  exact(cY (by rw[hl];exact hj)).symm
 rw[e _ (by omega),e _ h2]at this;exact this
theorem qp {N:Net}{t:Nat}(h:t<N.m):(bQ N).getD t 0=1 <<< t:=by
 unfold bQ;rw[cY (by rw[bf];exact h),wH h]
theorem sD {N:Net}(hix:okIx N.m N.js){k:Nat}{p:Nat×Nat}(e:N.js[k]? = some p):(bQ N).getD (N.m+k) 0=(bQ N).getD p.1 0 ^^^ (bQ N).getD p.2 0:=by
 have:=ro (rows:=aO N.m) (js:=N.js) (k:=k) (p:=p) (by rw[bf];exact hix) e;rw[bf]at this;exact this
end L2
namespace L2
open PySem PySem.Spec PyProof.Rows
section
variable {X:Cx}{R:VK}{E:XK}{C:Addr}{fn:Option Str}{K:ac}{S:ASp}
theorem qB {k:Nat}{x y:Str}{ps:List Str}{p np cpos pos:Pos}{e:Expr}{es:List Expr}{t:TA}(F:OkX X.prog X.w X.K X.mg X.base k x ps C fn (spA K S))(hr:Room k X.A)(hx:gW (CX1 X.prog X.w) X E)(ha:PA X.nox (e::es) t)(hg:Gl X x:=by rfl)
  (hdb:(x==("__debug__" : Str))=false:=by decide) (he:yu (e::es) X.env=(false,eval e X.env)::yu es X.env:=by rfl) (hpl:(Al cpos (yu es X.env)).any (·.1)=false:=by rfl)
  (hs:AJ (.Call (.Name x p) (e::es) [] cpos) (some (.Name y np)) pos.line X.env=pure false:=by rfl) :
  PSr X (XW E C fn) (.Assign [.Name y np] (.Call (.Name x p) (e::es) [] cpos) pos) (tRet (kE (spA K S) [] E0 t)):=by
 obtain⟨f,fd,hm,hk,hb,F⟩:=F.ex;intro pins s σ H D e1 I h;have pe:=kN (p:=p) (sp:=spX C fn (spA K S)) (E:=E) F hr hg hm hk hb .nil hx ha.nox hdb he hpl;have h':kE (spX C fn (spA K S)) [] E t σ H λ_ _=>False:=by
  have h2:t σ H λvs H1=>spA K S (vs++[]) H1 D.rt E0:=h;rw[e1]at h2;exact h2
 exact CT (thn (pe pins s σ H _ I h') λv s1 ⟨_,_,_,_,q1⟩=>q1.elim) hs
end
end L2
set_option maxHeartbeats 2000000
namespace L2
open PySem PySem.Spec PyProof.Rows
end L2
namespace L2
open PySem
end L2
namespace L2
open PySem PySem.Spec PyProof.Rows
end L2
set_option maxHeartbeats 3200000
namespace L2
open PySem PySem.Spec PyProof.Rows
end L2
set_option maxHeartbeats 1000000
namespace L2
open PySem PySem.Spec PyProof.Rows
end L2
namespace L2
open PySem PySem.Spec PyProof.Rows PySem.W
end L2
namespace L2
open PySem PySem.Spec PyProof.Rows
mutual
def noL:D->Bool
 | .lst _=>false
 | .tup ds=>noLs ds
 | _=>true
def noLs:List D->Bool
 | []=>true
 | d::ds=>noL d&&noLs ds
end
section
variable {K:ac}{H H':Hp}
mutual
theorem RepD.tups (ht:∀a vs,StT H a vs->StT H' a vs):∀ {v:V} {d:D},noL d=true->RepD K H v d->RepD K H' v d
 | v,.non,_,h=>by unfold RepD at h ⊢;exact h
 | v,.bl b,_,h=>by unfold RepD at h ⊢;exact h
 | v,.int i,_,h=>by unfold RepD at h ⊢;exact h
 | v,.str x,_,h=>by unfold RepD at h ⊢;exact h
 | v,.tup ds,z,h=>by
  unfold RepD at h ⊢;obtain⟨a,vs,e,h1,h2⟩:=h;exact⟨a,vs,e,ht _ _ h1,RepDs.tups ht (by unfold noL at z;exact z) h2⟩
 | v,.lst ds,z,h=>by unfold noL at z;cases z
theorem RepDs.tups (ht:∀a vs,StT H a vs->StT H' a vs):∀ {vs:List V} {ds:List D},noLs ds=true->RepDs K H vs ds->RepDs K H' vs ds
 | [],[],_,_=>RepDs.nil
 | v::vs,d::ds,z,h=>by
  unfold RepDs at h ⊢;unfold noLs at z;rw[y4]at z;exact⟨RepD.tups ht z.1 h.1,RepDs.tups ht z.2 h.2⟩
 | [],d::ds,_,h=>by unfold RepDs at h;exact h.elim
 | v::vs,[],_,h=>by unfold RepDs at h;exact h.elim
end
end
def svN:Sv->Bool
 | .un=>true
 | .vl d=>noL d
 | .ow ds=>noLs ds
 | _=>false
def svNs:En->Bool
 | []=>true
 | s::ss=>svN s&&svNs ss
theorem bH:∀ {ss:En} (i:Nat),svNs ss=true->svN (gt ss i)=true
 | [],i,_=>rfl
 | s::ss,0,h=>by unfold svNs at h;rw[y4]at h;exact h.1
 | s::ss,i+1,h=>by unfold svNs at h;rw[y4]at h;exact bH i h.2
section
variable {K:ac}{F:Fr}{σ:St}{ρ ρ':En}{H H':Hp}{vs:List V}{ss ss':En}{Z Z':Addr->Prop}
theorem SvOk.tups {Hh Hh':Hp}{v:Option (Option V)}{s:Sv}(h:SvOk K Hh H v s)(z:svN s=true)(ht:∀a vs,StT Hh a vs->StT Hh' a vs)(k:∀l o,s.own=true->v=some (some (.ref l))->H l=some o->H' l=some o):SvOk K Hh' H' v s:=by
 cases s with
 | un=>trivial
 | vl d=>obtain⟨x,e,r⟩:=h;exact⟨x,e,r.tups ht z⟩
 | ow ds=>obtain⟨l,vs,e,a,r⟩:=h;exact⟨l,vs,e,k _ _ rfl e a,r.tups ht z⟩
 | tp n=>cases z
 | dk kvs=>cases z
 | dt kvs=>cases z
 | ex C fs=>cases z
 | sc ns=>cases z
 | px d C fs=>cases z
 | xl es=>cases z
 | ob _ _=>cases z
 | ll _=>cases z
 | ds _ _ _=>cases z
end
end L2
namespace L2
open PySem PySem.Spec PyProof.Rows PySem.W
end L2
namespace L2
open PySem PySem.Spec PyProof.Rows
end L2
set_option maxHeartbeats 3200000
namespace L2
open PySem PySem.Spec PyProof.Rows
structure Re (H H2:Hp):Prop where
 no:∀a,H a=none->H2 a=none
 tu:∀b xs,H b=some (.tup xs)->H2 b=some (.tup xs)
 fz:∀b o u,H b=some (.frz o u)->H2 b=some (.frz o u)
 tb:∀b ps,H b=some (.tbl ps)->H2 b=some (.tbl ps)
 ok:∀P w h,HOk P w H h->HOk P w H2 h
theorem Re.refl (H:Hp):Re H H:=⟨λ_ h=>h,λ_ _ h=>h,λ_ _ _ h=>h,λ_ _ h=>h,λ_ _ _ h=>h⟩
def Des (H:Hp):Prop:=∃P w h,HOk P w H h
section
variable {X:Cx}{pins:List (Addr×Obj)}{σ:St}{H H2:Hp}{s:dL}{st:Stmt}{t:TS}
theorem Inv.re (I:Inv X pins σ H s)(r:Re H H2):Inv X pins σ H2 s :=
 ⟨I.ok,I.os,I.bare,⟨I.base.keep,I.base.slot,λb o e n x=>r.no b (I.base.free b o e n x),I.base.there,λb xs e=>r.tu b xs (I.base.tups b xs e),λb o u e=>r.fz b o u (I.base.frzs b o u e),λb ps e=>by
  obtain⟨m,e'⟩:=I.base.tbls b ps e;exact⟨m,r.tb b _ e'⟩⟩,I.loc,I.cell,r.no _ I.free,λx c e=>r.no _ (I.freeC x c e),λp hp=>by
  obtain⟨a,b,c⟩:=I.pin p hp;exact⟨a,r.no _ b,c⟩,r.ok _ _ _ I.hok,I.len⟩
def tRe (t:TS):TS:=λD σ H=>Des H->∃H0,Re H H0/\t {D with nx:=λσ' H'=>Des H'->∃H2,Re H' H2/\D.nx σ' H2} σ H0
theorem iw (h:PS X st t):PS X st (tRe t):=by
 intro pins s σ H D I ht;obtain⟨H0,r,ht⟩:=ht ⟨_,_,_,I.hok⟩;refine yJ (h pins s σ H0 _ (I.re r) ht) (λf s' q=>?_) λ_ _ z=>z;cases f with
 | next =>
  obtain⟨σ',H',I',q⟩:=q;obtain⟨H2,r2,q⟩:=q ⟨_,_,_,I'.hok⟩;exact⟨σ',H2,I'.re r2,q⟩
 | brk=>exact q
 | cont=>exact q
 | ret u=>exact q
end
theorem jQ:∀bs:List Addr,Vals (bs.map V.ref) (bs.map Value.ref)
 | []=>.nil
 | b::bs=>.cons rfl (jQ bs)
theorem fX:∀ {bs:List Addr} {its:List bd},Vals (bs.map V.ref) its->its=bs.map Value.ref
 | [],_,.nil=>rfl
 | b::bs,_,.cons r t=>by rw[fX t];cases r;rfl
def opn (H:Hp)(l:Addr)(bs:List Addr)(vss:List (List V)):Hp:=λa=>if a=l then some (.lst (bs.map V.ref))else if a∈bs then some (.lst (vss.getD (bs.idxOf a) []))else H a
def cls (H:Hp)(l:Addr)(bs:List Addr)(vss:List (List V)):Hp:=λa=>if a=l then some (.big bs (LlP l bs vss))else if a∈bs then some (.own l)else H a
structure LlAt (H:Hp)(l:Addr)(bs:List Addr)(vss:List (List V)):Prop where
 nd:bs.Nodup
 ln:vss.length=bs.length
 ow:∀b∈bs,b≠l/\H b=some (.own l)
section
variable {H H':Hp}{l:Addr}{bs:List Addr}{vss:List (List V)}
theorem kO:opn H l bs vss l=some (.lst (bs.map V.ref)):=by unfold opn;rw[if_pos rfl]
theorem kP {b:Addr}(ne:b≠l)(hb:b∈bs):opn H l bs vss b=some (.lst (vss.getD (bs.idxOf b) [])):=by unfold opn;rw[if_neg ne,if_pos hb]
theorem dS {a:Addr}(ne:a≠l)(hb:a∉bs):opn H l bs vss a=H a:=by unfold opn;rw[if_neg ne,if_neg hb]
theorem rH:cls H l bs vss l=some (.big bs (LlP l bs vss)):=by unfold cls;rw[if_pos rfl]
theorem nJ {b:Addr}(ne:b≠l)(hb:b∈bs):cls H l bs vss b=some (.own l):=by unfold cls;rw[if_neg ne,if_pos hb]
theorem fe {a:Addr}(ne:a≠l)(hb:a∉bs):cls H l bs vss a=H a:=by unfold cls;rw[if_neg ne,if_neg hb]
theorem LlAt.of (d:Des H)(hl:H l=some (.big bs (LlP l bs vss))):LlAt H l bs vss:=by
 obtain⟨P,w,h,x⟩:=d;obtain⟨ow,p,_⟩:=x l _ hl;exact⟨p.2.1,p.2.2.2.1,ow⟩
theorem ui {b:Addr}(hb:b∈bs):bs[bs.idxOf b]? = some b:=by
 have h:=Bb hb;rw[bv h,List.getElem_idxOf h]
theorem qw (hl:H l=some (.big bs (LlP l bs vss)))(A:LlAt H l bs vss):Re H (opn H l bs vss):=by
 have el:∀a o,H a=some o->(∀ps φ,o ≠ .big ps φ)->(∀x,o ≠ .own x)->opn H l bs vss a=some o:=λa o e n1 n2=>by
  have h1:a≠l:=λq=>by subst q;rw[hl]at e;injection e with e;exact n1 _ _ e.symm
  have h2:a∉bs:=λq=>by have:=(A.ow a q).2;rw[e]at this;injection this with this;exact n2 _ this
  rw[dS h1 h2];exact e
 refine⟨λa e=>?_,λb xs e=>el b _ e (λ_ _ z=>(nomatch z)) (λ_ z=>nomatch z),λb o u e=>el b _ e (λ_ _ z=>(nomatch z)) (λ_ z=>nomatch z),λb ps e=>el b _ e (λ_ _ z=>(nomatch z)) (λ_ z=>nomatch z),λP w h x a o e=>?_⟩
 ·have h1:a≠l:=λq=>by subst q;rw[hl]at e;cases e
  have h2:a∉bs:=λq=>by have:=(A.ow a q).2;rw[e]at this;cases this
  rw[dS h1 h2];exact e
 ·obtain⟨ow,p,_⟩:=x l _ hl;obtain⟨z,nd,⟨n,g⟩,ln,items⟩:=p;by_cases h1:a=l
  ·subst h1;rw[kO]at e;injection e with e;subst e;exact⟨by rw[db];exact z,bs.map Value.ref,n,jQ bs,g⟩
  by_cases h2:a∈bs
  ·rw[kP h1 h2]at e;injection e with e;subst e;have hk:=ui h2;have lt:bs.idxOf a<vss.length:=by rw[ln];exact Bb h2
   obtain⟨z2,its,n2,r,g2⟩:=items _ a (vss.getD (bs.idxOf a) []) hk (by rw[bi,bv lt];rfl);exact⟨z2,its,n2,r,g2⟩
  ·rw[dS h1 h2]at e;refine(x a o e).stay (λ_ _ _ q=>q) (λb q=>?_) λb xs q=>el b _ q (λ_ _ z=>(nomatch z)) λ_ z=>nomatch z;have h3:b≠l:=λz=>by subst z;rw[hl]at q;cases q
   have h4:b∉bs:=λz=>by
    have:=(A.ow b z).2;rw[q]at this;injection this with this;injection this with this;exact h1 this
   rw[dS h3 h4];exact q
theorem qx (hl:H l=some (.lst (bs.map V.ref)))(hb:∀(k:Nat) (b:Addr) (vs:List V),bs[k]? = some b->vss[k]? = some vs->H b=some (.lst vs))(nd:bs.Nodup)(ln:vss.length=bs.length)(nl:l∉bs):Re H (cls H l bs vss):=by
 have lb:∀b∈bs,∃vs,H b=some (.lst vs):=λb h=>by
  have lt:bs.idxOf b<vss.length:=by rw[ln];exact Bb h
  exact⟨_,hb _ b _ (ui h) (bv lt)⟩
 have el:∀a o,H a=some o->(∀xs,o ≠ .lst xs)->cls H l bs vss a=some o:=λa o e n1=>by
  have h1:a≠l:=λq=>by subst q;rw[hl]at e;injection e with e;exact n1 _ e.symm
  have h2:a∉bs:=λq=>by
   obtain⟨vs,q⟩:=lb a q;rw[e]at q;injection q with q;exact n1 _ q
  rw[fe h1 h2];exact e
 refine⟨λa e=>?_,λb xs e=>el b _ e (λ_ z=>nomatch z),λb o u e=>el b _ e (λ_ z=>nomatch z),λb ps e=>el b _ e (λ_ z=>nomatch z),λP w h x a o e=>?_⟩
 ·have h1:a≠l:=λq=>by subst q;rw[hl]at e;cases e
  have h2:a∉bs:=λq=>by obtain⟨vs,q⟩:=lb a q;rw[e]at q;cases q
  rw[fe h1 h2];exact e
 ·by_cases h1:a=l
  ·subst h1;rw[rH]at e;injection e with e;subst e;obtain⟨z,its,n,r,g⟩:=x a _ hl;rw[fX r]at g;refine⟨λp hp=>⟨λq=>nl (q▸hp),nJ (λq=>nl (q▸hp)) hp⟩,⟨by rw[db]at z;exact z,nd,⟨n,g⟩,ln,λk b vs q1 q2=>?_⟩,⟨_,g⟩,λh1 h2 p st=>?_⟩
   ·obtain⟨z2,its2,n2,r2,g2⟩:=x b _ (hb k b vs q1 q2);exact⟨z2,its2,n2,r2,g2⟩
   ·obtain⟨p1,p2,⟨n,p3⟩,p4,p5⟩:=p;exact⟨p1,p2,⟨n,st _ _ (.inl rfl) p3⟩,p4,λk b vs q1 q2=>by
     obtain⟨y1,its,n,y2,y3⟩:=p5 k b vs q1 q2;exact⟨y1,its,n,y2,st _ _ (.inr (yp q1)) y3⟩⟩
  by_cases h2:a∈bs
  ·rw[nJ h1 h2]at e;injection e with e;subst e;obtain⟨vs,q⟩:=lb a h2;obtain⟨_,its,n,_,g⟩:=x a _ q;exact⟨_,g⟩
  ·rw[fe h1 h2]at e;exact(x a o e).stay (λ_ _ _ q=>q) (λb q=>el b _ q (λ_ z=>nomatch z)) λb xs q=>el b _ q (λ_ z=>nomatch z)
end
def Fop (F:Fr)(i:Nat)(l:Addr)(bs:List Addr)(vss:List (List V)):Fr :=
 ⟨opn F.H0 l bs vss,λa=>F.Z a/\a≠l/\a∉bs,λa=>F.M a/\a≠l/\a∉bs,F.I,λj a=>F.P j a∨(j=i/\a=l)⟩
def llD (xss:List (List D)):D:=.lst (xss.map D.lst)
def noLL (xss:List (List D)):Bool:=xss.all noLs
def svX (i:Nat)(ρ:En):Bool:=svNs (pt ρ i .un)
section
variable {K:ac}{F:Fr}{σ σ':St}{ρ ρ':En}{H H':Hp}{i:Nat}{l:Addr}{bs:List Addr}{vss:List (List V)}{xss:List (List D)}
theorem qd (h:svX i ρ=true){j:Nat}(ne:i≠j):svN (gt ρ j)=true:=by
 have:=bH j h;rwa [bU ρ i j _ ne]at this
theorem uR (r:Rel K F σ ρ H){j:Nat}{a:Addr}(hn:svN (gt ρ j)=true)(ho:(gt ρ j).own=true)(e:σ[j]? = some (some (.ref a))):∃vs,H a=some (.lst vs):=by
 have s:=r.sl j;cases g:gt ρ j with
 | ow ds =>
  rw[g,e]at s;obtain⟨l,vs,e2,h,_⟩:=s;injection e2 with e2;injection e2 with e2;injection e2 with e2;exact⟨vs,e2▸h⟩
 | _=>rw[g]at hn ho;simp[svN,Sv.own]at hn ho
theorem jX {Hh:Hp}:∀ {bs:List Addr} {vss:List (List V)} {xss:List (List D)},bs.length=xss.length->(∀(k:Nat) (b:Addr) (ds:List D),bs[k]? = some b->xss[k]? = some ds->∃vs,Hh b=some (.lst vs)/\RepDs K Hh vs ds)->RepDs K Hh (bs.map V.ref) (xss.map D.lst)
 | [],_,[],_,_=>RepDs.nil
 | b::bs,_,ds::xss,h,f=>by
  refine RepDs.cons ?_ (jX (vss:=[]) (by simpa using h) λk b' ds' h1 h2=>f (k+1) b' ds' (by simpa using h1) (by simpa using h2));obtain⟨vs,h1,h2⟩:=f 0 b ds rfl rfl;unfold RepD;exact⟨b,vs,rfl,h1,h2⟩
 | [],_,_::_,h,_=>by simp at h
 | _::_,_,[],h,_=>by simp at h
theorem Rel.opn (r:Rel K F σ ρ H)(hi:gt ρ i = .ll xss)(ei:σ[i]? = some (some (.ref l)))(hl:H l=some (.big bs (LlP l bs vss)))(A:LlAt H l bs vss)(rep:r6 K (hid H (hs F σ ρ)) vss xss)(hn:svX i ρ=true)(hx:noLL xss=true) :
  Rel K (Fop F i l bs vss) σ (pt ρ i (.vl (llD xss))) (L2.opn H l bs vss):=by
 have oi:(gt ρ i).own=true:=by rw[hi];rfl
 have lt:=jc oi;have own':∀j,(gt (pt ρ i (.vl (llD xss))) j).own=true->i≠j/\(gt ρ j).own=true:=λj h=>fv rfl h;have far:∀j a,(gt (pt ρ i (.vl (llD xss))) j).own=true->σ[j]? = some (some (.ref a))->a≠l/\a∉bs:=λj a h e=>by
  obtain⟨ij,hj⟩:=own' j h;refine⟨λq=>ij (r.nd i j l oi hj ei (q▸e)),λq=>?_⟩;obtain⟨vs,h1⟩:=uR r (qd hn ij) hj e;rw[(A.ow a q).2]at h1;cases h1
 have vis:∀a o,hid H (hs F σ ρ) a=some o->a≠l->a∉bs->hid (L2.opn H l bs vss) (hs (Fop F i l bs vss) σ (pt ρ i (.vl (llD xss)))) a=some o:=λa o e h1 h2=>by
  obtain⟨n,e⟩:=dz.mp e;refine dU (λz=>n ?_) (by rw[dS h1 h2];exact e);rcases z with z | ⟨j,hj,ej⟩
  ·exact .inl z.1
  ·exact .inr ⟨j,(own' j hj).2,ej⟩
 have vt:∀a vs,StT (hid H (hs F σ ρ)) a vs->StT (hid (L2.opn H l bs vss) (hs (Fop F i l bs vss) σ (pt ρ i (.vl (llD xss))))) a vs:=λa vs e=>by
  have e2:=(dz.mp e).2;exact vis a _ e (λq=>by rw[q,hl]at e2;cases e2) λq=>by rw[(A.ow a q).2]at e2;cases e2
 have nl:∀a,a=l∨a∈bs->¬hs (Fop F i l bs vss) σ (pt ρ i (.vl (llD xss))) a:=λa h z=>by
  rcases z with z | ⟨j,hj,ej⟩
  ·exact h.elim z.2.1 z.2.2
  ·have:=far j a hj ej;exact h.elim this.1 this.2
 refine⟨by rw[ft];exact r.len,λa o e n=>?_,λa z=>?_,λa ⟨j,hj,ej⟩ z=>?_,λj a hj e=>?_,λj a h=>?_,λa z=>?_,λa z=>?_,λj k a hj hk ej ek=>r.nd j k a (own' j hj).2 (own' k hk).2 ej ek,λj=>?_⟩
 ·by_cases h1:a=l
  ·subst h1;have e:L2.opn F.H0 a bs vss a=some o:=e;rw[kO]at e ⊢;exact e
  by_cases h2:a∈bs
  ·have e:L2.opn F.H0 l bs vss a=some o:=e;rw[kP h1 h2]at e ⊢;exact e
  ·have e:L2.opn F.H0 l bs vss a=some o:=e;rw[dS h1 h2]at e ⊢;exact r.fr a o e λm=>n ⟨m,h1,h2⟩
 ·unfold Nt;rw[dS z.2.1 z.2.2];exact r.zl a z.1
 ·exact r.zo a ⟨j,(own' j hj).2,ej⟩ z.1
 ·have f:=far j a hj e;rcases r.ow j a (own' j hj).2 e with⟨h1,h2⟩ | h
  ·exact .inl ⟨h1,h2,f⟩
  ·exact .inr (by show L2.opn F.H0 l bs vss a=none;rw[dS f.1 f.2];exact h)
 ·rcases h with h | h | ⟨rfl,rfl⟩
  ·exact r.mi j a (.inl h)
  ·exact r.mi j a (.inr h)
  ·exact ei
 ·show L2.opn F.H0 l bs vss a≠none;rw[dS z.2.1 z.2.2];exact r.ml a z.1
 ·rw[dS z.2.1 z.2.2];exact r.ma a z.1
 ·by_cases ij:i=j
  ·subst ij;rw[jN ρ i _ lt,ei];refine⟨_,rfl,?_⟩;unfold llD RepD;refine⟨l,bs.map V.ref,rfl,dU (nl l (.inl rfl)) kO,jX (vss:=vss) (by rw[<- A.ln,rep.1]) λk b ds h1 h2=>?_⟩;have hb:=yp h1;have lk:k<vss.length:=by rw[A.ln];exact(kt.mp h1).1
   have ek:bs.idxOf b=k:=by
    obtain⟨h,e⟩:=kt.mp h1;rw[<- e];exact zG A.nd k h
   refine⟨vss.getD k [],dU (nl b (.inr hb)) (by rw[kP (A.ow b hb).1 hb,ek]),?_⟩;have hr:=rep.2 k (vss.getD k []) ds (by rw[bi,bv lk];rfl) h2;exact hr.tups vt (BB.mp hx ds (yp h2))
  ·rw[bU ρ i j _ ij];refine(r.sl j).tups (qd hn ij) vt λa o ho e h=>?_;have f:=far j a (by rw[bU ρ i j _ ij];exact ho) e;rw[dS f.1 f.2];exact h
theorem Rel.cls (r:Rel K F σ ρ H)(hi:gt ρ i = .ll xss)(ei:σ[i]? = some (some (.ref l)))(hl:H l=some (.big bs (LlP l bs vss)))(A:LlAt H l bs vss)(hx:noLL xss=true)
  (r1:Rel K (Fop F i l bs vss) σ' ρ' H') (hi':gt ρ' i = .vl (llD xss)) (hn:svX i ρ'=true) (hil:i<ρ'.length):Re H' (L2.cls H' l bs vss)/\Rel K F σ' (pt ρ' i (.ll xss)) (L2.cls H' l bs vss):=by
 have oi:(gt ρ i).own=true:=by rw[hi];rfl
 have ei':σ'[i]? = some (some (.ref l)):=r1.mi i l (.inr (.inr ⟨rfl,rfl⟩));have nlb:l∉bs:=λq=>(A.ow l q).1 rfl;have hl':H' l=some (.lst (bs.map V.ref)):=r1.fr l _ (by show L2.opn F.H0 l bs vss l=_;exact kO) λz=>z.2.1 rfl;have hb':∀b∈bs,H' b=some (.lst (vss.getD (bs.idxOf b) [])):=λb hb=>r1.fr b _ (by show L2.opn F.H0 l bs vss b=_;exact kP (A.ow b hb).1 hb) λz=>z.2.2 hb;have ek:∀ {k:Nat} {b:Addr},bs[k]? = some b->bs.idxOf b=k:=λ{k b} h1=>by
  obtain⟨h,e⟩:=kt.mp h1;rw[<- e];exact zG A.nd k h
 have own':∀j,(gt (pt ρ' i (.ll xss)) j).own=true->i≠j->(gt ρ' j).own=true:=λj h ij=>by rwa [bU ρ' i j _ ij]at h
 have far:∀j a,(gt ρ' j).own=true->σ'[j]? = some (some (.ref a))->a≠l/\a∉bs:=λj a h e=>by
  rcases r1.ow j a h e with⟨_,h2⟩ | h
  ·exact h2.2
  ·have h:L2.opn F.H0 l bs vss a=none:=h;refine⟨λq=>?_,λq=>?_⟩
   ·rw[q,kO]at h;cases h
   ·rw[kP (A.ow a q).1 q]at h;cases h
 have vt:∀a vs,StT (hid H' (hs (Fop F i l bs vss) σ' ρ')) a vs->StT (hid (L2.cls H' l bs vss) (hs F σ' (pt ρ' i (.ll xss)))) a vs:=λa vs e=>by
  obtain⟨n,e⟩:=dz.mp e;have h1:a≠l:=λq=>by rw[q,hl']at e;cases e
  have h2:a∉bs:=λq=>by rw[hb' a q]at e;cases e
  refine dU (λz=>n ?_) (by rw[fe h1 h2];exact e);rcases z with z | ⟨j,hj,ej⟩
  ·exact .inl ⟨z,h1,h2⟩
  ·by_cases ij:i=j
   ·subst ij;rw[ei']at ej;injection ej with ej;injection ej with ej;injection ej with ej;exact absurd ej.symm h1
   ·exact .inr ⟨j,own' j hj ij,ej⟩
 refine⟨qx hl' (λk b vs h1 h2=>?_) A.nd A.ln nlb,?_⟩
 ·rw[hb' b (yp h1),ek h1,bi,h2];rfl
 refine⟨by rw[ft];exact r1.len,λa o e n=>?_,λa z=>?_,λa ⟨j,hj,ej⟩ z=>?_,λj a hj e=>?_,λj a h=>r1.mi j a (h.imp id .inl),r.ml,λa z=>?_,λj k a hj hk ej ek'=>?_,λj=>?_⟩
 ·by_cases h1:a=l
  ·subst h1;rcases r.ow i a oi ei with⟨_,h⟩ | h
   ·exact absurd h n
   ·rw[h]at e;cases e
  by_cases h2:a∈bs
  ·have:=r.fr a o e n;rw[(A.ow a h2).2]at this;rw[nJ h1 h2];exact this
  ·rw[fe h1 h2];exact r1.fr a o (by show L2.opn F.H0 l bs vss a=some o;rw[dS h1 h2];exact e) λz=>n z.1
 ·by_cases h1:a=l
  ·subst h1;exact absurd z (r.zo a ⟨i,oi,ei⟩)
  by_cases h2:a∈bs
  ·unfold Nt;rw[nJ h1 h2];exact⟨(λz=>nomatch z),λxs z=>nomatch z⟩
  ·unfold Nt;rw[fe h1 h2];exact r1.zl a ⟨z,h1,h2⟩
 ·by_cases ij:i=j
  ·subst ij;rw[ei']at ej;injection ej with ej;injection ej with ej;injection ej with ej;subst ej;exact r.zo l ⟨i,oi,ei⟩ z
  ·have f:=far j a (own' j hj ij) ej;exact r1.zo a ⟨j,own' j hj ij,ej⟩ ⟨z,f⟩
 ·by_cases ij:i=j
  ·subst ij;rw[ei']at e;injection e with e;injection e with e;injection e with e;subst e;exact r.ow i l oi ei
  ·have f:=far j a (own' j hj ij) e;rcases r1.ow j a (own' j hj ij) e with⟨h1,h2⟩ | h
   ·exact .inl ⟨h1,h2.1⟩
   ·have h:L2.opn F.H0 l bs vss a=none:=h;rw[dS f.1 f.2]at h;exact .inr h
 ·by_cases h1:a=l
  ·subst h1;rw[rH];exact λz=>nomatch z
  by_cases h2:a∈bs
  ·rw[nJ h1 h2];exact λz=>nomatch z
  ·rw[fe h1 h2];exact r1.ma a ⟨z,h1,h2⟩
 ·by_cases ij:i=j
  ·by_cases ik:i=k
   ·omega
   ·exfalso;subst ij;rw[ei']at ej;injection ej with ej;injection ej with ej;injection ej with ej;exact(far k a (own' k hk ik) ek').1 ej.symm
  ·by_cases ik:i=k
   ·exfalso;subst ik;rw[ei']at ek';injection ek' with ek';injection ek' with ek';injection ek' with ek';exact(far j a (own' j hj ij) ej).1 ek'.symm
   ·exact r1.nd j k a (own' j hj ij) (own' k hk ik) ej ek'
 ·by_cases ij:i=j
  ·subst ij;rw[jN ρ' i _ hil,ei'];have s:=r1.sl i;rw[hi',ei']at s;obtain⟨x,ex,rd⟩:=s;injection ex with ex;injection ex with ex;subst ex;unfold llD RepD at rd;obtain⟨a,vs,ea,hv,rds⟩:=rd;injection ea with ea;subst ea;have hv2:=(dz.mp hv).2;rw[hl']at hv2;injection hv2 with hv2;injection hv2 with hv2;subst hv2;have hlen:=rds.length;rw[db,db]at hlen;refine⟨l,bs,vss,rfl,rH,by rw[A.ln,hlen],λk vs ds h1 h2=>?_⟩;have lk:k<bs.length:=by rw[<- A.ln];exact(kt.mp h1).1
   obtain⟨v,hv3,rk⟩:=rds.get (i:=k) (d:=.lst ds) (by rw[lm,h2];rfl);rw[lm,bv lk]at hv3;injection hv3 with hv3;subst hv3;unfold RepD at rk;obtain⟨b,us,eb,hu,rk⟩:=rk;injection eb with eb;subst eb;have hu2:=(dz.mp hu).2;rw[hb' _ (zc lk),ek (bv lk),bi,h1]at hu2;injection hu2 with hu2;injection hu2 with hu2;have hu3:vs=us:=hu2;subst hu3;exact rk.tups vt (BB.mp hx ds (yp h2))
  ·rw[bU ρ' i j _ ij];refine(r1.sl j).tups (qd hn ij) vt λa o ho e h=>?_;have f:=far j a ho e;rw[fe f.1 f.2];exact h
end
def yb (i:Nat)(A:AS):AS:=λe ρ=>∃xss,gt ρ i = .ll xss/\svX i ρ=true/\noLL xss=true /\
 A {nx:=λρ'=>gt ρ' i = .vl (llD xss)/\svX i ρ'=true/\e.nx (pt ρ' i (.ll xss)),bk:=λ_=>False,ct:=λ_=>False,rt:=λ_ _=>False} (pt ρ i (.vl (llD xss)))
section
variable {K:ac}{pr:Nat->Bool}{t:TS}{A:AS}
theorem iH {i:Nat}(h:TSok K (λj=>pr j||j==i) t A):TSok K pr (tRe t) (yb i A):=by
 intro F σ ρ H D e hp r ⟨xss,hi,hn,hx,ha⟩ ok d;have s:=r.sl i;rw[hi]at s;obtain⟨l,bs,vss,ei,hl,rep⟩:=s;have A1:=LlAt.of d hl;refine⟨L2.opn H l bs vss,qw hl A1,?_⟩;refine h (Fop F i l bs vss) σ _ _ _ _ (λj a z=>?_) (r.opn hi ei hl A1 rep hn hx) ha ⟨λσ' ρ' H' ⟨h1,h2,h3⟩ r1 d'=>?_,λ_ _ _ z=>z.elim,λ_ _ _ z=>z.elim,λ_ _ _ _ _ z=>z.elim⟩
 ·rcases z with z | z | ⟨rfl,_⟩
  ·have:=hp j a (.inl z);simp[this]
  ·have:=hp j a (.inr z);simp[this]
  ·simp
 ·have lt:i<ρ'.length:=by
   rcases pp i ρ'.length with q | q
   ·exact q
   ·rw[ig ρ' i q]at h1;cases h1
  obtain⟨c1,c2⟩:=r.cls hi ei hl A1 hx r1 h1 h2 lt;exact⟨_,c1,ok.nx _ _ _ h3 c2⟩
end
def yc (i j k:Nat):AS:=λe ρ=>∃(xss:List (List D)) (n:Nat) (d:D),gt ρ i = .ll xss/\gt ρ j = .vl (.int (n:Nat))/\gt ρ k = .vl d/\n<xss.length/\(xss.getD n []).length<=1000000/\e.nx (pt ρ i (.ll (xss.set n (xss.getD n []++[d]))))
section
variable {K:ac}{pr:Nat->Bool}
theorem dD {i j k:Nat}:TSok K pr (tRe (uQ (tBM K "list" rAppend (tOp (rIx K) (tVar i) (tVar j)) (sx (tVar k) tNil)))) (yc i j k):=by
 intro F σ ρ H D e hp r ⟨xss,n,d,hi,hj,hk,hn,hle,hnx⟩ ok des;have s:=r.sl i;rw[hi]at s;obtain⟨l,bs,vss,ei,hl,rep⟩:=s;have A:=LlAt.of des hl;have sj:=r.sl j;rw[hj]at sj;obtain⟨xj,ej,rj⟩:=sj;unfold RepD at rj;subst rj;have sk:=r.sl k;rw[hk]at sk;obtain⟨v,ek,rk⟩:=sk;have hnb:n<bs.length:=by rw[<- A.ln,rep.1];exact hn
 have hnv:n<vss.length:=by rw[A.ln];exact hnb
 have hbm:bs[n]∈bs:=zc hnb;have hb0:opn H l bs vss bs[n]=some (.lst (vss.getD n [])):=by
  rw[kP (A.ow _ hbm).1 hbm,zG A.nd n hnb]
 have ev:vss[n]? = some (vss.getD n []):=by rw[bi,bv hnv];rfl
 have ex:xss[n]? = some (xss.getD n []):=by rw[bi,bv hn];rfl
 have rn:=rep.2 n _ _ ev ex;refine⟨opn H l bs vss,qw hl A,?_⟩;refine⟨_,ei,_,ej,.inl ⟨l,bs.map V.ref,n,.ref bs[n],rfl,rfl,SqL.of kO,lq (by rw[lm,bv hnb];rfl),?_⟩⟩;refine⟨.inl ⟨rfl,_,SqL.of hb0⟩,v,ek,bs[n],vss.getD n [],v,rfl,rfl,hb0,iT (by rw[rn.length];exact hle),λ_=>?_⟩;have nlb:l∉bs:=λq=>(A.ow l q).1 rfl;refine⟨cls (upd (opn H l bs vss) bs[n] (.lst (vss.getD n []++[v]))) l bs (vss.set n (vss.getD n []++[v])),qx ?_ (λm b us h1 h2=>?_) A.nd (by rw[zY];exact A.ln) nlb,?_⟩
 ·rw[aU (zd (A.ow _ hbm).1)];exact kO
 ·obtain⟨hm,rfl⟩:=kt.mp h1;have hmm:bs[m]∈bs:=zc hm;by_cases q:m=n
  ·subst q;rw[y6 hnv]at h2;injection h2 with h2;rw[bh,h2]
  ·have ne:bs[m]≠bs[n]:=λz=>q (by
    have a:=zG A.nd m hm;have b:=zG A.nd n hnb;rw[z]at a;omega)
   rw[xz (zd q)]at h2;rw[aU ne,kP (A.ow _ hmm).1 hmm,zG A.nd m hm,bi,h2];rfl
 ·have eH:cls (upd (opn H l bs vss) bs[n] (.lst (vss.getD n []++[v]))) l bs (vss.set n (vss.getD n []++[v]))=upd H l (.big bs (LlP l bs (vss.set n (vss.getD n []++[v])))):=by
   funext a;by_cases h1:a=l
   ·subst h1;rw[rH,bh]
   rw[aU h1];by_cases h2:a∈bs
   ·rw[nJ h1 h2];exact(A.ow a h2).2.symm
   ·rw[fe h1 h2,aU (λq=>h2 (by rw[q];exact hbm)),dS h1 h2]
  rw[eH];refine ok.nx _ _ _ hnx (r.write (s:=.ll (xss.set n (xss.getD n []++[d]))) (by rw[hi];rfl) ei rfl ⟨l,bs,vss.set n (vss.getD n []++[v]),rfl,bh,by rw[zY,zY];exact rep.1,λm us ds h1 h2=>?_⟩).1;by_cases q:m=n
  ·subst q;rw[y6 hnv]at h1;rw[y6 hn]at h2;injection h1 with h1;injection h2 with h2;subst h1;subst h2;exact rn.append (RepDs.one rk)
  ·rw[xz (zd q)]at h1 h2;exact rep.2 m us ds h1 h2
end
def xC (i:Nat)(ai:AI):AS:=λe ρ=>ai ρ λds c ρ1=>ds.length<=1000000/\(∀ ρ,c ρ)/\e.nx (pt ρ1 i (.ll (ds.map λ_=>[])))
section
variable {K:ac}{pr:Nat->Bool}
theorem qi {i:Nat}{wi:TI}{ai:AI}(hi:TIok K (λ_=>true) wi ai)(hp:pr i=false):TSok K pr (tRe (λD σ H=>lE 1 [] wi (q_ 0) tAll (tLst tNil) σ H λv H'=>D.nx (σ.set i (some v)) H')) (xC i ai):=by
 intro F σ ρ H D e hpin r ha ok des;refine⟨H,.refl H,?_⟩;refine hi F σ ρ H _ _ r ha λds c ρ1 J H1 ⟨hz,hc,hnx⟩ r1 k1 wk=>?_;refine⟨λk m ys H'=>∃bs:List Addr,ys=bs.map V.ref/\bs.Nodup/\bs.length=k/\k<=ds.length/\m=ds.length - k/\Same H1 H'/\∀b∈bs,H1 b=none/\H' b=some (.lst []),⟨ds.length,[],rfl,List.nodup_nil,rfl,yz _,rfl,Same.refl H1,λb h=>(by cases h)⟩,?_⟩;rintro k m ys H' ⟨bs,rfl,nd,hk,hkl,rfl,sm,hb⟩;have rg:=r1.grow sm;have w:=wk σ ρ1 H' (bT λa o e n=>⟨sm a o e,n⟩) rg.sl (λ_ _ _ e=>e) (λa z=>sY rg z) (hc ρ1);rcases pp k ds.length with lt | ge
 ·right;obtain⟨go,yld⟩:=(w k).1 ds[k] (bv lt);refine⟨go,iT (by rw[db];omega),λzs H2=>∃bs:List Addr,zs=bs.map V.ref/\bs.Nodup/\bs.length=k+1/\Same H1 H2/\∀b∈bs,H1 b=none/\H2 b=some (.lst []),λzs H2 ⟨bs,a1,a2,a3,a4,a5⟩=>⟨ds.length - (k+1),by omega,bs,a1,a2,a3,lt,rfl,a4,a5⟩,λx H2 hy=>?_⟩;obtain⟨sm2,_⟩:=yld x H2 hy;refine⟨rfl,?_⟩;unfold tAll;dsimp only;rw[if_pos rfl];refine⟨yz _,λp hp=>?_⟩;have nb:p∉bs:=λq=>by
   have:=sm2 p _ (hb p q).2;rw[hp]at this;cases this
  have h1p:H1 p=none:=by
   cases q:H1 p with
   | none=>rfl
   | some o=>have:=sm2 p o (sm p o q);rw[hp]at this;cases this
  refine⟨bs++[p],by rw[yo];rfl,?_,by rw[ms,yr,hk],λa o q=>?_,λb hb'=>?_⟩
  ·exact List.nodup_append.mpr ⟨nd,by simp,λa ha b hb e=>nb (by rw[y7.mp hb]at e;exact e▸ha)⟩
  ·rw[aU (bD q h1p)];exact sm2 a o (sm a o q)
  ·rcases zL.mp hb' with q | q
   ·have bp:b≠p:=λz=>nb (z▸q);rw[aU bp];exact⟨(hb b q).1,sm2 b _ (hb b q).2⟩
   ·rw[y7.mp q,bh];exact⟨h1p,rfl⟩
 ·left;obtain rfl:k=ds.length:=by omega
  refine⟨(w _).2 (lw _),yR (iT (by show(bs.map V.ref).length<=1000000;rw[db];omega)),λl hl des'=>?_⟩;have lb:l∉bs:=λq=>by rw[(hb l q).2]at hl;cases hl
  have nbl:∀b∈bs,b≠l:=λb q z=>lb (z▸q);refine⟨cls (upd H' l (.lst (bs.map V.ref))) l bs (ds.map λ_=>[]),qx bh (λk b vs h1 h2=>?_) nd (by rw[db,hk]) lb,?_⟩
  ·have hm:=yp h1;rw[lm]at h2;obtain⟨_,_,rfl⟩:=wp.mp h2;rw[aU (nbl b hm)];exact(hb b hm).2
  ·have H1':Rel K F σ ρ1 (λa=>if a∈bs then some (.own l)else H' a):=r1.grow λa o q=>by
    have:a∉bs:=λz=>by rw[(hb a z).1]at q;cases q
    show(if a∈bs then _ else H' a)=_;rw[if_neg this];exact sm a o q
   have hln:(λa=>if a∈bs then some (HO.own l)else H' a) l=none:=by
    show(if l∈bs then _ else H' l)=none;rw[if_neg lb];exact hl
   have eH:cls (upd H' l (.lst (bs.map V.ref))) l bs (ds.map λ_=>[])=upd (λa=>if a∈bs then some (HO.own l)else H' a) l (.big bs (LlP l bs (ds.map λ_=>[]))):=by
    funext a;by_cases h1:a=l
    ·subst h1;rw[rH,bh]
    rw[aU h1];by_cases h2:a∈bs
    ·rw[nJ h1 h2,if_pos h2]
    ·rw[fe h1 h2,aU h1,if_neg h2]
   rw[eH];refine ok.nx _ _ _ hnx (H1'.setF (s:=.ll (ds.map λ_=>[])) rfl ⟨l,bs,ds.map λ_=>[],rfl,bh,by rw[db,db],λk vs es h1 h2=>?_⟩ hln (sR hpin hp));rw[lm]at h1 h2;obtain⟨_,_,rfl⟩:=wp.mp h1;obtain⟨_,_,rfl⟩:=wp.mp h2;exact RepDs.nil
end
def xE (i:Nat):AS:=λe ρ=>∃xss,gt ρ i = .ll xss/\e.rt (.n (.ll xss)) (pt ρ i .un)
theorem qj {K:ac}{pr:Nat->Bool}{i:Nat}(hp:pr i=false):TSok K pr (tRet (tVar i)) (xE i):=by
 intro F σ ρ H D e hpin r ⟨xss,hi,hr⟩ ok;obtain⟨l,o,hl,el,r',sv⟩:=r.take (i:=i) (by rw[hi];rfl) (sR hpin hp);refine⟨_,el,ok.rt _ _ _ _ _ hr ⟨del H l,l,o,r',rfl,?_,iL,(fB hl).symm,rfl⟩⟩;rw[fB hl,<- hi];exact sv
def EE (E:XK):XK:=λv c H'=>Des H'->∃H2,Re H' H2/\E v c H2
theorem Hot.re {od:Option Addr}{h0 h:Heap}{H H2:Hp}{e C:Addr}(q:Hot od h0 h H e C)(r:Re H H2):Hot od h0 h H2 e C:=by
 obtain⟨oe,vs,hv,a1,a2,a3,a4,a5,a6,a7,a8⟩:=q;refine⟨oe,vs,hv,a1,a2,a3,a4,a5,a6,r.no _ a7,?_⟩;rcases a8 with z | ⟨T,oT,ts,b1,b2,b3,b4,b5,b6,b7⟩
 ·exact .inl z
 ·exact .inr ⟨T,oT,ts,b1,b2,b3,b4,b5,b6,r.no _ b7⟩
section
variable {P:wl}{w:yF}{K:ac}{mg:Str->Option bd}{base:Heap}{N:List Str}{qual:Str}{scope:zA}{f:Addr}{cd:bd}{A:yI}{outer:List Env}{s0:dL}{H0:Hp}{E:XK}
theorem t9:gW (CX1 P w) (cxOf (CX1 P w) P w K mg base N qual scope f cd A outer s0 H0 E).inFor (EE E):=by
 rintro pins σ H s e s' I ⟨a,C,od,H',rfl,os,bare,un,hok,hot,hy,he⟩;have I':=I.unwish;obtain⟨H2,r,he⟩:=he ⟨_,_,_,hok⟩;exact ug ((I'.call' os un hok bare λb z=>nomatch z).re r) ((hot.older λb q=>I'.back0 rfl q).re r) (λdx q=>I'.back0 rfl (hy dx q)) he
end
def tReR (E:XK)(C:Addr)(fn:Option Str)(t:TS):TS:=λD σ H=>D.rt=XW E C fn->Des H->∃H0,Re H H0/\t {nx:=λ_ _=>False,rt:=XW (EE E) C fn,bk:=λ_ _=>False,ct:=λ_ _=>False} σ H0
theorem n9 {X:Cx}{E:XK}{C:Addr}{fn:Option Str}{st:Stmt}{t:TS}(h:PSr X (XW (EE E) C fn) st t):PSr X (XW E C fn) st (tReR E C fn t):=by
 intro pins s σ H D e I ht;obtain⟨H0,r,ht⟩:=ht e ⟨_,_,_,I.hok⟩;refine yJ (h pins s σ H0 _ rfl (I.re r) ht) (λf s' q=>?_) λ_ _ z=>z;cases f with
 | next=>obtain⟨_,_,_,q⟩:=q;exact q.elim
 | brk=>exact q
 | cont=>exact q
 | ret u=>exact q
def xF (i:Nat)(A:AS):AS:=λe ρ=>∃xss,gt ρ i = .ll xss/\svX i ρ=true/\noLL xss=true /\
 A {nx:=λ_=>False,bk:=λ_=>False,ct:=λ_=>False,rt:=λr ρ'=>gt ρ' i = .vl (llD xss)/\svX i ρ'=true/\(∃d,r = .d d/\noL d=true)/\e.rt r (pt ρ' i (.ll xss))} (pt ρ i (.vl (llD xss)))
section
variable {K:ac}{F:Fr}{σ σ':St}{ρ ρ':En}{H H':Hp}{i:Nat}{l:Addr}{bs:List Addr}{vss:List (List V)}{xss:List (List D)}
theorem Rel.clsD (r:Rel K F σ ρ H)(hi:gt ρ i = .ll xss)(ei:σ[i]? = some (some (.ref l)))(A:LlAt H l bs vss)
  (r1:Rel K (Fop F i l bs vss) σ' ρ' H') (hi':gt ρ' i = .vl (llD xss)) {v:V} {d:D} (hd:noL d=true) (rd:RepD K (hid H' (hs (Fop F i l bs vss) σ' ρ')) v d):RepD K (hid (L2.cls H' l bs vss) (hs F σ' (pt ρ' i (.ll xss)))) v d:=by
 have ei':σ'[i]? = some (some (.ref l)):=r1.mi i l (.inr (.inr ⟨rfl,rfl⟩));have hl':H' l=some (.lst (bs.map V.ref)):=r1.fr l _ (by show L2.opn F.H0 l bs vss l=_;exact kO) λz=>z.2.1 rfl;have hb':∀b∈bs,H' b=some (.lst (vss.getD (bs.idxOf b) [])):=λb hb=>r1.fr b _ (by show L2.opn F.H0 l bs vss b=_;exact kP (A.ow b hb).1 hb) λz=>z.2.2 hb;refine rd.tups (λa vs e=>?_) hd;obtain⟨n,e⟩:=dz.mp e;have h1:a≠l:=λq=>by rw[q,hl']at e;cases e
 have h2:a∉bs:=λq=>by rw[hb' a q]at e;cases e
 refine dU (λz=>n ?_) (by rw[fe h1 h2];exact e);rcases z with z | ⟨j,hj,ej⟩
 ·exact .inl ⟨z,h1,h2⟩
 ·by_cases ij:i=j
  ·subst ij;rw[ei']at ej;injection ej with ej;injection ej with ej;injection ej with ej;exact absurd ej.symm h1
  ·exact .inr ⟨j,by rwa [bU ρ' i j _ ij]at hj,ej⟩
end
section
variable {K:ac}{pr:Nat->Bool}{t:TS}{A:AS}{E:XK}{C:Addr}{fn:Option Str}
theorem gw {i:Nat}(h:TSok K (λj=>pr j||j==i) t A):TSok K pr (tReR E C fn t) (xF i A):=by
 intro F σ ρ H D e hp r ⟨xss,hi,hn,hx,ha⟩ ok eD d;have s:=r.sl i;rw[hi]at s;obtain⟨l,bs,vss,ei,hl,rep⟩:=s;have A1:=LlAt.of d hl;refine⟨L2.opn H l bs vss,qw hl A1,?_⟩;refine h (Fop F i l bs vss) σ _ _ _ _ (λj a z=>?_) (r.opn hi ei hl A1 rep hn hx) ha ⟨λ_ _ _ z=>z.elim,λ_ _ _ z=>z.elim,λ_ _ _ z=>z.elim,λσ' ρ' r2 v H' ⟨h1,h2,⟨d2,e2,hd2⟩,h3⟩ r1=>?_⟩
 ·rcases z with z | z | ⟨rfl,_⟩
  ·have:=hp j a (.inl z);simp[this]
  ·have:=hp j a (.inr z);simp[this]
  ·simp
 ·subst e2;obtain⟨r1,rd⟩:=r1;have lt:i<ρ'.length:=by
   rcases pp i ρ'.length with q | q
   ·exact q
   ·rw[ig ρ' i q]at h1;cases h1
  obtain⟨c1,c2⟩:=r.cls hi ei hl A1 hx r1 h1 h2 lt;have c3:=r.clsD hi ei A1 r1 h1 hd2 rd;have w:=ok.rt _ _ _ v _ h3 ⟨c2,c3⟩;intro od hf _;refine⟨_,c1,?_⟩;rw[eD]at w;refine w od ?_;cases fn with
  | none=>exact hf
  | some f =>
   obtain⟨dx,e1,e2⟩:=hf;refine⟨dx,e1,?_⟩;have hl':H' l=some (.lst (bs.map V.ref)):=r1.fr l _ (by show L2.opn F.H0 l bs vss l=_;exact kO) λz=>z.2.1 rfl;have hb':∀b∈bs,H' b=some (.lst (vss.getD (bs.idxOf b) [])):=λb hb=>r1.fr b _ (by show L2.opn F.H0 l bs vss b=_;exact kP (A1.ow b hb).1 hb) λz=>z.2.2 hb;rw[fe (λq=>by rw[q,hl']at e2;cases e2) λq=>by rw[hb' dx q]at e2;cases e2];exact e2
end
def FlyF (fl:bd)(od:Option Addr)(h:Heap)(e C T:Addr):Prop :=
 ∃oe vs oT ts,h.get? e=some oe/\oe.cls = .ref C/\oe.dict=od/\oe.data = .fields vs/\vs[1]? = some (.ref T)/\T≠e/\h.get? T=some oT/\oT.data = .fields ts/\ts[3]? = some fl
section
variable {M:C1}{A:yI}{E:bd->dL->Prop}{s:dL}{base:Heap}{env:Env}{outer:List Env}{L e C:Addr}{oe:Obj}{vs:Array bd}{od:Option Addr}
theorem lU {hd:bd}{had:Bool}{Q:Unit->dL->Prop}(fr:A.frames=some (env::outer))(ff:s.heap.FunFrames base (env::outer))(lf:env.frame=some L)
  (ge:s.heap.get? e=some oe) (gc:oe.cls = .ref C) (gd:oe.dict=od) (gf:oe.data = .fields vs) (gz:1<vs.size)
  (fin:∀h' T,s.heap.objs.size<=T->FlyF (yO L) od h' e C T->(∀b o,s.heap.get? b=some o->b≠e->b∉frs (env::outer)->h'.get? b=some o)->(∀b o,s.heap.get? b=some o->b≠e->∃sl,h'.get? b=some {o with slots:=sl})->Q () {s with heap:=h'}) :
  o0 M A (do let a <- frameOf env;let pl <- Ea L had;let b <- z4 hd a .none (yO L) .none pl;Do (.ref e) 1 b) Q E s:=by
 have off:e∉frs (env::outer):=λq=>by
  obtain⟨_,o,go,no⟩:=ff.mem q;cases ge.symm.trans go
  exact no vs gf
 refine bn (CS fr ff lf λha sa=>bn (CF λpl ip=>?_));unfold z4 DW;refine bn (zO ?_ (ip.sizeOk5 _ _ _ _ _));have ge1:ha.get? e=some oe:=(sa.2.1 e off).trans ge;have sz:ha.objs.size=s.heap.objs.size:=sa.1;generalize hT:([hd,Value.ref L,.none,yO L,.none]++(if pl.isEmpty then pc 6 Value.none else pl)).toArray=tv;have t3:tv[3]? = some (yO L):=by rw[<- hT];simp
 have neT:e≠ha.objs.size:=yn (lc ge1);refine zq (im _ ge1) gf gz ?_;generalize hp:ha.push {cls:=.type "traceback",dict:=none,data:=.fields tv}=hb;have gT:hb.get? ha.objs.size=some {cls:=.type "traceback",dict:=none,data:=.fields tv}:=by rw[<- hp];exact xL _ rfl
 have kb:∀b o,ha.get? b=some o->hb.get? b=some o:=λb o q=>by rw[<- hp];exact im _ q
 have w1:=y8 gf λa=>a.setIfInBounds 1 (.ref ha.objs.size);have g3:=yA (yP λa=>a.setIfInBounds 1 (.ref ha.objs.size)) (kb e oe ge1) (y9 w1);have gT3:=(sB hb (yP λa=>a.setIfInBounds 1 (.ref ha.objs.size)) neT).trans gT;have on:∀b o,b≠e->ha.get? b=some o->(hb.update e (yP λa=>a.setIfInBounds 1 (.ref ha.objs.size))).get? b=some o:=λb o ne q=>by
  rw[sB _ _ (zd ne)];exact kb b o q
 refine fin _ ha.objs.size (by rw[sz];exact lw _) ⟨_,_,_,_,g3,(Bt _ _).trans gc,?_,w1,by simp[gz],neT.symm,gT3,rfl,t3⟩ (λb o q ne nf=>on b o ne ((sa.2.1 b nf).trans q)) λb o q ne=>?_
 ·obtain⟨oc,od,oda,osl⟩:=oe;cases gf
  exact gd
 ·obtain⟨sl,q'⟩:=sa.2.2 b o q;exact⟨sl,on b _ ne q'⟩
theorem lvN {hv fl:bd}{Q:Unit->dL->Prop}(fr:A.frames=some (env::outer))(ff:s.heap.FunFrames base (env::outer))(lf:env.frame=some L)(hfl:(fl==yO L)=false)
  (ge:s.heap.get? e=some oe) (gc:oe.cls = .ref C) (gd:oe.dict=od) (gf:oe.data = .fields vs) (g1:vs[1]? = some hv)
  (hh:hv = .none ∨ ∃T oT ts,hv = .ref T/\T≠e/\s.heap.get? T=some oT/\oT.data = .fields ts/\ts[3]? = some fl)
  (fin:∀h' T,s.heap.objs.size<=T->FlyF (yO L) od h' e C T->Gone (frs (env::outer)) s.heap h' e hv->Q () {s with heap:=h'}) :
  o0 M A (z7 (.ref e) env) Q E s:=by
 have gz:=(yV.mp g1).1;unfold z7;simp only[lf];refine bn (yG ge gf g1 ?_);rcases hh with rfl | ⟨T,oT,ts,rfl,nT,gT,fT,t3⟩
 ·rw[if_neg (by decide)];exact lU fr ff lf ge gc gd gf gz λh' T' q1 q2 q3 q4=>fin h' T' q1 q2 ⟨λb o a1 a2 _ a4=>q3 b o a1 a2 a4,λb o a1 a2 _=>q4 b o a1 a2⟩
 ·rw[if_pos (by simp:(Value.ref T != Value.none)=true)];refine bn (yG gT fT t3 ?_);rw[if_neg (by rw[hfl];exact zS)];refine bn (zq gT fT (yV.mp t3).1 ?_);have ot:∀b,b≠T->(s.heap.update T (yP λa=>a.setIfInBounds 3 Value.none)).get? b=s.heap.get? b:=λb q=>sB _ _ (zd q);have nr:∀b o,s.heap.get? b=some o->(∀us,o.data ≠ .fields us)->b≠T:=λb o q nf z=>by
   subst z;cases gT.symm.trans q
   exact nf ts fT
  refine lU fr (ff.of_keeps λb o q nf=>⟨o,(ot b (nr b o q nf)).trans q,rfl⟩) lf ((ot e nT.symm).trans ge) gc gd gf gz λh' T' q1 q2 q3 q4=>fin h' T' ?_ q2 ⟨λb o a1 a2 a3 a4=>q3 b o ((ot b λz=>a3 (by rw[z])).trans a1) a2 a4,λb o a1 a2 a3=>q4 b o ((ot b λz=>a3 (by rw[z])).trans a1) a2⟩;rwa [CB]at q1
end
def HotF (fl:bd)(od:Option Addr)(h0 h:Heap)(H:Hp)(e C:Addr):Prop :=
 ∃oe vs T oT ts,h.get? e=some oe/\oe.cls = .ref C/\oe.dict=od/\oe.data = .fields vs/\vs[1]? = some (.ref T)/\h0.get? e=none/\H e=none/\T≠e/\h.get? T=some oT/\oT.data = .fields ts/\ts[3]? = some fl/\h0.get? T=none/\H T=none
def hvs:bd->List Addr
 | .ref T=>[T]
 | _=>[]
theorem Un.more {fs ex ex':List Addr}{H H':Hp}{h h':Heap}(u:Un fs ex H H' h h')(le:∀b,b∉ex'->b∉ex):Un fs ex' H H' h h' :=
 ⟨λb o q n nf nx=>u.keep b o q n nf (le b nx),λb o q n hf nx=>u.slot b o q n hf (le b nx),λb o q n nx=>u.free b o q n (le b nx),λb o q nx=>u.there b o q (le b nx),u.tups,u.frzs,u.tbls⟩
theorem FunFrames.but {base h h':Heap}{c:Addr}(k:∀b o,b≠c->h.get? b=some o->h'.get? b=some o):∀ {l:List Env},c∉frs l->h.FunFrames base l->h'.FunFrames base l
 | [],_,_=>trivial
 | env::rest,nc,hl=>by
  obtain⟨hk,⟨L,o,hf,hn,ho,hd⟩,hr⟩:=hl;have e:frs (env::rest)=L::frs rest:=by unfold frs;rw[A7,hf]
  rw[e]at nc;exact⟨hk,⟨L,o,hf,hn,k L o (λz=>nc (z ▸ .head _)) ho,hd⟩,FunFrames.but k (λz=>nc (.tail _ z)) hr⟩
structure Ex0 (X:Cx)(h0:Heap)(H:Hp)(hs h:Heap):Prop where
 ff:h.FunFrames X.base X.stack
 hok:HOk X.prog X.w H h
 fr:∀b∈frs X.stack,H b=none
 un:∃ch,(∀b∈ch,h0.get? b=none/\H b=none)/\Un (frs X.stack) ch H H hs h
 sz:∀b o,h0.get? b=some o->b<h.objs.size
section
variable {X:Cx}{H:Hp}{h0 hs h h':Heap}{e C:Addr}{od:Option Addr}
theorem Ex0.step (x:Ex0 X h0 H hs h){c:Addr}(hc:h0.get? c=none)(hn:H c=none)(nf:c∉frs X.stack)(hh:zf c h h'):Ex0 X h0 H hs h':=by
 obtain⟨ch,hch,un⟩:=x.un;have kp:∀b o,b≠c->h.get? b=some o->h'.get? b=some o:=λb o ne q=>(hh.2 b ne).trans q;refine⟨FunFrames.but kp nf x.ff,λa o q=>?_,x.fr,⟨c::ch,λb hb=>?_,(un.more λb hb=>λz=>hb (.tail _ z)).trans ⟨λb o q n _ nx=>kp b o (λz=>nx (z ▸ .head _)) q,λb o q n _ nx=>⟨o.slots,kp b o (λz=>nx (z ▸ .head _)) q⟩,λ_ _ _ n _=>n,λb o q nx=>⟨o,kp b o (λz=>nx (z ▸ .head _)) q⟩,λ_ _ q=>q,λ_ _ _ q=>q,λb ps q=>⟨#[],by rw[q];simp⟩⟩⟩,λb o q=>by rw[hh.1];exact x.sz b o q⟩
 ·refine(x.hok a o q).stay (λb u hb z=>kp b u (λw=>?_) z) (λ_ z=>z) λ_ _ z=>z;subst w;rcases hb with rfl | hb
  ·rw[hn]at q;cases q
  ·rw[hn]at hb;cases hb
 ·rcases wn.mp hb with rfl | hb
  ·exact⟨hc,hn⟩
  ·exact hch b hb
theorem wO {s:dL}{E:bd->dL->Prop}{Q:Unit->dL->Prop}{env:Env}{outer:List Env}{hv fl:bd}{L:Addr}{oe:Obj}{vs:Array bd}(x:Ex0 X h0 H hs s.heap)(hs':X.stack=env::outer)(fr:X.A.frames=some (env::outer))(hf:env.frame=some L)(hfl:(fl==yO L)=false)
  (ge:s.heap.get? e=some oe) (gc:oe.cls = .ref C) (gd:oe.dict=od) (gf:oe.data = .fields vs) (g1:vs[1]? = some hv) (ye:h0.get? e=none) (ue:H e=none)
  (hh:hv = .none ∨ ∃T oT ts,hv = .ref T/\T≠e/\s.heap.get? T=some oT/\oT.data = .fields ts/\ts[3]? = some fl/\h0.get? T=none/\H T=none)
  (fin:∀h',Ex0 X h0 H hs h'->HotF (yO L) od h0 h' H e C->(∀b o,s.heap.get? b=some o->(∀us,o.data ≠ .fields us)->b∉frs X.stack->h'.get? b=some o)->Q () {s with heap:=h'}) :
  o0 (sK X.prog X.w) X.A (z7 (.ref e) env) Q E s:=by
 have hh':hv = .none ∨ ∃T oT ts,hv = .ref T/\T≠e/\s.heap.get? T=some oT/\oT.data = .fields ts/\ts[3]? = some fl:=by
  rcases hh with q | ⟨T,oT,ts,q1,q2,q3,q4,q5,_⟩
  ·exact .inl q
  ·exact .inr ⟨T,oT,ts,q1,q2,q3,q4,q5⟩
 have ff:=x.ff;rw[hs']at ff;refine lvN fr ff hf hfl ge gc gd gf g1 hh' λh' T q1 ⟨oe',vs',oT',ts',f1,f2,f3,f4,f5,f6,f7,f8,f9⟩ g=>?_;have hch:∀b∈e::hvs hv,h0.get? b=none/\H b=none:=λb hb=>by
  rcases wn.mp hb with rfl | hb
  ·exact⟨ye,ue⟩
  ·rcases hh with rfl | ⟨T,oT,ts,rfl,_,_,_,_,y,u⟩
   ·cases hb
   ·rw[y7.mp hb];exact⟨y,u⟩
 have nch:∀b,b∉e::hvs hv->b≠e/\hv ≠ .ref b:=λb hb=>⟨λz=>hb (z ▸ .head _),λz=>hb (by subst z;exact .tail _ (.head _))⟩
 have hvf:∀b o,s.heap.get? b=some o->(∀us,o.data ≠ .fields us)->b≠e/\hv ≠ .ref b:=λb o q no=>by
  refine⟨λz=>?_,λz=>?_⟩
  ·subst z;cases ge.symm.trans q;exact no vs gf
  ·rcases hh with y | ⟨T,oT,ts,y,_,gT,fT,_⟩
   ·rw[y]at z;cases z
   ·rw[y]at z;cases z;cases gT.symm.trans q;exact no ts fT
 have slot:∀b o,s.heap.get? b=some o->b≠e->hv ≠ .ref b->∃sl,h'.get? b=some {o with slots:=sl}:=g.slot;have keep:∀b o,s.heap.get? b=some o->b≠e->hv ≠ .ref b->b∉frs X.stack->h'.get? b=some o:=λb o q z1 z2 z3=>g.keep b o q z1 z2 (by rw[<- hs'];exact z3);have Tsz:h0.get? T=none:=by
  cases z:h0.get? T with
  | none=>rfl
  | some o=>exact absurd (x.sz T o z) (BL.mpr q1)
 obtain⟨ch,hch0,un⟩:=x.un;have un2:Un (frs X.stack) (e::hvs hv) H H s.heap h':=by
  refine⟨λb o q n nf nx=>keep b o q (nch b nx).1 (nch b nx).2 nf,λb o q n _ nx=>slot b o q (nch b nx).1 (nch b nx).2,λb o _ n _=>n,λb o q nx=>?_,λ_ _ q=>q,λ_ _ _ q=>q,λb ps q=>⟨#[],by rw[q];simp⟩⟩;obtain⟨sl,q'⟩:=slot b o q (nch b nx).1 (nch b nx).2;exact⟨_,q'⟩
 have hok':HOk X.prog X.w H h':=λa o q=>by
  have tr:∀b o',H b=some o'->b≠e/\hv ≠ .ref b/\b∉frs X.stack:=λb o' z=>by
   refine⟨λw=>?_,λw=>?_,λw=>?_⟩
   ·rw[w,ue]at z;cases z
   ·rcases hh with y | ⟨T,oT,ts,y,_,_,_,_,_,u⟩
    ·rw[y]at w;cases w
    ·rw[y]at w;cases w;rw[u]at z;cases z
   ·rw[x.fr b w]at z;cases z
  refine(x.hok a o q).stay (λb u hb z=>?_) (λ_ z=>z) λ_ _ z=>z;have:∃o',H b=some o':=by
   rcases hb with rfl | hb
   ·exact⟨_,q⟩
   ·exact⟨_,hb⟩
  obtain⟨o',ho'⟩:=this;obtain⟨a1,a2,a3⟩:=tr b o' ho';exact keep b u z a1 a2 a3
 refine fin h' ⟨?_,hok',x.fr,⟨ch++(e::hvs hv),λb hb=>?_,(un.more λb hb z=>hb (z5 _ z)).trans (un2.more λb hb z=>hb (wr _ z))⟩,λb o q=>?_⟩ ⟨oe',vs',T,oT',ts',f1,f2,f3,f4,f5,ye,ue,f6,f7,f8,f9,Tsz,x.hok.fresh q1⟩ (λb o q no nf=>keep b o q (hvf b o q no).1 (hvf b o q no).2 nf)
 ·exact x.ff.of_keeps λb o q no=>by
   obtain⟨sl,q'⟩:=slot b o q (hvf b o q no).1 (hvf b o q no).2;exact⟨_,q',rfl⟩
 ·rcases zL.mp hb with z | z
  ·exact hch0 b z
  ·exact hch b z
 ·have lt:=x.sz b o q;refine nw lt (yt q1 (yR (lc f7)))
theorem ny {s:dL}{E:bd->dL->Prop}{Q:Unit->dL->Prop}{fl:bd}{fr:Option Addr}(x:Ex0 X h0 H hs s.heap)(q:HotF fl od h0 s.heap H e C)
  (fin:∀h',Ex0 X h0 H hs h'->HotF (fr.elim .none λf=>yO f) od h0 h' H e C->Q () {s with heap:=h'}):o0 (sK X.prog X.w) X.A (AK (.ref e) fr) Q E s:=by
 obtain⟨oe,vs,T,oT,ts,g1,gc,gd,g2,g3,ye,ue,nT,gT,fT,t3,yT,uT⟩:=q;have nf:T∉frs X.stack:=λz=>by
  obtain⟨_,o,go,no⟩:=x.ff.mem z;cases gT.symm.trans go
  exact no ts fT
 unfold AK;refine bn (yG g1 g2 g3 ?_);rw[if_pos (by simp:(Value.ref T != Value.none)=true)];refine zq gT fT (yV.mp t3).1 ?_;have w:=y8 fT λa=>a.setIfInBounds 3 (fr.elim Value.none λf=>yO f);have sb:zf T s.heap (s.heap.update T (yP λa=>a.setIfInBounds 3 (fr.elim Value.none λf=>yO f))):=zV ..;refine fin _ (x.step yT uT nf sb) ⟨oe,vs,T,_,_,(sb.2 e nT.symm).trans g1,gc,gd,g2,g3,ye,ue,nT,yA _ gT (y9 w),w,?_,yT,uT⟩;have:=(yV.mp t3).1;simp[this]
theorem wR {s:dL}{E:bd->dL->Prop}{Q:Unit->dL->Prop}{fl:bd}{env:Env}{outer:List Env}{L:Addr}(x:Ex0 X h0 H hs s.heap)(hs':X.stack=env::outer)(fr:X.A.frames=some (env::outer))(hf:env.frame=some L)(q:HotF fl od h0 s.heap H e C)
  (fin:∀h',Ex0 X h0 H hs h'->HotF .none od h0 h' H e C->Q () {s with heap:=h'}):o0 (sK X.prog X.w) X.A (BF env (.ref e)) Q E s:=by
 unfold BF;cases hfl:fl==yO L with
 | true =>
  obtain⟨oe,vs,T,oT,ts,g1,gc,gd,g2,g3,ye,ue,nT,gT,fT,t3,yT,uT⟩:=id q;refine bn ?_;unfold z7;simp only[hf];refine bn (yG g1 g2 g3 ?_);rw[if_pos (by simp:(Value.ref T != Value.none)=true)];refine bn (yG gT fT t3 ?_);rw[if_pos hfl];exact wv (ny (fr:=none) x q fin)
 | false =>
  obtain⟨oe,vs,T,oT,ts,g1,gc,gd,g2,g3,ye,ue,nT,gT,fT,t3,yT,uT⟩:=q;exact bn (wO x hs' fr hf hfl g1 gc gd g2 g3 ye ue (.inr ⟨T,oT,ts,rfl,nT,gT,fT,t3,yT,uT⟩) λh' x' q' _=>ny (fr:=none) x' q' fin)
end
section
variable {P:wl}{w:yF}{K:ac}{mg:Str->Option bd}{base:Heap}{N:List Str}{qual:Str}{scope:zA}{f:Addr}{cd:bd}{A:yI}{outer:List Env}{s0:dL}{H0:Hp}{E:XK}
def Cx.zb (X:Cx)(Y:Env)(use:Option (bd->Sem Unit))(Q:bd->dL->Prop)(acc:bd)(C:Addr):bd->dL->Prop :=
 E8 (sK X.prog X.w) X.A Y λx s''=>EB (sK X.prog X.w) X.A X.xe use Q acc C (.error x) s''
theorem xK {sc2:zA}{N2:List Str}{s2 s':dL}{H2 H':Hp}{C a Cc:Addr}{od:Option Addr}{fp:List Addr}{pins pY:List (Addr×Obj)}{σ σY:St}{acc:bd}{use:Option (bd->Sem Unit)}{Q:bd->dL->Prop}
  (I2:Inv (cxOf (CX1 P w) P w K mg base N qual scope f cd A outer s0 H0 E) pins σ H2 s2) (szC:s2.heap.objs.size<=C) (IX':Inv (cxOf (CX1 P w) P w K mg base N qual scope f cd A outer s0 H0 E) pins σ H' s') (IY':Inv (blkC (cxOf (CX1 P w) P w K mg base N qual scope f cd A outer s0 H0 E) sc2 N2 s2 H2 C fp) pY σY H' s') (hot:Hot od s0.heap s'.heap H' a Cc) (hy:Yg s0.heap od) (he:E (odV od) (some Cc) H') :
  (cxOf (CX1 P w) P w K mg base N qual scope f cd A outer s0 H0 E).zb (blkC (cxOf (CX1 P w) P w K mg base N qual scope f cd A outer s0 H0 E) sc2 N2 s2 H2 C fp).env use Q acc C (.ref a) s':=by
 have ncf:C∉frs (cxOf (CX1 P w) P w K mg base N qual scope f cd A outer s0 H0 E).stack:=λz=>by
  obtain⟨_,o,go,_⟩:=I2.stack.mem z;exact absurd (lc go) (BL.mpr szC)
 obtain⟨m,hn,_⟩:=IY'.loc;have hn:s'.heap.Ns C m:=hn;obtain⟨oe,vs,hv,g1,gc,gd,g2,g3,ye,ue,hh⟩:=hot;have x0:Ex0 (cxOf (CX1 P w) P w K mg base N qual scope f cd A outer s0 H0 E) s0.heap H' s'.heap s'.heap:=⟨IX'.stack,IX'.hok,IX'.stkFree,⟨[],(λb z=>nomatch z),Un.refl⟩,λb o q=>nw (lc q) IX'.sz⟩
 show o0 (sK P w) _ (z7 (.ref a) (A0 qual scope s0.heap.objs.size f cd)) _ _ s';refine wO (X:=cxOf (CX1 P w) P w K mg base N qual scope f cd A outer s0 H0 E) (outer:=outer) (L:=s0.heap.objs.size) (fl:=.none) x0 rfl IX'.ok.frames rfl (Bool.eq_false_iff.mpr (by simp[yO])) g1 gc gd g2 g3 ye ue hh λh' x' q' kp=>?_;obtain⟨o,es,ep,ho,hd,hk⟩:=hn;have gC:=kp C o ho (λus z=>by rw[hd]at z;cases z) ncf;show ∃m,Heap.Ns h' C m/\∀h'',zf C h' h''->∀cenv:Env,cenv.locals=C->_;refine⟨m,⟨o,es,ep,gC,hd,hk⟩,λh2 sb cenv ce=>?_⟩;have yC:s0.heap.get? C=none:=by
  cases z:s0.heap.get? C with
  | none=>rfl
  | some o=>exact absurd (nw (lc z) (yt I2.sz szC)) (zu _)
 have uC:H' C=none:=IY'.free;have x2:=x'.step yC uC ncf sb;obtain⟨oe,vs,T,oT,ts,r1,rc,rd,r2,r3,ye,ue,nT,rT,rt,r4,yT,uT⟩:=q';have n1:a≠C:=λz=>by
  subst z;cases r1.symm.trans gC
  rw[hd]at r2;cases r2
 have n2:T≠C:=λz=>by
  subst z;cases rT.symm.trans gC
  rw[hd]at rt;cases rt
 have g1':=(sb.2 a n1).trans r1;have q2:HotF (yO s0.heap.objs.size) od s0.heap h2 H' a Cc:=⟨oe,vs,T,oT,ts,g1',rc,rd,r2,r3,ye,ue,nT,(sb.2 T n2).trans rT,rt,r4,yT,uT⟩
 unfold PySem.passOn;refine bn (yG g1' r2 r3 ?_);rw[if_neg (by simp:¬(Value.ref T==Value.none)=true)];refine bn (ny (X:=cxOf (CX1 P w) P w K mg base N qual scope f cd A outer s0 H0 E) (s:={s' with heap:=h2}) x2 q2 λh3 x3 q3=>wpAny_throw ?_);show o0 (sK P w) _ (BF (A0 qual scope s0.heap.objs.size f cd) (.ref a)) _ _ _;refine wR (X:=cxOf (CX1 P w) P w K mg base N qual scope f cd A outer s0 H0 E) (outer:=outer) (L:=s0.heap.objs.size) (s:={s' with heap:=h3}) x3 rfl IX'.ok.frames rfl q3 λh4 x4 q4=>?_;obtain⟨ch,hch,u4⟩:=x4.un;have lo:∀b o,s0.heap.get? b=some o->b∉ch:=λb o q z=>by rw[(hch b z).1]at q;cases q
 have nL:∀b o,s0.heap.get? b=some o->b≠s0.heap.objs.size:=λb o q=>yn (lc q);obtain⟨oe,vs,T,oT,ts,r1,rc,rd,r2,r3,ye,ue,nT,rT,rt,r4,yT,uT⟩:=q4;refine⟨a,Cc,od,H',rfl,IX'.os,IX'.bare,⟨λb o q n nf _=>?_,λb o q n hb _=>?_,λb o q n _=>IX'.base.free b o q n (λz=>nomatch z),λb o q _=>?_,IX'.base.tups,IX'.base.frzs,IX'.base.tbls⟩,x4.hok,⟨oe,vs,.ref T,r1,rc,rd,r2,r3,ye,ue,.inr ⟨T,oT,ts,rfl,nT,rT,rt,r4,yT,uT⟩⟩,hy,he⟩
 ·refine u4.keep b o (IX'.base.keep b o q n nf λz=>nomatch z) (IX'.base.free b o q n λz=>nomatch z) (λz=>?_) (lo b o q);rcases wn.mp z with z | z
  ·exact nL b o q z
  ·exact nf z
 ·obtain⟨sl,q'⟩:=IX'.base.slot b o q n hb λz=>nomatch z
  obtain⟨sl',q''⟩:=u4.slot b _ q' (IX'.base.free b o q n λz=>nomatch z) (.tail _ hb) (lo b o q);exact⟨sl',q''⟩
 ·obtain⟨o',q'⟩:=IX'.base.there b o q λz=>nomatch z
  exact u4.there b o' q' (lo b o q)
theorem t8 {sc2:zA}{N2:List Str}{s2:dL}{H2:Hp}{C:Addr}{fp:List Addr}{pins:List (Addr×Obj)}{σ:St}{acc:bd}{use:Option (bd->Sem Unit)}{Q:bd->dL->Prop}
  (I2:Inv (cxOf (CX1 P w) P w K mg base N qual scope f cd A outer s0 H0 E) pins σ H2 s2) (f2:∀b∈fp,FpOk (cxOf (CX1 P w) P w K mg base N qual scope f cd A outer s0 H0 E) pins H2 b) (szC:s2.heap.objs.size<=C) :
  gW (CX1 P w) ((blkC (cxOf (CX1 P w) P w K mg base N qual scope f cd A outer s0 H0 E) sc2 N2 s2 H2 C fp).wish ((cxOf (CX1 P w) P w K mg base N qual scope f cd A outer s0 H0 E).zb (blkC (cxOf (CX1 P w) P w K mg base N qual scope f cd A outer s0 H0 E) sc2 N2 s2 H2 C fp).env use Q acc C)) (EE E):=by
 rintro pY σY H s e s' I ⟨a,Cc,od,H',rfl,os,bare,un,hok,hot,hy,he⟩;have IY:=I.unwish;have IX:Inv (cxOf (CX1 P w) P w K mg base N qual scope f cd A outer s0 H0 E) pins σ H s:=I2.call' IY.os IY.base IY.hok IY.bare λb hb=>let ⟨_,b1,_,b3,b4,b5⟩:=f2 b hb;⟨b3,b1,b4,b5⟩;have back:∀b,s.heap.get? b=none->s0.heap.get? b=none:=λb q=>IX.back0 rfl q;obtain⟨H3,r,he⟩:=he ⟨_,_,_,hok⟩;exact xK I2 szC ((IX.call' os un hok bare λb z=>nomatch z).re r) ((IY.call' os un hok bare λb z=>nomatch z).re r) ((hot.older back).re r) (λdx q=>back dx (hy dx q)) he
end
section
variable {P:wl}{w:yF}{A:yI}{R:Ec->dL->Prop}{s:dL}
theorem me {elt tg iter:Expr}{scope:zA}{pos:Pos}{it acc:bd}{env:Env}(J:Nat->dL->Prop)
  (turn:∀n s,J n s->o0 (sK P w) A (Cj it) (λr s1=>match r with
   | none=>False
   | some v=>o0 (sK P w) A (Bm tg it v) (λ_ s2=>o0 (sK P w) A (BJ tg env v) (λ_ s3 =>
     o0 (sK P w) A (eval elt env) (λx s5=>o0 (sK P w) A (call (.builtin "list.append") [acc,x]) (λ_ s6=>∃m,m<n/\J m s6) (λ_ _=>False) s5) (E8 (sK P w) A env λx s'=>R (.error x) s') s3) (λ_ _=>False) s2) (λ_ _=>False) s1) (λ_ _=>False) s)
  (n:Nat) (h:J n s):A_ (sK P w) A (.compLoop (.ListComp elt [⟨tg,iter,[],0⟩] scope pos) 0 it acc env) R s:=by
 have no:∀ {α:Type} {t:Sem α} {Q Q':α->dL->Prop} {E:bd->dL->Prop} {s:dL},o0 (sK P w) A t Q (λ_ _=>False) s->(∀a s,Q a s->Q' a s)->o0 (sK P w) A t Q' E s :=
  λh hq=>yJ h hq λ_ _ f=>f.elim
 refine codeAny_loop rfl J (λn s hJ=>?_) n h;show o0 _ A ((compTurn (.ListComp elt [⟨tg,iter,[],0⟩] scope pos) 0 it acc env).onRaise (λx=>do z7 x env;Fp x)) _ _ s;refine wpAny_noted ?_;rw[compTurn_list];refine bn (Ax (bn (no (turn n s hJ) λr s1 h1=>?_)));cases r with
 | none=>exact h1.elim
 | some v =>
  refine bn (no h1 λ_ s2 h2=>bn (no h2 λ_ s3 h3=>bn (Fn ?_)));exact bn (bn (yJ h3 (λx s5 h5=>bn (no h5 λ_ s6 h6=>wv (wv ⟨rfl,h6⟩))) λ_ _ z=>z))
end
def r_ (J:It)(n:Nat)(js:List Nat)(g:TG)(te:TE)(tr:List (Option V)->Hp->Prop)(σ:St)(H1:Hp):Prop:=∃W:Nat->Nat->List V->Hp->Prop,(∃m,W 0 m [] H1)/\∀i m ys H,W i m ys H ->
 J.go i H/\ys.length<ww/\∃N:List V->Hp->Prop,(∀zs H',N zs H'->∃m',m'<m/\W (i+1) m' zs H')/\∀x H',J.yld i H x H'->g x (bst n σ js) H' λσ2 H2=>σ2.drop n=capt σ js/\(te σ2 H2 (λv H4=>N (ys++[v]) H4)∨tr σ2 H2)
section
variable {X:Cx}
theorem nG {elt tg iter:Expr}{scope:zA}{pos:Pos}{own:List Str}{js:List Nat}{g:TG}{te:TE}{tr:List (Option V)->Hp->Prop}{pins:List (Addr×Obj)}{σ:St}{s2:dL}{itv:bd}{E:bd->dL->Prop}
  {RR:bd->Addr->Ec->dL->Prop} (hc:X.calm=true) (B:BlkC X scope own js) (hg:∀s H C fp,(own++capN X.N js).Nodup->PG (blkC X scope (own++capN X.N js) s H C fp) tg g)
  (he:∀s H C fp,PE (blkC X scope (own++capN X.N js) s H C fp) elt te)
  (hr:∀s H C fp acc,Inv X pins σ H s->(∀b∈fp,FpOk X pins H b)->s.heap.objs.size<=C->PE ((blkC X scope (own++capN X.N js) s H C fp).wish (E8 (sK X.prog X.w) X.A (blkC X scope (own++capN X.N js) s H C fp).env λx s''=>RR acc C (.error x) s'')) elt (λσ H _=>tr σ H))
  (h:PIE X pins σ tg (λJ H1=>r_ J own.length js g te tr σ H1) itv s2) :
  o0 (sK X.prog X.w) X.A (E9 []) (λacc s3=>o0 (sK X.prog X.w) X.A (Ck scope X.env.globals (fg scope X.env) [] X.env.qual none .none (some X.env)) (λcenv s4 =>
   A_ (sK X.prog X.w) X.A (.compStart (.ListComp elt [⟨tg,iter,[],0⟩] scope pos) 0 itv acc {cenv with scope:=Di scope X.env}) (RR acc cenv.locals) s4) E s3) E s2:=by
 obtain⟨it,fp,tn,J,H2,rfl,I2,T,st2,f2,W,⟨m0,w0⟩,turn⟩:=h;refine zO (fk ?_);generalize hPu:s2.heap.push {cls:=.type "list",dict:=none,data:=.seq ([]:List bd).toArray}=Pu;dsimp only;have hDC:Pu.objs.size=s2.heap.objs.size+1:=by rw[<- hPu,zK]
 generalize hD:s2.heap.objs.size=D at hDC ⊢;have gD:Pu.get? D=some {cls:=.type "list",dict:=none,data:=.seq ([]:List bd).toArray}:=by
  rw[<- hPu,<- hD];exact xL _ rfl
 have hns1:(AZ (Pu.push {cls:=.type "dict",data:=.dict #[]}) scope.names).Ns Pu.objs.size λ_=>none:=(EQ Pu (.type "dict")).keeps (B6 _ _);have hcs1:CellsOk (AZ (Pu.push {cls:=.type "dict",data:=.dict #[]}) scope.names) (Pu.objs.size+1) (zh (Pu.objs.size+1) scope.names []):=by
  have ok:=cellsFrom_ok scope.names (Pu.push {cls:=.type "dict",data:=.dict #[]}) (Pu.objs.size+1) [] ⟨λ_ _ hm=>(nomatch hm),List.Pairwise.nil⟩ (by rw[zK];exact lw _);rw[zK]at ok;exact ok
 have keep0:∀b o,Pu.get? b=some o->(AZ (Pu.push {cls:=.type "dict",data:=.dict #[]}) scope.names).get? b=some o:=λb o e=>B6 _ _ b o (im _ e);generalize hh1:AZ (Pu.push {cls:=.type "dict",data:=.dict #[]}) scope.names=h1 at hns1 hcs1 keep0 ⊢;generalize hC:Pu.objs.size=C at hns1 hcs1 hDC ⊢;have ltDC:D<C:=by rw[hDC];exact AQ D
 have neDC:D≠C:=yn ltDC;have keep1:∀b o,s2.heap.get? b=some o->h1.get? b=some o:=λb o e=>keep0 b o (by
  rw[<- hPu];exact im _ e)
 have gD1:h1.get? D=some {cls:=.type "list",dict:=none,data:=.seq ([]:List bd).toArray}:=keep0 D _ gD;have szD:s2.heap.objs.size<=D:=Dy hD;have szC:s2.heap.objs.size<=C:=yt szD (yR ltDC);have old:∀ {b:Addr},b<s2.heap.objs.size->b≠D/\b≠C:=λhb=>⟨yn (nw hb szD),yn (nw hb szC)⟩
 have fpo:∀b∈fp,∃o,s2.heap.get? b=some o:=λb hb=>let ⟨o,e,_⟩:=T.obj 0 _ st2 b hb;⟨o,e⟩;have fpD:∀b∈fp,b≠D/\b≠C:=λb hb=>by
  obtain⟨o,e⟩:=fpo b hb;exact old (lc e)
 have clD:∀x d,X.env.cells.lookup x=some d->d≠D/\d≠C:=λx d e=>by
  obtain⟨v,o,ho,_⟩:=I2.cell x d e;exact old (lc ho)
 have pinD:∀p∈X.pn++pins,p.1≠D/\p.1≠C:=λp hp=>by
  exact old (lc (I2.pin p hp).1)
 have locD:D≠X.env.locals/\C≠X.env.locals:=by
  exact⟨(old I2.lt).1.symm,(old I2.lt).2.symm⟩
 let Y:=blkC X scope (own++capN X.N js) s2 H2 C fp;have IB:Inv Y [] (bst own.length σ js) H2 {s2 with heap:=h1}:=oV B I2 f2 fpo szC hns1 hcs1 keep1;have fpB:∀ {H':Hp} {pl:List (Addr×Obj)},(∀b∈fp,H' b=none)->(∀p∈pl,p.1=D)->∀b∈fp,FpOk Y pl H' b:=λ{H' pl} hn hp b hb=>by
  obtain⟨f0,f1,f3,f4,f5,f6⟩:=f2 b hb;refine⟨hn b hb,(fpD b hb).2,λz=>?_,.inl hb,λx c e=>?_,λp q=>?_⟩
  ·rcases wn.mp (I2.stkSub b z)with z | z
   ·exact f1 z
   ·exact f3 z
  ·rcases dr e with q | q
   ·obtain⟨o,eo⟩:=fpo b hb;exact yQ (nw (lc eo) (yt szC (yR (hcs1.empty _ _ q).2)))
   ·exact f5 x c q
  ·have q':p∈pl:=by simpa [Y,blkC] using q
   rw[hp p q'];exact(fpD b hb).1.symm
 have clB:∀x d,Y.env.cells.lookup x=some d->d≠D:=λx d e=>by
  rcases dr e with q | q
  ·exact yQ (Ar ltDC (hcs1.empty _ _ q).2)
  ·exact(clD x d q).1
 have notFs:D∉Y.fs:=λz=>by
  obtain⟨_,o,ho,_⟩:=IB.ok.funs.mem z;exact(old (lc (show s2.heap.get? D=some o from ho))).1 rfl
 have loop:∀s3:dL,s3={s2 with heap:=h1} ->
   A_ (sK X.prog X.w) X.A (.compLoop (.ListComp elt [⟨tg,iter,[],0⟩] scope pos) 0 (.ref it) (.ref D) (EC scope (fh scope C X.env) C X.env)) (RR (.ref D) C) s3:=by
  rintro s3 rfl;refine me (λn s'=>∃(i:Nat) (ys:List V) (its:List bd) (k:Nat) (H':Hp),Inv Y [] (bst own.length σ js) H' s'/\tn i s'.heap/\(∀b∈fp,H' b=none)/\H' D=none/\Vals ys its /\
   s'.heap.get? D=some {cls:=.type "list",data:=.seq its.toArray k}/\W i n ys H') ?_ m0 ⟨0,[],[],0,H2,IB,T.keep 0 _ _ st2 (λb hb o e=>keep1 b o e),λb hb=>(f2 b hb).1,I2.hok.fresh szD,.nil,gD1,w0⟩
  rintro n s3 ⟨i,ys,its,k,H3,I3,st3,fr3,hD3,r3,g3,w3⟩;have I3p:Inv Y [(D,{cls:=.type "list",data:=.seq its.toArray k})] (bst own.length σ js) H3 s3:=I3.pins_of λp hp=>by
   have e:p=(D,{cls:=.type "list",data:=.seq its.toArray k}):=by simpa using hp
   subst e;exact⟨g3,hD3,neDC,notFs,λv z=>by cases z⟩
  have f3:∀b∈fp,FpOk Y [(D,{cls:=.type "list",data:=.seq its.toArray k})] H3 b:=fpB fr3 λp hp=>by
   have e:p=(D,{cls:=.type "list",data:=.seq its.toArray k}):=by simpa using hp
   rw[e]
  obtain⟨go,hz,N,hN,step⟩:=turn i n ys H3 w3
  ·refine thn (T.item Y rfl rfl rfl hc i _ s3 _ H3 (λ_ _=>False) I3p f3 st3 go) λr s4 ⟨u,hr,h4⟩=>?_;subst hr;refine thn h4 λ_ s5 ⟨x,H5,I5,r5,y5,st5,fr5⟩=>?_;have f5:∀b∈fp,FpOk Y [(D,{cls:=.type "list",data:=.seq its.toArray k})] H5 b:=λb hb=>⟨fr5 b hb,(f3 b hb).2⟩
   have I5':=I5.pinned f5 (T.obj _ _ st5);refine thn (hg s2 H2 C fp B.nd _ s5 _ H5 x u _ I5' r5 (step x H5 y5)) λ_ s6 ⟨σ6,H6,I6,d6,q6⟩=>?_;have after:∀ {s8:dL} {H8:Hp},Inv Y ([(D,{cls:=.type "list",data:=.seq its.toArray k})]++ja fp s5.heap) σ6 H8 s8 ->
     s8.heap.get? D=some {cls:=.type "list",data:=.seq its.toArray k}/\H8 D=none/\tn (i+1) s8.heap/\(∀b∈fp,H8 b=none)/\Inv Y [] (bst own.length σ js) H8 s8:=λ{s8 H8} I8=>by
    have p8:=I8.pin (D,{cls:=.type "list",data:=.seq its.toArray k}) (by simp[Y,blkC]);refine⟨p8.1,p8.2.1,T.keep _ _ _ st5 λb hb o e=>(I8.pin (b,o) (wr _ (wr _ (cP hb e)))).1,λb hb=>?_,?_⟩
    ·obtain⟨o,e,_⟩:=T.obj _ _ st5 b hb;exact(I8.pin (b,o) (wr _ (wr _ (cP hb e)))).2.1
    ·refine(I8.pins_of (pins':=[]) λp hp=>absurd hp (by simp[Y,blkC])).weak ?_ λj v e=>?_
     ·rw[I8.len,jF];show _=(own++capN X.N js).length;unfold capN;simp
     ·rcases pp j own.length with z | z
      ·exfalso;unfold bst at e;rw[yx (by simpa using z),Aw]at e;split at e <;> cases e
      ·unfold bst at e;rw[yK (by simpa using z),Ae,<- d6,zI]at e;rw[<- e];congr 1;omega
   rcases q6 with q6 | q6
   ·refine yJ (he s2 H2 C fp _ s6 σ6 H6 _ I6 q6) (λu8 s8 ⟨v8,H8,I8,r8,n8⟩=>?_) λ_ _ z=>yD z;obtain⟨m',hm,w8⟩:=hN _ _ n8;obtain⟨a1,a2,a3,a4,a5⟩:=after I8;have hsz:its.toArray.size<ww:=by rw[li,<- r3.length];exact hz
    refine EW wP ⟨_,a1,rfl⟩ Cn (Cb _ _) (Cm D its.toArray k u8 (by omega)) ⟨a1,?_⟩;have q9:=B_ a1 (λxs=>xs.push u8);have sb:zf D s8.heap (s8.heap.update D (zE λxs=>xs.push u8)):=zV ..;have I9:=a5.young sb a2 szD neDC clB (λp hp=>absurd hp (by show p∉[]++[];simp));have fin:∃k',(s8.heap.update D (zE λxs=>xs.push u8)).get? D=some {cls:=.type "list",data:=.seq (its++[u8]).toArray k'}:=⟨_,by
     rw[show(its++[u8]).toArray=its.toArray.push u8 by simp];exact q9⟩
    obtain⟨k',fin⟩:=fin;exact⟨m',hm,i+1,ys++[v8],its++[u8],k',H8,I9,T.keep _ _ _ a3 (λb hb o e=>(sb.2 b (fpD b hb).1).trans e),a4,a2,r3.append (.cons r8 .nil),fin,w8⟩
   ·exact yJ (hr s2 H2 C fp (.ref D) I2 f2 szC _ s6 σ6 H6 (λ_ _=>False) (I6.wish _) q6) (λ_ _ ⟨_,_,_,_,z⟩=>yD z) λ_ _ z=>z
 exact Eb (loop _ rfl) (T.self _ 0 _ _ _ (T.keep 0 _ _ st2 λb hb o e=>keep1 b o e) (loop _ rfl))
theorem lK {R:VK}{elt tg iter:Expr}{scope:zA}{pos pos' spos:Pos}{x:Str}(own:List Str)(js:List Nat){wi:TI}{g:TG}{te:TE}{tr:TS}
  (hc:X.calm=true) (B:Blk X scope own js) (hit:PI X.nox tg iter wi)
  (hg:∀s H C fp,(own++capN X.N js).Nodup->PG (blk X scope (own++capN X.N js) s H C fp) tg g) (he:∀s H C fp,PE (blk X scope (own++capN X.N js) s H C fp) elt te)
  (hr:∀D:Ends,D.rt=R->∀use Q s H C fp acc pins σ,Inv X pins σ H s->(∀b∈fp,FpOk X pins H b)->s.heap.objs.size<=C->PE ((blkC X scope (own++capN X.N js) s H C fp).wish (X.zb (blkC X scope (own++capN X.N js) s H C fp).env use Q acc C)) elt (λσ H _=>tr D σ H))
  (hw:AJ (.ListComp elt [⟨tg,iter,[],0⟩] scope pos) (some (.Name x pos')) spos.line X.env=pure true:=by rfl)
  (hs:∀x,z9 iter X.env x=pure x:=by intro _;rfl) :
  PSr X R (.Assign [.Name x pos'] (.ListComp elt [⟨tg,iter,[],0⟩] scope pos) spos) (λD σ H=>wi σ H λJ H1=>r_ J own.length js g te (tr D) σ H1):=by
 intro pins s σ H D e I h;have hcl:CJ scope X.env=pure (fg scope X.env):=eV λx hx hf=>I.ok.has x.1 (B.free x hx hf);rw[Es _ _ _ _ hw];refine bn (Ax (bn ?_));show o0 _ X.A (do let _ <- comprehension (.ListComp elt [⟨tg,iter,[],0⟩] scope pos) scope X.env _ (E9 []) false (eval iter X.env) (some (BJ (.Name x pos') X.env))) _ _ s;refine bn (thn (Q:=λ_ _=>False) (BH (use:=some (BJ (.Name x pos') X.env)) rfl hs hcl B.kind B.names (yJ (hit pins s σ H _ (I.wish _) h) (λv s1 h1=>yJ h1 (λitv s2 h2=>?_) λ_ _ z=>yD z) λ_ _ z=>yD z)) λ_ s' q=>q.elim);obtain⟨it,fp,tn,J,H2,e2,I2w,T,st2,f2,W⟩:=h2;exact nG (RR:=λacc C=>EB (sK X.prog X.w) X.A X.xe (some (BJ (.Name x pos') X.env)) (λ_ _=>False) acc C) hc B.c (λs H C fp nd=>by rw[ir B];exact hg s H C fp nd) (λs H C fp=>by rw[ir B];exact he s H C fp)
  (λs H C fp acc I f2 sz=>hr D e _ _ s H C fp acc pins σ I f2 sz) ⟨it,fp,tn,J,H2,e2,I2w.unwish,T,st2,f2,W⟩
theorem wD {E:XK}{Cl:Addr}{fn:Option Str}{K:ac}{S:ASp}{k:Nat}{x:Str}{ps:List Str}{p cpos:Pos}{e:Expr}{es:List Expr}{t:TA}{D:Ends}(eD:D.rt=XW E Cl fn)(F:OkX X.prog X.w X.K X.mg X.base k x ps Cl fn (spA K S))(hr:Room k X.A)(hx:gW (CX1 X.prog X.w) X E)(ha:PA X.nox (e::es) t)(hg:Gl X x:=by rfl)
  (hdb:(x==("__debug__" : Str))=false:=by decide) (he:yu (e::es) X.env=(false,eval e X.env)::yu es X.env:=by rfl) (hpl:(Al cpos (yu es X.env)).any (·.1)=false:=by rfl) :
  PE X (.Call (.Name x p) (e::es) [] cpos) (λσ H _=>tRet (kE (spA K S) [] E0 t) D σ H):=by
 obtain⟨f,fd,hm,hk,hb,F⟩:=F.ex;intro pins s σ H Q I h;have pe:=kN (p:=p) (sp:=spX Cl fn (spA K S)) (E:=E) F hr hg hm hk hb .nil hx ha.nox hdb he hpl;have h':kE (spX Cl fn (spA K S)) [] E t σ H λ_ _=>False:=by
  have h2:t σ H λvs H1=>spA K S (vs++[]) H1 D.rt E0:=h;rw[eD]at h2;exact h2
 exact yJ (pe pins s σ H _ I h') (λ_ _ ⟨_,_,_,_,z⟩=>z.elim) λ_ _ z=>z
end
def jA (n:Nat)(js:List Nat)(c:En->Prop)(g:AG)(te tr:AE)(rt:R->En->Prop):List D->List D->En->Prop
 | [],_,_=>False
 | d::ds,acc,ρ=>c ρ/\g d (blkE n js ρ) λρ1=>(te ρ1 λr ρ3=>sto [r.frz] ρ3 λes ρ4=>jA n js c g te tr rt ds (acc++es) (back ρ (js.map R.o) (ρ4.drop n)))∨tr ρ1 λr ρ3=>∃d,r = .d d/\rt (.d d) (back ρ (js.map R.o) (ρ3.drop n))
def wc (n:Nat)(js:List Nat)(wi:TI)(g:TG)(te tr:TE):TS:=λD σ H=>wi σ H λJ H1=>r_ J n js g te (λσ H=>tr σ H λv H'=>D.rt v H') σ H1
def xD (n:Nat)(js:List Nat)(i:AI)(g:AG)(te tr:AE):AS:=λe ρ=>i ρ λds c ρ1=>ds.length<=1000000/\jA n js c g te tr e.rt ds [] ρ1
section
variable {K:ac}
theorem lH {pr:Nat->Bool}{n:Nat}{js:List Nat}{wi:TI}{g:TG}{te tr:TE}{ai:AI}{ag:AG}{ate aR:AE}(hi:TIok K (λ_=>true) wi ai)(hg:TGok K (λj=>decide (n<=j)) g ag)(he:TEok K te ate)(hR:TEok K tr aR)
  (hd:dis (js.map R.o)=true:=by rfl):TSok K pr (wc n js wi g te tr) (xD n js ai ag ate aR):=by
 intro F σ ρ H D e hp r h ok;refine hi F σ ρ H _ _ r h λds c ρ1 J H1 h1 r1 k1 wk=>?_;obtain⟨hz,h1⟩:=h1;have hd':dis (blkR n js)=true:=by rw[lp];exact hd
 refine⟨λi m ys H'=>∃ ρ' acc,m=ds.length - i/\i<=ds.length/\Rel K F σ ρ' H'/\Kp σ ρ1 ρ' H1 H'/\RepDs K (hid H' (hs F σ ρ')) ys acc/\acc.length<=i/\jA n js c ag ate aR e.rt (ds.drop i) acc ρ',⟨ds.length,ρ1,[],rfl,yz _,r1,.refl,.nil,yz _,h1⟩,?_⟩;rintro i m ys H' ⟨ρ',acc,rfl,hl,r',k',rd,al,h'⟩;have w:c ρ'->WkAt K (hs F σ ρ') H' J ds:=λhc=>wk σ ρ' H' k'.vis r'.sl (λ_ _ _ e=>e) (λa z=>sY r' z) hc;have yl:ys.length=acc.length:=rd.length;rcases pp i ds.length with lt | ge
 ·skip
  rw[zr lt]at h';unfold jA at h';obtain⟨hcc,h'⟩:=h';obtain⟨go,yld⟩:=(w hcc i).1 ds[i] (bv lt);refine⟨go,iT (by omega),λzs H2=>∃ ρ2 acc2,Rel K F σ ρ2 H2/\Kp σ ρ1 ρ2 H1 H2/\RepDs K (hid H2 (hs F σ ρ2)) zs acc2/\acc2.length<=i+1/\jA n js c ag ate aR e.rt (ds.drop (i+1)) acc2 ρ2,
   λzs H2 ⟨ρ2,acc2,a1,a2,a3,a4,a5⟩=>⟨ds.length - (i+1),by omega,ρ2,acc2,rfl,lt,a1,a2,a3,a4,a5⟩,λx H2 hy=>?_⟩
  obtain⟨sm,rx⟩:=yld x H2 hy;have r0':=r';have k':Kp σ ρ1 ρ' H1 H2:=k'.trans ⟨λa o e _=>sm a o e,λ_ h=>h⟩;have rd:RepDs K (hid H2 (hs F σ ρ')) ys acc:=rd.same (bT λa o e n=>⟨sm a o e,n⟩);have r':=r0'.grow sm;have src:=oS (K:=K) (F:=F) (σ:=σ) (ρ:=ρ') (H:=H2) n js;have rb:=r'.sub src hd';have hs2:=qe r' src;rw[cQ]at rb hs2;have pin:∀i a,(fS F σ ρ' H2 (bst n σ js) (blkE n js ρ')).pin i a->decide (n<=i)=true:=λi a h=>by
   rcases h with h | h
   ·exact decide_eq_true (oU h.1)
   ·exact h.elim
  have hlen:(bst n σ js).length=n+js.length:=jF;have ret:∀ σ2 ρ2 H3,Rel K (fS F σ ρ' H2 (bst n σ js) (blkE n js ρ')) σ2 ρ2 H3->σ2.length=(bst n σ js).length->σ2.drop n=capt σ js->(∀i,(gt ρ2 i).own=true->(gt (blkE n js ρ') i).own=true) ->
    Rel K F σ (back ρ' (js.map R.o) (ρ2.drop n)) H3/\Kp σ ρ' (back ρ' (js.map R.o) (ρ2.drop n)) H2 H3/\Same (hid H3 (hs (fS F σ ρ' H2 (bst n σ js) (blkE n js ρ')) σ2 ρ2)) (hid H3 (hs F σ (back ρ' (js.map R.o) (ρ2.drop n)))):=λσ2 ρ2 H3 rr hlen2 hdrop hown=>by
   obtain⟨f1,f2⟩:=rr.forget (n:=n) (by omega) λi a h=>of_decide_eq_true (pin i a h)
   rw[hdrop]at f1 f2;have f1':Rel K (fS F σ ρ' H2 (bst n σ js) ((blkR n js).map (cI ρ'))) (bst n σ js) (pc n .un++ρ2.drop n) H3:=by rw[cQ];exact f1
   have bk:=r'.back src hd' f1' λi hi=>by
    rw[cQ];rw[oG]at hi;split at hi
    ·cases hi
    ·rename_i hni;rw[k6,show n+(i - n)=i by omega]at hi;exact hown i hi
   have ln:(pc n Sv.un++ρ2.drop n).length=n+js.length:=by
    have:=rr.len;simp;omega
   rw[mx js ρ' n _ ln,BN (by simp),cQ]at bk;exact⟨bk.1,bk.2.1,f2.trans bk.2.2⟩
  refine hg _ (bst n σ js) (blkE n js ρ') H2 x _ _ _ pin rb (by rw[hs2];exact rx) h' λσ2 ρ2 h2 r2 l2 p2 o2=>?_;have hdrop:σ2.drop n=capt σ js:=by
   have:σ2.drop n=(bst n σ js).drop n:=by
    apply Bs;intro i;rw[zI,zI];exact p2 (n+i) (decide_eq_true (by omega))
   rw[this];unfold bst;rw[BN (by simp)]
  refine⟨hdrop,?_⟩;rcases h2 with h2 | h2
  ·refine .inl (he _ σ2 ρ2 H2 _ _ r2 h2 λr4 ρ4 v H4 h4 o4=>?_);obtain⟨r4',k4,i4⟩:=o4.inF;obtain⟨d,ρ5,h5,r5,k5,rv⟩:=qf r4' i4 h4;obtain⟨b1,b2,b3⟩:=ret σ2 ρ5 H4 r5 l2 hdrop λi hi=>(o2 i (k4.sb i (k5.sb i hi))).1
   exact⟨_,acc++[d],b1,k'.trans b2,(rd.same b2.vis).append (.one (rv.same b3)),by simp;omega,h5⟩
  ·refine .inr (hR _ σ2 ρ2 H2 _ _ r2 h2 λr4 ρ4 v H4 h4 o4=>?_);obtain⟨d,rfl,h4⟩:=h4;obtain⟨r4',k4,rv⟩:=o4;obtain⟨b1,b2,b3⟩:=ret σ2 ρ4 H4 r4' l2 hdrop λi hi=>(o2 i (k4.sb i hi)).1
   exact ok.rt _ _ _ v _ h4 ⟨b1,rv.same b3⟩
 ·rw[zD ge]at h';exact h'.elim
end
theorem j6 {n:Nat}{js:List Nat}{c:En->Prop}{g:AG}{te tr:AE}{rt:R->En->Prop}(I:Nat->List D->En->Prop){ds:List D}(hc:∀k acc ρ,I k acc ρ->c ρ)
  (hs:∀(k:Nat) d acc ρ (N:List D->En->Prop),ds[k]? = some d->I k acc ρ->(∀acc' ρ',I (k+1) acc' ρ'->N acc' ρ') ->
   g d (blkE n js ρ) λρ1=>(te ρ1 λr ρ3=>sto [r.frz] ρ3 λes ρ4=>N (acc++es) (back ρ (js.map R.o) (ρ4.drop n)))∨tr ρ1 λr ρ3=>∃d,r = .d d/\rt (.d d) (back ρ (js.map R.o) (ρ3.drop n)))
  (hd:∀acc ρ,¬I ds.length acc ρ):∀ ρ,I 0 [] ρ->jA n js c g te tr rt ds [] ρ:=by
 have go:∀(es:List D) (k:Nat),ds.drop k=es->k<=ds.length->∀acc ρ,I k acc ρ->jA n js c g te tr rt es acc ρ:=by
  intro es;induction es with
  | nil =>
   intro k h hk acc ρ i;have:k=ds.length:=by
    have:=congrArg DD h;rw[Cz]at this;simp at this;omega
   subst this;exact absurd i (hd acc ρ)
  | cons d es ih =>
   intro k h hk acc ρ i;have hd':ds[k]? = some d:=by
    have:(ds.drop k)[0]? = some d:=by rw[h];rfl
    rwa [zI,Bh]at this
   have lt:=(kt.mp hd').1;refine⟨hc k acc ρ i,hs k d acc ρ _ hd' i λacc' ρ' i'=>ih (k+1) ?_ lt acc' ρ' i'⟩;rw[<- List.drop_drop,h];rfl
 exact λρ i=>go ds 0 rfl (yz _) [] ρ i
end L2
namespace K46
open PySem PySem.Spec PyProof.Rows L2
def top (i:Nat):Stmt:=PySem.Challenge.pw_fewjoins_k46_whole_turned_behind_one_ano.main.body.getD i (.Pass ⟨0,0,0,0⟩)
abbrev cF:Stmt:=xu (top 4)
theorem o8:bG ["self", "at"] ["self", "at"] (aM cF):=⟨rfl,rfl,rfl,by decide +kernel,rfl,by decide +kernel,by decide +kernel⟩
abbrev dP:Stmt:=xu (top 5)
theorem qm:bG ["self", "thing"] ["self", "thing"] (aM dP):=⟨rfl,rfl,rfl,by decide +kernel,rfl,by decide +kernel,by decide +kernel⟩
abbrev kI:Stmt:=top 8
abbrev qP:List Str:=["one", "other"]
theorem qo:bG qP ["one", "other"] (aM kI):=⟨rfl,rfl,rfl,by decide +kernel,rfl,by decide +kernel,by decide +kernel⟩
abbrev fL:Stmt:=top 12
abbrev jn:List Str:=["many"]
theorem mJ:bG jn ["many"] (aM fL):=⟨rfl,rfl,rfl,by decide +kernel,rfl,by decide +kernel,by decide +kernel⟩
abbrev iY:Stmt:=top 13
abbrev pD:List Str:=["one", "other"]
theorem pb:bG pD ["one", "other"] (aM iY):=⟨rfl,rfl,rfl,by decide +kernel,rfl,by decide +kernel,by decide +kernel⟩
abbrev gh:Stmt:=top 14
abbrev lR:List Str:=["net", "words", "many", "joins", "outs", "told", "a", "b"]
theorem cu:bG lR ["net", "words"] (aM gh):=⟨rfl,rfl,rfl,by decide +kernel,rfl,by decide +kernel,by decide +kernel⟩
abbrev fK:Stmt:=top 15
abbrev jm:List Str:=["net", "words", "many", "joins", "outs", "told"]
theorem dE:bG jm ["net", "words"] (aM fK):=⟨rfl,rfl,rfl,by decide +kernel,rfl,by decide +kernel,by decide +kernel⟩
abbrev iW:Stmt:=top 16
abbrev pB:List Str:=["net"]
theorem o9:bG pB ["net"] (aM iW):=⟨rfl,rfl,rfl,by decide +kernel,rfl,by decide +kernel,by decide +kernel⟩
abbrev iX:Stmt:=top 17
abbrev pC:List Str:=["net"]
theorem o_:bG pC ["net"] (aM iX):=⟨rfl,rfl,rfl,by decide +kernel,rfl,by decide +kernel,by decide +kernel⟩
abbrev eL:Stmt:=top 19
abbrev lQ:List Str:=["net", "other", "many", "joins", "outs", "others", "other_joins", "other_outs", "things", "added"]
theorem a_:bG lQ ["net", "other"] (aM eL):=⟨rfl,rfl,rfl,by decide +kernel,rfl,by decide +kernel,by decide +kernel⟩
abbrev cy:Stmt:=top 20
abbrev gM:List Str:=["many", "joins", "outs"]
theorem dQ:bG gM ["many", "joins", "outs"] (aM cy):=⟨rfl,rfl,rfl,by decide +kernel,rfl,by decide +kernel,by decide +kernel⟩
abbrev cS:Stmt:=top 21
abbrev iB:List Str:=["rows", "added", "told", "at", "a", "b"]
theorem bA:bG iB ["rows", "added"] (aM cS):=⟨rfl,rfl,rfl,by decide +kernel,rfl,by decide +kernel,by decide +kernel⟩
abbrev dY:Stmt:=top 22
abbrev jq:List Str:=["first", "joins"]
theorem iV:bG jq ["first", "joins"] (aM dY):=⟨rfl,rfl,rfl,by decide +kernel,rfl,by decide +kernel,by decide +kernel⟩
abbrev dR:Stmt:=top 23
abbrev gL:List Str:=["joins", "things"]
theorem kH:bG gL ["joins", "things"] (aM dR):=⟨rfl,rfl,rfl,by decide +kernel,rfl,by decide +kernel,by decide +kernel⟩
abbrev b_:Stmt:=top 25
abbrev dy:List Str:=["net", "many", "joins", "outs", "uses", "rows", "made", "at", "a", "b", "got", "turned"]
theorem aF:bG dy ["net"] (aM b_):=⟨rfl,rfl,rfl,by decide +kernel,rfl,by decide +kernel,by decide +kernel⟩
abbrev fM:Stmt:=top 26
abbrev jo:List Str:=["net", "many", "joins", "outs", "uses", "place", "out"]
theorem cK:bG jo ["net"] (aM fM):=⟨rfl,rfl,rfl,by decide +kernel,rfl,by decide +kernel,by decide +kernel⟩
abbrev cT:Stmt:=top 27
abbrev jM:List Str:=["thing", "uses", "rows", "made", "got", "use"]
theorem bB:bG jM ["thing", "uses", "rows", "made"] (aM cT):=⟨rfl,rfl,rfl,by decide +kernel,rfl,by decide +kernel,by decide +kernel⟩
abbrev gY:Stmt:=top 29
abbrev m4:List Str:=["_law_script"]
theorem mK:bG m4 ["_law_script"] (aM gY):=⟨rfl,rfl,rfl,by decide +kernel,rfl,by decide +kernel,by decide +kernel⟩
abbrev gZ:Stmt:=top 30
abbrev m5:List Str:=["_law_tape_here", "_law_many", "_law_found", "_law_spot", "_law_cells", "_law_cell", "_law_seed"]
theorem cL:bG m5 ["_law_tape_here", "_law_many"] (aM gZ):=⟨rfl,rfl,rfl,by decide +kernel,rfl,by decide +kernel,by decide +kernel⟩
abbrev cm:Stmt:=top 31
abbrev cW:List Str:=["_law_tape_here", "_law_many", "_law_clean", "_law_rows", "_law_joins", "_law_turn", "_law_a", "_law_b", "_law_taken", "_law_outs"]
theorem bz:bG cW ["_law_tape_here", "_law_many", "_law_clean"] (aM cm):=⟨rfl,rfl,rfl,by decide +kernel,rfl,by decide +kernel,by decide +kernel⟩
abbrev fq:Stmt:=top 32
abbrev kX:List Str:=["_law_net", "_law_other", "_law_found"]
theorem cx:bG kX ["_law_net", "_law_other"] (aM fq):=⟨rfl,rfl,rfl,by decide +kernel,rfl,by decide +kernel,by decide +kernel⟩
abbrev fo:Stmt:=top 33
abbrev kW:List Str:=["_law_net", "_law_found"]
theorem cw:bG kW ["_law_net"] (aM fo):=⟨rfl,rfl,rfl,by decide +kernel,rfl,by decide +kernel,by decide +kernel⟩
abbrev sA:Stmt:=top 34
abbrev uf:List Str:=["_law_script", "_law_tape_here", "_law_turn", "_law_clean", "_law_net", "_law_other", "_law_both", "_law_words", "_law_first", "_law_second", "_law_whole", "_law_found"]
theorem e_:bG uf ["_law_script"] (aM sA):=⟨rfl,rfl,rfl,by decide +kernel,rfl,by decide +kernel,by decide +kernel⟩
section
variable {P:wl}{w:yF}{K:ac}{mg:Str->Option bd}{base:Heap}
theorem mY (D:DefN K mg "_law_tape" gY ["_law_script"])(B:BI mg):OkN P w K mg base 1 "_law_tape" ["_law_script"] (spA K vM):=by
 refine OkN.imp (sp:=qg K) ?_ uP;refine D.ok mK (λvs H Q E h=>?_) (λf cdv A outer s H vs Q E hr h=>?_)
 ·obtain⟨a,ns,rfl,_⟩:=h;rfl
 ·obtain⟨a,ns,rfl,hS,k⟩:=h;refine⟨_,(aW (cv (va (kM dj (gB (gA K) (pv 0) i9 (g6 bt)) (kM dj bt (kM dj bt u7))) rfl rfl (by simp) (by decide)))),?_⟩;intro t ht;have s0:Same H (upd H t (.dK [])):=(Same.refl H).new ht;refine⟨_,rfl,63,rfl,a,_,rfl,s0.seq hS,λl hl=>?_⟩;have ntl:t≠l:=bD bh hl;refine⟨by rw[aU ntl,bh],[(Sum.inr ("cells" : Str),V.ref l),(Sum.inr ("spot" : Str),V.int 0),(Sum.inr ("left" : Str),V.int 0)],rfl,(by show 3<=15;decide),?_⟩;rw[p_];have fin:=k t l ht (s0.free hl) ntl;have eq:upd (upd (upd H t (.dK [])) l (.lst (cutV (ns.map V.int) none (some 63)))) t (.dK (cE l 0 0))=upd (upd H l (.lst ((ns.take 63).map V.int))) t (.dK (cE l 0 0)):=by
   rw[xZ];funext b;unfold upd;by_cases h1:b=t
   ·rw[if_pos h1,if_pos h1]
   ·rw[if_neg h1,if_neg h1,if_neg h1]
  rw[eq];exact fin
theorem mZ (D:DefN K mg "_law_draw" gZ ["_law_tape_here", "_law_many"])(B:BI mg):OkN P w K mg base 1 "_law_draw" ["_law_tape_here", "_law_many"] (spA K tO):=by
 refine OkN.imp (sp:=qh K) ?_ vD;refine D.ok cL (λvs H Q E h=>?_) (λf cdv A outer s H vs Q E hr h=>?_)
 ·obtain⟨t,c,m,sp,lf,ns,n,rfl,_⟩:=h;rfl
 ·obtain⟨t,c,m,sp,lf,ns,n,rfl,hT,hC,h1,h2,h3,hn,hm,k⟩:=h;have hu:=cR hr;have hm0:=hm.1;have gl:DGet H t (kV (Sum.inr "left")) (some (.int lf)):=by rw[<- qa (c:=c) (sp:=sp)];exact DGet.k hT
  have gs:DGet H t (kV (Sum.inr "spot")) (some (.int sp)):=by rw[<- p9 (c:=c) (lf:=lf)];exact DGet.k hT
  have gc:DGet H t (kV (Sum.inr "cells")) (some (.ref c)):=by rw[<- jU (sp:=sp) (lf:=lf)];exact DGet.k hT
  refine⟨_,(aJ (gi (br fU (jb hu (pv 0) dj (λ_ _=>rfl)) bt (bM _))
   (aJ (bg (i:=2) cL.nd rfl (by first | exact Or.inl rfl | exact Or.inr rfl) (bE je (jb hu (pv 0) dj (λ_ _=>rfl)) (pv 1)))
   (aJ (i8 hu (pv 0) dj (bE kQ (jb hu (pv 0) dj (λ_ _=>rfl)) (pv 1)) rfl)
   (aW (cv (pv 2)))))
   cM)
   (aJ (bg (i:=3) cL.nd rfl (by first | exact Or.inl rfl | exact Or.inr rfl) (jb hu (pv 0) dj (λ_ _=>rfl)))
   (aJ (i8 hu (pv 0) dj (bE cf (pv 3) bt) rfl)
   (aJ (bg (i:=4) cL.nd rfl (by first | exact Or.inl rfl | exact Or.inr rfl) (jb hu (pv 0) dj (λ_ _=>rfl)))
   (aJ (bg (i:=5) cL.nd rfl (by first | exact Or.inl rfl | exact Or.inr rfl) bt)
   (aJ (gi (br fU (aS (aP K) rfl B.len_ bC (aj (pv 4) ar)) bt (bM _))
   (aW (bg (i:=5) cL.nd rfl (by first | exact Or.inl rfl | exact Or.inr rfl) (bK (aT K) (pv 4) (bE je (pv 3) (aS (aP K) rfl B.len_ bC (aj (pv 4) ar))) (λ_ _=>rfl))))
   cM)
   (aJ (gi (PW.pt (n5 (br xT (pv 5) (bE om bt bt) (bM _)) (mO (br xS (pv 3) (aS (aP K) rfl B.len_ bC (aj (pv 4) ar)) (bM _)))))
   (aJ (i8 hu (pv 0) dj (bE kQ (bE gF (pv 5) (bE om bt bt)) (pv 1)) rfl)
   (aW (cv (bE je (bE gF (pv 5) (bE om bt bt)) (pv 1)))))
   cM)
   (aJ (bg (i:=6) cL.nd rfl (by first | exact Or.inl rfl | exact Or.inr rfl) (bE je (bE lO (bE cf (bE cf (bE cf (bE je (pv 5) bt) (bE lO (bE lO bt (pv 3)) (pv 3))) (bE lO bt (pv 3))) bt) bt) bt))
   (aW (cv (bE je (bE kQ (bE je (bE lO (pv 6) (bE cf (pv 6) bt)) bt) bt) (pv 1)))))))))))),?_⟩
  refine⟨_,rfl,t,_,rfl,gl,_,_,rfl,rfl,_,rfl,ite2 (λhl=>?_) λhl=>?_⟩
  ·refine⟨_,rfl,t,_,rfl,gl,_,rfl,_,_,rfl,rfl,hm0,?_⟩;refine⟨_,rfl,t,_,rfl,gl,_,rfl,_,_,rfl,rfl,hm,_,rfl,t,_,rfl,DPut.k (k:=Sum.inr "left") hT (gy (by show 3<=1000;decide)),_,rfl,?_⟩;rw[kK];exact drawn (Q:=λz H=>Q (.int z) H) hm0 λr hr=>k r _ _ hr h1 (by omega) (C2 h3 (Cu hm0))
  ·refine⟨_,rfl,t,_,rfl,gs,?_⟩;refine⟨_,rfl,_,_,rfl,rfl,_,rfl,t,_,rfl,DPut.k (k:=Sum.inr "spot") hT (gy (by show 3<=1000;decide)),?_⟩;rw[sI];have hT1:(upd H t (.dK (cE c (sp+1) lf))) t=some (.dK (cE c (sp+1) lf)):=bh;have hC1:SqL K (upd H t (.dK (cE c (sp+1) lf))) c (ns.map V.int):=Grow.seq (Grow.refl.upd _) hT hC;have gr1:Grow t H (upd H t (.dK (cE c (sp+1) lf))):=Grow.refl.upd _;have gc1:DGet (upd H t (.dK (cE c (sp+1) lf))) t (kV (Sum.inr "cells")) (some (.ref c)):=by rw[<- jU (sp:=sp+1) (lf:=lf)];exact DGet.k hT1
   have kk:∀(r:Nat) (lf':Int),(r:Int)<m->0<=lf'->Q (.int (r:Nat)) (upd (upd H t (.dK (cE c (sp+1) lf))) t (.dK (cE c (sp+1) lf'))):=λr lf' hr hl=>by rw[uE];exact k r _ _ hr (by omega) (by omega) hl
   have kl:∀(r:Nat),(r:Int)<m->Q (.int (r:Nat)) (upd H t (.dK (cE c (sp+1) lf))):=λr hr=>k r _ _ hr (by omega) (by omega) h3;generalize upd H t (.dK (cE c (sp+1) lf))=H1 at hT1 hC1 gr1 gc1 kk kl ⊢;refine⟨_,rfl,t,_,rfl,gc1,?_⟩;have p18:(10:Int)^(18:Int).toNat=1000000000000000000:=by decide
   have fits:CPow 10 18:=⟨by decide,by decide,by decide⟩
   have pos1:(0:Int)<2147483629:=by decide
   have pos2:(0:Int)<2147483647:=by decide
   have spOk:-(2^64)<sp/\sp<2^64:=by omega
   refine⟨_,rfl,c,_,rfl,.inl hC1,_,_,rfl,rfl,_,rfl,ite2 (λhl=>?_) λhl=>?_⟩
   ·have hl':0<ns.length:=by
     have:=of_decide_eq_true hl;rw[db]at this;omega
    have el:((ns.map V.int).length:Int)=ns.length:=by rw[db]
    have hb0:0<=sp % ((ns.map V.int).length:Int):=EO _ (by omega);have hb1:sp % ((ns.map V.int).length:Int)<((ns.map V.int).length:Int):=El _ (by omega);obtain⟨j,hj⟩:=BE hb0;have hj':j<ns.length:=by rw[hj]at hb1;omega
    refine⟨_,rfl,_,rfl,_,rfl,c,_,rfl,.inl hC1,_,_,rfl,rfl,(by show(0:Int)<((ns.map V.int).length:Int);omega),.inl ⟨c,_,_,V.int ns[j],rfl,rfl,hC1,?_,?_⟩⟩
    ·rw[hj];exact lq (by simp[hj'])
    ·generalize ns[j]=z;refine⟨_,rfl,_,_,rfl,rfl,fits,_,_,rfl,rfl,_,rfl,ite2 (λhz=>?_) λhz=>?_⟩
     ·refine⟨_,rfl,_,rfl,c,_,rfl,.inl hC1,_,_,rfl,rfl,_,rfl,ite2 (λhs=>?_) λhs=>?_⟩
      ·refine⟨_,rfl,_,_,rfl,rfl,fits,_,_,rfl,rfl,_,rfl,_,_,rfl,rfl,hm,_,rfl,t,_,rfl,DPut.k (k:=Sum.inr "left") hT1 (gy (by show 3<=1000;decide)),?_⟩;rw[kK];refine⟨_,rfl,_,_,rfl,rfl,fits,_,_,rfl,rfl,_,rfl,_,_,rfl,rfl,hm0,?_⟩;refine drawn (Q:=λz H=>Q (.int z) H) hm0 λr hr=>kk r _ hr (C2 ?_ (Cu hm0));have hz':=of_decide_eq_true hz;rw[p18]at hz' ⊢;omega
      ·refine⟨_,rfl,_,_,rfl,rfl,pos1,_,rfl,_,_,rfl,rfl,.inl ⟨by decide,by decide⟩,_,rfl,_,_,rfl,rfl,.inr spOk,_,_,rfl,rfl,_,rfl,_,_,rfl,rfl,.inl ⟨by decide,by decide⟩,_,_,rfl,rfl,_,_,rfl,rfl,_,_,rfl,rfl,.inr ⟨by decide,by decide⟩,_,_,rfl,rfl,pos2,?_⟩;refine⟨_,rfl,_,rfl,_,_,rfl,rfl,_,_,rfl,rfl,.inl nY,_,_,rfl,rfl,pos1,_,_,rfl,rfl,dv64,_,rfl,_,_,rfl,rfl,hm0,?_⟩;exact drawn (Q:=λz H=>Q (.int z) H) hm0 λr hr=>kl r hr
     ·refine⟨_,rfl,_,_,rfl,rfl,pos1,_,rfl,_,_,rfl,rfl,.inl ⟨by decide,by decide⟩,_,rfl,_,_,rfl,rfl,.inr spOk,_,_,rfl,rfl,_,rfl,_,_,rfl,rfl,.inl ⟨by decide,by decide⟩,_,_,rfl,rfl,_,_,rfl,rfl,_,_,rfl,rfl,.inr ⟨by decide,by decide⟩,_,_,rfl,rfl,pos2,?_⟩;refine⟨_,rfl,_,rfl,_,_,rfl,rfl,_,_,rfl,rfl,.inl nY,_,_,rfl,rfl,pos1,_,_,rfl,rfl,dv64,_,rfl,_,_,rfl,rfl,hm0,?_⟩;exact drawn (Q:=λz H=>Q (.int z) H) hm0 λr hr=>kl r hr
   ·refine⟨_,rfl,_,_,rfl,rfl,fits,_,_,rfl,rfl,_,rfl,ite2 (λhz=>?_) λhz=>?_⟩
    ·refine⟨_,rfl,_,rfl,c,_,rfl,.inl hC1,_,_,rfl,rfl,_,rfl,ite2 (λhs=>?_) λhs=>?_⟩
     ·refine⟨_,rfl,_,_,rfl,rfl,fits,_,_,rfl,rfl,_,rfl,_,_,rfl,rfl,hm,_,rfl,t,_,rfl,DPut.k (k:=Sum.inr "left") hT1 (gy (by show 3<=1000;decide)),?_⟩;rw[kK];refine⟨_,rfl,_,_,rfl,rfl,fits,_,_,rfl,rfl,_,rfl,_,_,rfl,rfl,hm0,?_⟩;refine drawn (Q:=λz H=>Q (.int z) H) hm0 λr hr=>kk r _ hr (C2 ?_ (Cu hm0));have hz':=of_decide_eq_true hz;rw[p18]at hz' ⊢;omega
     ·refine⟨_,rfl,_,_,rfl,rfl,pos1,_,rfl,_,_,rfl,rfl,.inl ⟨by decide,by decide⟩,_,rfl,_,_,rfl,rfl,.inr spOk,_,_,rfl,rfl,_,rfl,_,_,rfl,rfl,.inl ⟨by decide,by decide⟩,_,_,rfl,rfl,_,_,rfl,rfl,_,_,rfl,rfl,.inr ⟨by decide,by decide⟩,_,_,rfl,rfl,pos2,?_⟩;refine⟨_,rfl,_,rfl,_,_,rfl,rfl,_,_,rfl,rfl,.inl nY,_,_,rfl,rfl,pos1,_,_,rfl,rfl,dv64,_,rfl,_,_,rfl,rfl,hm0,?_⟩;exact drawn (Q:=λz H=>Q (.int z) H) hm0 λr hr=>kl r hr
    ·refine⟨_,rfl,_,_,rfl,rfl,pos1,_,rfl,_,_,rfl,rfl,.inl ⟨by decide,by decide⟩,_,rfl,_,_,rfl,rfl,.inr spOk,_,_,rfl,rfl,_,rfl,_,_,rfl,rfl,.inl ⟨by decide,by decide⟩,_,_,rfl,rfl,_,_,rfl,rfl,_,_,rfl,rfl,.inr ⟨by decide,by decide⟩,_,_,rfl,rfl,pos2,?_⟩;refine⟨_,rfl,_,rfl,_,_,rfl,rfl,_,_,rfl,rfl,.inl nY,_,_,rfl,rfl,pos1,_,_,rfl,rfl,dv64,_,rfl,_,_,rfl,rfl,hm0,?_⟩;exact drawn (Q:=λz H=>Q (.int z) H) hm0 λr hr=>kl r hr
end
end K46
set_option maxHeartbeats 1000000
namespace K46
open PySem PySem.Spec PyProof.Rows L2
theorem uF {i j:Nat}{d1 d2:D}{ρ:En}{k:En->Prop}(h:k (pt (pt ρ i (.vl d1)) j (.vl d2))):pN 2 (gR (gb i) (gR (gb j) gaNil)) (.tup [d1,d2]) ρ k:=h
theorem gaN1 {i:Nat}{a:D}{ρ:En}{M:En->Prop}(h:M (pt ρ i (.vl a))):gb i a ρ M:=h
def cA (rs:List Nat)(js:List (Nat×Nat))(k:Nat):List Nat:=(js.take k).foldl aD rs
def ixOk (n:Nat)(js:List (Nat×Nat)):Prop:=∀i p,js[i]? = some p->p.1<n+i/\p.2<n+i
def unl (rs:List Nat)(js:List (Nat×Nat))(k:Nat):Prop:=∀i p,i<k->js[i]? = some p->(cA rs js i).getD p.1 0≠(cA rs js i).getD p.2 0
theorem jW (rs:List Nat)(js:List (Nat×Nat)){k:Nat}(h:k<=js.length):(cA rs js k).length=rs.length+k:=by
 unfold cA;rw[cb,yZ,zx h]
theorem l5 (a b:Nat):eqD (nD a) (nD b)=decide (a=b):=by
 unfold eqD;show decide ((a:Int)=(b:Int))=_;rw[decide_eq_decide];omega
theorem iZ {rs:List Nat}{js:List (Nat×Nat)}{k:Nat}{p:Nat×Nat}(h:js[k]? = some p):cA rs js (k+1)=aD (cA rs js k) p:=l4 h rs
def SNtN:ASp:=λss q=>∃(rs:List Nat) (js:List (Nat×Nat)),ss=[.vl (.lst (natsD rs)),.ow (js.map L2.pairD)]/\ixOk rs.length js/\rs.length+js.length<=1000/\unl rs js js.length/\q (.d .non) [.vl (.lst (natsD rs)),.ow (js.map L2.pairD)]
def SNtX:ASp:=λss q=>∃(rs:List Nat) (js:List (Nat×Nat)) (k:Nat) (p:Nat×Nat),ss=[.vl (.lst (natsD rs)),.ow (js.map L2.pairD)]/\ixOk rs.length js/\rs.length+js.length<=1000/\k<200/\js[k]? = some p/\unl rs js k/\(cA rs js k).getD p.1 0=(cA rs js k).getD p.2 0/\q (.d (nD k)) [.vl (.lst (natsD rs)),.ow (js.map L2.pairD)]
def tP:ASp:=λss q=>∃(N:Net) (ws:List Nat) (s1:Sv),ss=[.vl (netD N),s1]/\xa s1 (natsD ws)/\okIx ws.length N.js/\ws.length+N.js.length<=1000/\q (.f (natsD (N.js.foldl aD ws))) [.vl (netD N),s1]
def lu:ASp:=λss q=>∃(N:Net) (ws:List Nat) (s1:Sv),ss=[.vl (netD N),s1]/\xa s1 (natsD ws)/\okIx ws.length N.js/\ws.length+N.js.length<=1000/\N.os.length<=1000/\(∀o∈N.os,o<ws.length+N.js.length)/\q (.f (natsD (N.os.map λo=>(N.js.foldl aD ws).getD o 0))) [.vl (netD N),s1]
def tN:ASp:=λss q=>∃a b c:Nat,ss=[nv a,nv b,nv c]/\a<=12/\b<=132/\c<=24/\q (.d .non) [nv a,nv b,nv c]
def vN:ASp:=λss q=>∃a b c:Nat,ss=[nv a,nv b,nv c]/\¬(a<=12/\b<=132/\c<=24)/\q (.d .non) [nv a,nv b,nv c]
def SNum:ASp:=λss q=>∃(f:Nat) (ds:List D),ss=[nv f,.vl (.tup ds)]/\f<=1000/\ds.length<=1000/\q (.f (natsD ((ym ds.length).map λk=>f+k))) [nv f,.vl (.tup ds)]
def oW:ASp:=λss q=>∃(js:List (Nat×Nat)) (ts:List Nat),ss=[.vl (.tup (js.map pairD)),.ow (natsD ts)]/\js.length<=1000/\(∀p∈js,p.1<ts.length/\p.2<ts.length)/\q (.f ((js.map λp=>(min (ts.getD p.1 0) (ts.getD p.2 0),max (ts.getD p.1 0) (ts.getD p.2 0))).map pairD)) [.vl (.tup (js.map pairD)),.ow (natsD ts)]
theorem sF (f n:Nat):rngD ((f:Nat):Int) n=natsD ((ym n).map λk=>f+k):=by
 unfold rngD natsD;rw[zm];refine zj λk _=>?_;show D.int _=D.int _;congr 1
section
variable {P:wl}{w:yF}{K:ac}{mg:Str->Option bd}{base:Heap}
theorem qL (dn:DefN K mg "joined" kI ["one", "other"])(B:BI mg):OkN P w K mg base 1 "joined" ["one", "other"] (spA K fF):=by
 refine dn.aok2 (k:=0) qo (λj=>j==0||j==1) [] fF rfl (λf cdv A outer s H E hr=>have hu:=cR hr;⟨_,(aW (cv (bE t_ (pv 0) (pv 1)))),(bV (aG bj af af))⟩) ?_;rintro ss q ⟨x,y,rfl,hq⟩;refine⟨rfl,rfl,?_⟩;show q (.d (.int (A9 x y))) [nv x,nv y];rw[pS];exact hq
theorem mV (dn:DefN K mg "own_rows" fL ["many"])(B:BI mg):OkN P w K mg base 1 "own_rows" ["many"] (spA K SOwn):=by
 refine dn.aok2 (k:=0) mJ (λj=>j==0) [] SOwn rfl (λf cdv A outer s H E hr=>have hu:=cR hr;⟨_,(aW (cv (g7 ["given"] [] rfl (Blk.of (aM fL) jn) (di rfl B.range_ (aj (pv 0) ar)) (λ_ _ _ _ nd=>(aK (i:=0) nd rfl (by first | exact Or.inl rfl | exact Or.inr rfl))) (λ_ _ _ _=>eO) (λ_ _ _ _=>(bE ub bt (pv 0)))))),(bV (dw (dg (aa af aq)) (aA rfl) dN (aG mS be af)))⟩) ?_;rintro ss q ⟨m,rfl,hm,hq⟩;refine⟨rfl,rfl,⟨by omega,by omega⟩,by rw[cz];omega,?_⟩;refine mf (λk=>.int (1 <<< k:Nat)) trivial (λk acc N hk hN=>?_) ?_
 ·rw[Ct];refine⟨⟨by omega,by omega,by decide⟩,?_⟩;show N (acc++[.int ((1:Int)*2^((k:Int).toNat))]) _;rw[qk];exact hN
 ·rw[zM];have e:((ym m).map λk=>D.int (1 <<< k:Nat))=natsD (aO m):=by unfold aO natsD;rw[zm];rfl
  rw[e];exact hq
theorem lP (dn:DefN K mg "all_words" gh ["net", "words"])(B:BI mg)(gA8:OkN P w K mg base 1 "joined" ["one", "other"] (spA K fF)):OkN P w K mg base 2 "all_words" ["net", "words"] (spA K tP):=by
 refine dn.aok2 (k:=1) cu (λj=>j==0||j==1) [.un,.un,.un,.un,.un,.un] tP rfl (λf cdv A outer s H E hr=>have hu:=cR hr;⟨_,(aJ (dF (pv 0) (bJ K (n:=3) rfl (aI (aK (i:=2) cu.nd rfl (by first | exact Or.inl rfl | exact Or.inr rfl)) (aI (aK (i:=3) cu.nd rfl (by first | exact Or.inl rfl | exact Or.inr rfl)) (aI (aK (i:=4) cu.nd rfl (by first | exact Or.inl rfl | exact Or.inr rfl)) bI)))))
  (aJ (bg (i:=5) cu.nd rfl (by first | exact Or.inl rfl | exact Or.inr rfl) (cc (eI K) rfl B.list_ gn (aj (pv 1) ar)))
  (aJ (ia zR rfl (fu K (pv 3)) (bJ K (n:=2) rfl (aI (aK (i:=6) cu.nd rfl (by first | exact Or.inl rfl | exact Or.inr rfl)) (aI (aK (i:=7) cu.nd rfl (by first | exact Or.inl rfl | exact Or.inr rfl)) bI)))
  (aW (bX (da K wT wP wE bO (pv 5) (aj (bL gA8 (hr.mono (by decide)) (aj (bK (aT K) (pv 5) (pv 6) (λ_ _=>rfl)) (aj (bK (aT K) (pv 5) (pv 7) (λ_ _=>rfl)) ar))) ar)))))
  (aW (cv (pv 5)))))),(az (cH af (bw (aw (aA rfl) (aw (aA rfl) (aw (aA rfl) ba (λ_ _ _=>aQ)) (λ_ _ _=>aQ)) (λ_ _ _=>aQ))))
  (az (aZ (bc fD (aa af aq)) rfl)
  (az (dc (pin:=(λj=>j==3)) (dO af) (bw (aw (aA rfl) (aw (aA rfl) ba (λ_ _ _=>aQ)) (λ_ _ _=>aQ)))
  (cq (dC af (aa (aL (aa (aG bu af af) (aa (aG bu af af) aq))) aq))))
  (bV af))))⟩) ?_
 rintro ss q ⟨N,ws,s1,rfl,hs1,hix,hz,hq⟩;rcases hs1 with rfl | rfl;all_goals
  refine⟨rfl,rfl,?_⟩;refine iK L2.pairD (λk ρ=>∃s6 s7,ρ=[.vl (netD N),_,nv N.m,.vl (.tup (N.js.map L2.pairD)),.vl (.tup (natsD N.os)),.ow (natsD ((N.js.take k).foldl aD ws)),s6,s7]) (λ_ _ _=>trivial) ?_ ?_ ⟨_,_,rfl⟩
  ·rintro k p _ M hk ⟨s6,s7,rfl⟩ hM;obtain⟨q1,q2⟩:=bY hix hk;have hlen:((N.js.take k).foldl aD ws).length=ws.length+k:=by
    have:=(kt.mp hk).1;rw[cb,yZ];omega
   have hi:k<N.js.length:=(kt.mp hk).1;refine bb rfl (by omega) (bb rfl (by omega) ⟨rfl,_,_,rfl,?_,hM _ ⟨nv p.1,nv p.2,?_⟩⟩)
   ·rw[db,hlen];omega
   ·rw[l4 hk,g_];rfl
  ·rintro ρ ⟨s6,s7,rfl⟩;rw[BA];exact hq
theorem mU (dn:DefN K mg "words_of" fK ["net", "words"])(B:BI mg)(gB9:OkN P w K mg base 2 "all_words" ["net", "words"] (spA K tP)):OkN P w K mg base 3 "words_of" ["net", "words"] (spA K lu):=by
 refine dn.aok2 (k:=2) dE (λj=>j==0||j==1) [.un,.un,.un,.un] lu rfl (λf cdv A outer s H E hr=>have hu:=cR hr;⟨_,(aJ (dF (pv 0) (bJ K (n:=3) rfl (aI (aK (i:=2) dE.nd rfl (by first | exact Or.inl rfl | exact Or.inr rfl)) (aI (aK (i:=3) dE.nd rfl (by first | exact Or.inl rfl | exact Or.inr rfl)) (aI (aK (i:=4) dE.nd rfl (by first | exact Or.inl rfl | exact Or.inr rfl)) bI)))))
  (aJ (bg (i:=5) dE.nd rfl (by first | exact Or.inl rfl | exact Or.inr rfl) (bL gB9 (hr.mono (by decide)) (aj (pv 0) (aj (pv 1) ar))))
  (aW (cv (g7 ["out"] [5] rfl (Blk.of (aM fK) jm) (fu K (pv 4)) (λ_ _ _ _ nd=>(aK (i:=0) nd rfl (by first | exact Or.inl rfl | exact Or.inr rfl))) (λ_ _ _ _=>eO) (λ_ _ _ _=>(bK (aT K) (pv 1) (pv 0) (λ_ _=>rfl)))))))),(az (cH af (bw (aw (aA rfl) (aw (aA rfl) (aw (aA rfl) ba (λ_ _ _=>aQ)) (λ_ _ _=>aQ)) (λ_ _ _=>aQ))))
  (az (aZ (aL (aa af (aa af aq))) rfl)
  (bV (dw (dO af) (aA rfl) dN (aG bu af af)))))⟩) ?_
 rintro ss q ⟨N,ws,s1,rfl,hs1,hix,hz,ho,hos,hq⟩;have e:(N.os.map λo=>nD ((N.js.foldl aD ws).getD o 0))=natsD (N.os.map λo=>(N.js.foldl aD ws).getD o 0):=by unfold natsD;rw[zm];rfl
 rcases hs1 with rfl | rfl
 ·refine⟨rfl,rfl,rfl,N,ws,_,rfl,.inl rfl,hix,hz,?_⟩;refine⟨by rw[db];omega,?_⟩;refine gU nD (λo=>nD ((N.js.foldl aD ws).getD o 0)) trivial (λo acc M ho' hM=>?_) ?_
  ·have:=hos o ho';exact bb rfl (by rw[cb];exact this) hM
  ·rw[e];exact hq
 ·refine⟨rfl,rfl,rfl,N,ws,_,rfl,.inr rfl,hix,hz,?_⟩;refine⟨by rw[db];omega,?_⟩;refine gU nD (λo=>nD ((N.js.foldl aD ws).getD o 0)) trivial (λo acc M ho' hM=>?_) ?_
  ·have:=hos o ho';exact bb rfl (by rw[cb];exact this) hM
  ·rw[e];exact hq
theorem pw (dn:DefN K mg "joining" iY ["one", "other"])(B:BI mg):OkN P w K mg base 1 "joining" ["one", "other"] (spA K fR):=by
 refine dn.aok2 (k:=0) pb (λj=>j==0||j==1) [] fR rfl (λf cdv A outer s H E hr=>have hu:=cR hr;⟨_,(aW (cv (lL (aj (aS (mq rfl) rfl B.min_ uq (aj (pv 0) (aj (pv 1) ar))) (aj (aS (mr rfl) rfl B.max_ ur (aj (pv 0) (aj (pv 1) ar))) ar))))),(bV (iN (aa (bc oQ (aa af (aa af aq))) (aa (bc oR (aa af (aa af aq))) aq))))⟩) ?_;rintro ss q ⟨a,b,rfl,hq⟩;refine⟨rfl,rfl,by simp,?_⟩;show q (.d (.tup [.int (if(b:Int)<(a:Int)then(b:Int)else(a:Int)),.int (if(b:Int) > (a:Int)then(b:Int)else(a:Int))])) [nv a,nv b];rw[minI,maxI];exact hq
theorem pj (dn:DefN K mg "rows_of" iW ["net"])(B:BI mg)(gB9:OkN P w K mg base 2 "all_words" ["net", "words"] (spA K tP))(gA6:OkN P w K mg base 1 "own_rows" ["many"] (spA K SOwn)):OkN P w K mg base 3 "rows_of" ["net"] (spA K lx):=by
 refine dn.aok2 (k:=2) o9 (λj=>j==0) [] lx rfl (λf cdv A outer s H E hr=>have hu:=cR hr;⟨_,(aW (cv (bL gB9 (hr.mono (by decide)) (aj (pv 0) (aj (bL gA6 (hr.mono (by decide)) (aj (bK (aT K) (pv 0) bt (λ_ _=>rfl)) ar)) ar))))),(bV (aL (aa af (aa (aL (aa (aG bu af be) aq)) aq))))⟩) ?_;rintro ss q ⟨N,rfl,hix,hz,hq⟩;exact⟨rfl,rfl,pO rfl rfl ⟨rfl,N.m,rfl,by omega,rfl,N,aO N.m,_,rfl,.inr rfl,by rw[bf];exact hix,by rw[bf];exact hz,hq⟩⟩
theorem pq (dn:DefN K mg "made_by" iX ["net"])(B:BI mg)(gB1:OkN P w K mg base 3 "words_of" ["net", "words"] (spA K lu))(gA6:OkN P w K mg base 1 "own_rows" ["many"] (spA K SOwn)):OkN P w K mg base 4 "made_by" ["net"] (spA K nO):=by
 refine dn.aok2 (k:=3) o_ (λj=>j==0) [] nO rfl (λf cdv A outer s H E hr=>have hu:=cR hr;⟨_,(aW (cv (bL gB1 (hr.mono (by decide)) (aj (pv 0) (aj (bL gA6 (hr.mono (by decide)) (aj (bK (aT K) (pv 0) bt (λ_ _=>rfl)) ar)) ar))))),(bV (aL (aa af (aa (aL (aa (aG bu af be) aq)) aq))))⟩) ?_;rintro ss q ⟨N,rfl,hix,h1,h2,h3,hq⟩;exact⟨rfl,rfl,pO rfl rfl ⟨rfl,N.m,rfl,by omega,rfl,N,aO N.m,_,rfl,.inr rfl,by rw[bf];exact hix,by rw[bf];omega,h2,by rw[bf];exact h3,hq⟩⟩
theorem gJ (dn:DefN K mg "refuse_too_many" cy ["many", "joins", "outs"])(B:BI mg)(gA2:∃u,mg "MOST_GIVENS" = some u/\RelV (.int 12) u)(gA3:∃u,mg "MOST_JOINS" = some u/\RelV (.int 132) u)(gC0:∃u,mg "MOST_OUTS" = some u/\RelV (.int 24) u):OkN P w K mg base 1 "refuse_too_many" ["many", "joins", "outs"] (spA K tN):=by
 refine dn.aok2 (k:=0) dQ (λj=>j==0||j==1||j==2) [] tN rfl (λf cdv A outer s H E hr=>have hu:=cR hr;⟨_,(aW (gi (PW.pt (jK (br fU (pv 0) (gE gA2 rfl) (bM _)) (jK (br fU (pv 1) (gE gA3 rfl) (bM _)) (h_ (br fU (pv 2) (gE gC0 rfl) (bM _))))))
  (aW fN)
  cM)),(cp (dX (aY (aG cU af be)) (dX (aY (aG cU af be)) (aY (aG cU af be))))
  bF
  aV)⟩) ?_
 rintro ss q ⟨a,b,c,rfl,h1,h2,h3,hq⟩;refine⟨rfl,rfl,?_⟩;have no:∀ {x y:Nat},x<=y->¬decide (((y:Nat):Int)<(x:Int))=true:=λh z=>by rw[decide_eq_true_eq]at z;omega
 exact ite2 (λz=>(no h1 z).elim) λ_=>ite2 (λz=>(no h2 z).elim) λ_=>ite2 (λz=>(no h3 z).elim) λ_=>hq
theorem dH {gA0:Addr}(m_TooMany:mg "TooMany" = some (.ref gA0))(e_TooMany:zB K gA0 bmV "ValueError.__new__" = true)(dn:DefN K mg "refuse_too_many" cy ["many", "joins", "outs"])(B:BI mg)(gA2:∃u,mg "MOST_GIVENS" = some u/\RelV (.int 12) u)(gA3:∃u,mg "MOST_JOINS" = some u/\RelV (.int 132) u)(gC0:∃u,mg "MOST_OUTS" = some u/\RelV (.int 24) u):OkX P w K mg base 1 "refuse_too_many" ["many", "joins", "outs"] gA0 none (spA K vN):=by
 refine dn.aokX (k:=0) dQ (λj=>j==0||j==1||j==2) [] vN gA0 none rfl (λf cdv A outer s H E hr=>have hu:=cR hr;⟨_,(aE (fb (PW.pt (jK (br fU (pv 0) (gE gA2 rfl) (bM _)) (jK (br fU (pv 1) (gE gA3 rfl) (bM _)) (h_ (br fU (pv 2) (gE gC0 rfl) (bM _))))))
  (aE (i6 tie1 rfl m_TooMany e_TooMany dj)
  bq)
  bq)
  bq),(az (cp (dX (aY (aG cU af be)) (dX (aY (aG cU af be)) (aY (aG cU af be))))
  (az (bV cB)
  aV)
  aV)
  aV)⟩) ?_
 rintro ss q ⟨a,b,c,rfl,hne,hq⟩;refine⟨rfl,rfl,?_⟩;have no:∀ {x y:Nat},¬decide (((y:Nat):Int)<(x:Int))=true->x<=y:=λz=>by rw[decide_eq_true_eq]at z;omega
 exact ite2 (λ_=>⟨⟨_,rfl⟩,hq⟩) λz1=>ite2 (λ_=>⟨⟨_,rfl⟩,hq⟩) λz2=>ite2 (λ_=>⟨⟨_,rfl⟩,hq⟩) λz3=>(hne ⟨no z1,no z2,no z3⟩).elim
theorem jh (dn:DefN K mg "numbers_from" dY ["first", "joins"])(B:BI mg):OkN P w K mg base 1 "numbers_from" ["first", "joins"] (spA K SNum):=by
 refine dn.aok2 (k:=0) iV (λj=>j==0||j==1) [] SNum rfl (λf cdv A outer s H E hr=>have hu:=cR hr;⟨_,(aW (cv (cc (nK rfl) rfl B.list_ gn (aj (cc mo rfl B.range_ tG (aj (pv 0) (aj (bE cf (pv 0) (aS (aP K) rfl B.len_ bC (aj (pv 1) ar))) ar))) ar)))),(bV (sr false (aa af (aa (aG bj af (bc aX (aa af aq))) aq))))⟩) ?_;rintro ss q ⟨f,ds,rfl,h1,h2,hq⟩;refine⟨rfl,rfl,?_⟩;refine⟨⟨by omega,by omega⟩,?_⟩;have e:(((f:Int)+(ds.length:Int)) - (f:Int)).toNat=ds.length:=by omega
 rw[e,sF];exact hq
theorem kS (dn:DefN K mg "renumbered" dR ["joins", "things"])(B:BI mg)(gA9:OkN P w K mg base 1 "joining" ["one", "other"] (spA K fR)):OkN P w K mg base 2 "renumbered" ["joins", "things"] (spA K oW):=by
 refine dn.aok2 (k:=1) kH (λj=>j==0||j==1) [] oW rfl (λf cdv A outer s H E hr=>have hu:=cR hr;⟨_,(aW (cv (g7 ["a", "b"] [1] rfl (Blk.of (aM dR) gL) (fu K (pv 0)) (λ_ _ _ _ nd=>(bJ K (n:=2) rfl (aI (aK (i:=0) nd rfl (by first | exact Or.inl rfl | exact Or.inr rfl)) (aI (aK (i:=1) nd rfl (by first | exact Or.inl rfl | exact Or.inr rfl)) bI)))) (λ_ _ _ _=>eO) (λ_ _ _ _=>(bL gA9 (hr.mono (by decide)) (aj (bK (aT K) (pv 2) (pv 0) (λ_ _=>rfl)) (aj (bK (aT K) (pv 2) (pv 1) (λ_ _=>rfl)) ar))))))),(bV (dw (dO af) (bw (aw (aA rfl) (aw (aA rfl) ba (λ_ _ _=>aQ)) (λ_ _ _=>aQ))) dN (aL (aa (aG bu af af) (aa (aG bu af af) aq)))))⟩) ?_;rintro ss q ⟨js,ts,rfl,h1,h2,hq⟩;refine⟨rfl,rfl,by rw[db];omega,?_⟩;refine gU pairD (λp=>pairD (min (ts.getD p.1 0) (ts.getD p.2 0),max (ts.getD p.1 0) (ts.getD p.2 0))) trivial (λp acc M hp hM=>?_) ?_
 ·obtain⟨a1,a2⟩:=h2 p hp;refine uF ?_;exact bb rfl a1 (bb rfl a2 ⟨rfl,_,_,rfl,hM⟩)
 ·rw[zm]at hq;exact hq
theorem iA (dn:DefN K mg "refuse_nought" cS ["rows", "added"])(B:BI mg)(gA8:OkN P w K mg base 1 "joined" ["one", "other"] (spA K fF)):OkN P w K mg base 2 "refuse_nought" ["rows", "added"] (spA K SNtN):=by
 refine dn.aok2 (k:=1) bA (λj=>j==0||j==1) [.un,.un,.un,.un] SNtN rfl (λf cdv A outer s H E hr=>have hu:=cR hr;⟨_,(aJ (bg (i:=2) bA.nd rfl (by first | exact Or.inl rfl | exact Or.inr rfl) (cc (eI K) rfl B.list_ gn (aj (pv 0) ar)))
  (aW (ia zR rfl (qG K rfl B.enumerate_ (aj (pv 1) ar)) (bJ K (n:=2) rfl (aI (aK (i:=3) bA.nd rfl (by first | exact Or.inl rfl | exact Or.inr rfl)) (aI (bJ K (n:=2) rfl (aI (aK (i:=4) bA.nd rfl (by first | exact Or.inl rfl | exact Or.inr rfl)) (aI (aK (i:=5) bA.nd rfl (by first | exact Or.inl rfl | exact Or.inr rfl)) bI))) bI)))
  (aJ (gi (br (jf K hr.units) (bK (aT K) (pv 2) (pv 4) (λ_ _=>rfl)) (bK (aT K) (pv 2) (pv 5) (λ_ _=>rfl)) (bM _))
  (aW fN)
  cM)
  (aW (bX (da K wT wP wE bO (pv 2) (aj (bL gA8 (hr.mono (by decide)) (aj (bK (aT K) (pv 2) (pv 4) (λ_ _=>rfl)) (aj (bK (aT K) (pv 2) (pv 5) (λ_ _=>rfl)) ar))) ar)))))))),(az (aZ (bc fD (aa af aq)) rfl)
  (dc (pin:=(λj=>j==1)) (lD (aa af aq)) (bw (aw (aA rfl) (aw (bw (aw (aA rfl) (aw (aA rfl) ba (λ_ _ _=>aQ)) (λ_ _ _=>aQ))) ba (λ_ _ _=>l3)) (λ_ _ _=>aQ)))
  (az (cp (aY (aG jg (aG bu af af) (aG bu af af)))
  bF
  aV)
  (cq (dC af (aa (aL (aa (aG bu af af) (aa (aG bu af af) aq))) aq))))))⟩) ?_
 rintro ss q ⟨rs,js,rfl,hix,hz,hu,hq⟩;refine⟨rfl,rfl,?_⟩;refine cutS (λρ=>ρ=[.vl (.lst (natsD rs)),.ow (js.map L2.pairD),.ow (natsD rs),.un,.un,.un]) (λM hM=>hM _ rfl) ?_;rintro _ rfl;refine dW (λk ρ=>k<=js.length/\∃s3 s4 s5,ρ=[.vl (.lst (natsD rs)),.ow (js.map L2.pairD),.ow (natsD (cA rs js k)),s3,s4,s5]) ?_ ?_ ?_ _ ⟨by omega,.un,.un,.un,rfl⟩
 ·rintro k _ _ ⟨_,s3,s4,s5,rfl⟩;exact rfl
 ·rintro k d _ M hk ⟨_,s3,s4,s5,rfl⟩ hM;obtain⟨x,ex,rfl⟩:=cZ hk;rw[lm]at ex;obtain⟨p,ep,rfl⟩:=wp.mp ex;obtain⟨a1,a2⟩:=hix k p ep;have lt:k<js.length:=(kt.mp ep).1;have hl:=jW rs js (yR lt);rw[zw];refine iP (d2:=nD p.1) (d3:=nD p.2) ?_;show aSeq _ _ _ [.vl (.lst (natsD rs)),.ow (js.map L2.pairD),.ow (natsD (cA rs js k)),nv k,nv p.1,nv p.2];refine cutS (λρ=>ρ=[.vl (.lst (natsD rs)),.ow (js.map L2.pairD),.ow (natsD (cA rs js k)),nv k,nv p.1,nv p.2]) (λM2 hM2=>bb rfl (by omega) (bb rfl (by omega) (dv rfl rfl (by simp[D.depth]) (b:=false) ((l5 _ _).trans (decide_eq_false (hu k p lt ep))) (hM2 _ rfl)))) ?_;rintro _ rfl;refine bb rfl (by omega) (bb rfl (by omega) ⟨rfl,_,_,rfl,by rw[aN];omega,hM _ ⟨by omega,nv k,nv p.1,nv p.2,?_⟩⟩);rw[iZ ep,g_];rfl
 ·rintro _ ⟨_,s3,s4,s5,rfl⟩;exact hq
theorem jv {v6 v4 f_Nought:Addr}(i_n:jH K v6 f_Nought "at" "Nought.__init__" cF ["self", "at"])(b:jP K v4)(B:BI mg)(m:mg "JoinError" = some (.ref v4)) :
  ∃fd,ly K fd ["self", "at"] []/\FnOk P w K mg base CX0 1 f_Nought fd ["self", "at"] (spIP v6 "at"):=by
 obtain⟨fd,F,hb⟩:=i_n.fn;refine⟨fd,.all hb,F.ok (k:=0) o8 (λvs H Q E h=>by obtain⟨e,n,rfl,_⟩:=h;rfl) (λcdv A outer s H vs Q E hr h=>?_)⟩;obtain⟨e,n,rfl,hn,he,hq⟩:=h;refine⟨_,aJ (bX (og (C:=v6) b (j0 i_n.xi.cl) m (aj (pv 0) (aj (lN (i_ dj (i_ (t7 (pv 1)) t6))) ar)))) (aW (qD i_n.xi (pv 1) (pv 0))),?_⟩;refine⟨.ref e,rfl,j2 (by decide +kernel) hn rfl λt=>⟨e,none,_,rfl,he,.int n,rfl,e,rfl,he,hq⟩⟩
theorem ef {v6 v4 f_Nought:Addr}(m_Nought:mg "Nought" = some (.ref v6))(m_JoinError:mg "JoinError" = some (.ref v4))(in_Nought:jH K v6 f_Nought "at" "Nought.__init__" cF ["self", "at"])(bs_JoinError:jP K v4)(dn:DefN K mg "refuse_nought" cS ["rows", "added"])(B:BI mg)(gA8:OkN P w K mg base 1 "joined" ["one", "other"] (spA K fF)):OkX P w K mg base 3 "refuse_nought" ["rows", "added"] v6 (some "at") (spA K SNtX):=by
 obtain⟨fd_Nought,bi_Nought,fi_Nought⟩:=jv (P:=P) (w:=w) (base:=base) in_Nought bs_JoinError B m_JoinError;refine dn.aokX (k:=2) bA (λj=>j==0||j==1) [.un,.un,.un,.un] SNtX v6 (some "at") rfl (λf cdv A outer s H E hr=>have hu:=cR hr;⟨_,(aE (bS (bg (i:=2) bA.nd rfl (by first | exact Or.inl rfl | exact Or.inr rfl) (cc (eI K) rfl B.list_ gn (aj (pv 0) ar))))
  (aE (i7 rfl (qG K rfl B.enumerate_ (aj (pv 1) ar)) (bJ K (n:=2) rfl (aI (aK (i:=3) bA.nd rfl (by first | exact Or.inl rfl | exact Or.inr rfl)) (aI (bJ K (n:=2) rfl (aI (aK (i:=4) bA.nd rfl (by first | exact Or.inl rfl | exact Or.inr rfl)) (aI (aK (i:=5) bA.nd rfl (by first | exact Or.inl rfl | exact Or.inr rfl)) bI))) bI)))
  (aE (fb (br (jf K hr.units) (bK (aT K) (pv 2) (pv 4) (λ_ _=>rfl)) (bK (aT K) (pv 2) (pv 5) (λ_ _=>rfl)) (bM _))
  (aE (g0 tie2 rfl m_Nought in_Nought.xi fi_Nought (hr.mono (by decide)) bi_Nought (pv 3))
  bq)
  bq)
  (aE (bS (bX (da K wT wP wE bO (pv 2) (aj (bL gA8 (hr.mono (by decide)) (aj (bK (aT K) (pv 2) (pv 4) (λ_ _=>rfl)) (aj (bK (aT K) (pv 2) (pv 5) (λ_ _=>rfl)) ar))) ar))))
  bq)))
  bq)),(az (aZ (bc fD (aa af aq)) rfl)
  (az (dc (pin:=(λj=>j==1)) (lD (aa af aq)) (bw (aw (aA rfl) (aw (bw (aw (aA rfl) (aw (aA rfl) ba (λ_ _ _=>aQ)) (λ_ _ _=>aQ))) ba (λ_ _ _=>l3)) (λ_ _ _=>aQ)))
  (az (cp (aY (aG jg (aG bu af af) (aG bu af af)))
  (az (gX af)
  aV)
  aV)
  (az (cq (dC af (aa (aL (aa (aG bu af af) (aa (aG bu af af) aq))) aq)))
  aV)))
  aV))⟩) ?_
 rintro ss q ⟨rs,js,n,pn,rfl,hix,hz,hn,hp,hu,he,hq⟩;refine⟨rfl,rfl,?_⟩;have ltn:n<js.length:=(kt.mp hp).1;refine cutS (λρ=>ρ=[.vl (.lst (natsD rs)),.ow (js.map L2.pairD),.ow (natsD rs),.un,.un,.un]) (λM hM=>hM _ rfl) ?_;rintro _ rfl;refine dW (λk ρ=>k<=n/\∃s3 s4 s5,ρ=[.vl (.lst (natsD rs)),.ow (js.map L2.pairD),.ow (natsD (cA rs js k)),s3,s4,s5]) ?_ ?_ ?_ _ ⟨by omega,.un,.un,.un,rfl⟩
 ·rintro k _ _ ⟨_,s3,s4,s5,rfl⟩;exact rfl
 ·rintro k d _ M hk ⟨hkn,s3,s4,s5,rfl⟩ hM;obtain⟨x,ex,rfl⟩:=cZ hk;rw[lm]at ex;obtain⟨p,ep,rfl⟩:=wp.mp ex;obtain⟨a1,a2⟩:=hix k p ep;have lt:k<js.length:=(kt.mp ep).1;have hl:=jW rs js (yR lt);rw[zw];refine iP (d2:=nD p.1) (d3:=nD p.2) ?_;show aSeq _ _ _ [.vl (.lst (natsD rs)),.ow (js.map L2.pairD),.ow (natsD (cA rs js k)),nv k,nv p.1,nv p.2];by_cases hkk:k=n
  ·subst hkk;rw[hp]at ep;cases ep
   refine bb rfl (by omega) (bb rfl (by omega) (dv rfl rfl (by simp[D.depth]) (b:=true) ((l5 _ _).trans (decide_eq_true he)) ?_));exact⟨⟨by omega,by omega⟩,⟨_,rfl⟩,hq⟩
  ·refine cutS (λρ=>ρ=[.vl (.lst (natsD rs)),.ow (js.map L2.pairD),.ow (natsD (cA rs js k)),nv k,nv p.1,nv p.2]) (λM2 hM2=>bb rfl (by omega) (bb rfl (by omega) (dv rfl rfl (by simp[D.depth]) (b:=false) ((l5 _ _).trans (decide_eq_false (hu k p (by omega) ep))) (hM2 _ rfl)))) ?_;rintro _ rfl;refine bb rfl (by omega) (bb rfl (by omega) ⟨rfl,_,_,rfl,by rw[aN];omega,hM _ ⟨by omega,nv k,nv p.1,nv p.2,?_⟩⟩);rw[iZ ep,g_];rfl
 ·rintro _ ⟨h,s3,s4,s5,rfl⟩;rw[bR,db]at h;omega
end
def thN (A B:Net):List Nat:=A.os++(ym B.js.length).map λk=>A.m+A.js.length+k
def adN (A B:Net):List (Nat×Nat):=B.js.map λp=>(min ((thN A B).getD p.1 0) ((thN A B).getD p.2 0),max ((thN A B).getD p.1 0) ((thN A B).getD p.2 0))
def bhN (A B:Net):Net:=⟨A.m,A.js++adN A B,B.os.map λo=>(thN A B).getD o 0⟩
theorem p6 (A B:Net):(thN A B).length=A.os.length+B.js.length:=by unfold thN;rw[ms,db,z6]
theorem uO {A B:Net}(hA:bN A){i:Nat}(hi:i<A.os.length+B.js.length):(thN A B).getD i 0<A.m+A.js.length+(i+1 - A.os.length):=by
 unfold thN;rw[bi];by_cases h:i<A.os.length
 ·rw[yx h,bv h];have:=hA.os _ (zc h);show A.os[i]<_;omega
 ·rw[yK (by omega),lm,yH (by omega)];show A.m+A.js.length+(i - A.os.length)<_;omega
theorem vL {A B:Net}(hA:bN A)(hB:okIx B.m B.js)(hm:B.m=A.os.length):ixOk (A.m+A.js.length) (adN A B):=by
 intro i p hp;unfold adN at hp;rw[lm]at hp;obtain⟨q,hq,rfl⟩:=wp.mp hp;obtain⟨b1,b2⟩:=bY hB hq;have hi:i<B.js.length:=(kt.mp hq).1;have t1:=uO (B:=B) hA (i:=q.1) (by omega);have t2:=uO (B:=B) hA (i:=q.2) (by omega);dsimp only;omega
def vQ:ASp:=λss q=>∃A B:Net,ss=[.vl (netD A),.vl (netD B)]/\bN A/\bN B/\B.m=A.os.length/\A.js.length+B.js.length<=132/\unl (bQ A) (adN A B) (adN A B).length/\q (.d (netD (bhN A B))) [.vl (netD A),.vl (netD B)]
def vS:ASp:=λss q=>∃A B:Net,ss=[.vl (netD A),.vl (netD B)]/\B.m≠A.os.length/\q (.d .non) [.vl (netD A),.vl (netD B)]
def vR:ASp:=λss q=>∃A B:Net,ss=[.vl (netD A),.vl (netD B)]/\bN A/\bN B/\B.m=A.os.length/\132<A.js.length+B.js.length/\q (.d .non) [.vl (netD A),.vl (netD B)]
def vP:ASp:=λss q=>∃(A B:Net) (k:Nat) (p:Nat×Nat),ss=[.vl (netD A),.vl (netD B)]/\bN A/\bN B/\B.m=A.os.length/\A.js.length+B.js.length<=132/\(adN A B)[k]? = some p/\unl (bQ A) (adN A B) k/\(cA (bQ A) (adN A B) k).getD p.1 0=(cA (bQ A) (adN A B) k).getD p.2 0/\q (.d (nD k)) [.vl (netD A),.vl (netD B)]
theorem xW {a b:Nat}(h:a≠b):eqD (nD a) (nD b)=false:=(l5 a b).trans (decide_eq_false h)
theorem vB {a b:Nat}(h:a=b):eqD (nD a) (nD b)=true:=(l5 a b).trans (decide_eq_true h)
section
variable {P:wl}{w:yF}{K:ac}{mg:Str->Option bd}{base:Heap}
theorem iz {gA4:Addr}(m_NoFit:mg "NoFit" = some (.ref gA4))(e_NoFit:zB K gA4 bmV "ValueError.__new__" = true)(dn:DefN K mg "behind" eL ["net", "other"])(B:BI mg):OkX P w K mg base 1 "behind" ["net", "other"] gA4 none (spA K vS):=by
 refine dn.aokX (k:=0) a_ (λj=>j==0||j==1) [.un,.un,.un,.un,.un,.un,.un,.un] vS gA4 none rfl (λf cdv A outer s H E hr=>have hu:=cR hr;⟨_,(aE (bS (dF (pv 0) (bJ K (n:=3) rfl (aI (aK (i:=2) a_.nd rfl (by first | exact Or.inl rfl | exact Or.inr rfl)) (aI (aK (i:=3) a_.nd rfl (by first | exact Or.inl rfl | exact Or.inr rfl)) (aI (aK (i:=4) a_.nd rfl (by first | exact Or.inl rfl | exact Or.inr rfl)) bI))))))
  (aE (bS (dF (pv 1) (bJ K (n:=3) rfl (aI (aK (i:=5) a_.nd rfl (by first | exact Or.inl rfl | exact Or.inr rfl)) (aI (aK (i:=6) a_.nd rfl (by first | exact Or.inl rfl | exact Or.inr rfl)) (aI (aK (i:=7) a_.nd rfl (by first | exact Or.inl rfl | exact Or.inr rfl)) bI))))))
  (aE (fb (br (ib K hr.units) (pv 5) (aS (aP K) rfl B.len_ bC (aj (pv 4) ar)) (bM _))
  (aE (i6 tie1 rfl m_NoFit e_NoFit dj)
  bq)
  bq)
  cN))),(az (cH af (bw (aw (aA rfl) (aw (aA rfl) (aw (aA rfl) ba (λ_ _ _=>aQ)) (λ_ _ _=>aQ)) (λ_ _ _=>aQ))))
  (az (cH af (bw (aw (aA rfl) (aw (aA rfl) (aw (aA rfl) ba (λ_ _ _=>aQ)) (λ_ _ _=>aQ)) (λ_ _ _=>aQ))))
  (az (cp (aY (aG ie af (bc aX (aa af aq))))
  (az (bV cB)
  aV)
  aV)
  bF)))⟩) ?_
 rintro ss q ⟨A,B,rfl,hm,hq⟩;refine⟨rfl,rfl,?_⟩;refine cutS (λρ=>ρ=[.vl (netD A),.vl (netD B),nv A.m,.vl (.tup (A.js.map L2.pairD)),.vl (.tup (natsD A.os)),.un,.un,.un,.un,.un]) (λM hM=>hM _ rfl) ?_;rintro _ rfl;refine cutS (λρ=>ρ=[.vl (netD A),.vl (netD B),nv A.m,.vl (.tup (A.js.map L2.pairD)),.vl (.tup (natsD A.os)),nv B.m,.vl (.tup (B.js.map L2.pairD)),.vl (.tup (natsD B.os)),.un,.un]) (λM hM=>hM _ rfl) ?_;rintro _ rfl;exact dv rfl rfl (by simp[D.depth]) (b:=false) (by show eqD (nD B.m) (nD (natsD A.os).length)=false;rw[aN];exact xW hm) ⟨⟨_,rfl⟩,hq⟩
theorem gH {gA0:Addr}(m_TooMany:mg "TooMany" = some (.ref gA0))(e_TooMany:zB K gA0 bmV "ValueError.__new__" = true)(dn:DefN K mg "behind" eL ["net", "other"])(B:BI mg)(gB6:OkX P w K mg base 1 "refuse_too_many" ["many", "joins", "outs"] gA0 none (spA K vN)):OkX P w K mg base 2 "behind" ["net", "other"] gA0 none (spA K vR):=by
 refine dn.aokX (k:=1) a_ (λj=>j==0||j==1) [.un,.un,.un,.un,.un,.un,.un,.un] vR gA0 none rfl (λf cdv A outer s H E hr=>have hu:=cR hr;⟨_,(aE (bS (dF (pv 0) (bJ K (n:=3) rfl (aI (aK (i:=2) a_.nd rfl (by first | exact Or.inl rfl | exact Or.inr rfl)) (aI (aK (i:=3) a_.nd rfl (by first | exact Or.inl rfl | exact Or.inr rfl)) (aI (aK (i:=4) a_.nd rfl (by first | exact Or.inl rfl | exact Or.inr rfl)) bI))))))
  (aE (bS (dF (pv 1) (bJ K (n:=3) rfl (aI (aK (i:=5) a_.nd rfl (by first | exact Or.inl rfl | exact Or.inr rfl)) (aI (aK (i:=6) a_.nd rfl (by first | exact Or.inl rfl | exact Or.inr rfl)) (aI (aK (i:=7) a_.nd rfl (by first | exact Or.inl rfl | exact Or.inr rfl)) bI))))))
  (aE (fb (br (ib K hr.units) (pv 5) (aS (aP K) rfl B.len_ bC (aj (pv 4) ar)) (bM _))
  (aE dZ
  bq)
  bq)
  (aE (n_ gB6 (hr.mono (by decide)) wG (aj (pv 2) (aj (bE cf (aS (aP K) rfl B.len_ bC (aj (pv 3) ar)) (aS (aP K) rfl B.len_ bC (aj (pv 6) ar))) (aj (aS (aP K) rfl B.len_ bC (aj (pv 7) ar)) ar))))
  cN)))),(az (cH af (bw (aw (aA rfl) (aw (aA rfl) (aw (aA rfl) ba (λ_ _ _=>aQ)) (λ_ _ _=>aQ)) (λ_ _ _=>aQ))))
  (az (cH af (bw (aw (aA rfl) (aw (aA rfl) (aw (aA rfl) ba (λ_ _ _=>aQ)) (λ_ _ _=>aQ)) (λ_ _ _=>aQ))))
  (az (cp (aY (aG ie af (bc aX (aa af aq))))
  (az bF
  aV)
  aV)
  (az (bV (aL (aa af (aa (aG bj (bc aX (aa af aq)) (bc aX (aa af aq))) (aa (bc aX (aa af aq)) aq)))))
  bF))))⟩) ?_
 rintro ss q ⟨A,B,rfl,hA,hB,hm,hl,hq⟩;refine⟨rfl,rfl,?_⟩;refine cutS (λρ=>ρ=[.vl (netD A),.vl (netD B),nv A.m,.vl (.tup (A.js.map L2.pairD)),.vl (.tup (natsD A.os)),.un,.un,.un,.un,.un]) (λM hM=>hM _ rfl) ?_;rintro _ rfl;refine cutS (λρ=>ρ=[.vl (netD A),.vl (netD B),nv A.m,.vl (.tup (A.js.map L2.pairD)),.vl (.tup (natsD A.os)),nv B.m,.vl (.tup (B.js.map L2.pairD)),.vl (.tup (natsD B.os)),.un,.un]) (λM hM=>hM _ rfl) ?_;rintro _ rfl;refine cutS (λρ=>ρ=[.vl (netD A),.vl (netD B),nv A.m,.vl (.tup (A.js.map L2.pairD)),.vl (.tup (natsD A.os)),nv B.m,.vl (.tup (B.js.map L2.pairD)),.vl (.tup (natsD B.os)),.un,.un]) (λM hM=>dv rfl rfl (by simp[D.depth]) (b:=true) (by show eqD (nD B.m) (nD (natsD A.os).length)=true;rw[aN];exact vB hm) (hM _ rfl)) ?_;rintro _ rfl;refine⟨rfl,A.m,A.js.length+B.js.length,B.os.length,?_,λz=>by omega,⟨_,rfl⟩,hq⟩;simp only[Bi,cI,nv,db,aN,A8];rfl
theorem g9 {v6 v4 f_Nought:Addr}(m_Nought:mg "Nought" = some (.ref v6))(m_JoinError:mg "JoinError" = some (.ref v4))(in_Nought:jH K v6 f_Nought "at" "Nought.__init__" cF ["self", "at"])(bs_JoinError:jP K v4)(dn:DefN K mg "behind" eL ["net", "other"])(B:BI mg)(gB0:OkN P w K mg base 1 "refuse_too_many" ["many", "joins", "outs"] (spA K tN))(gB7:OkN P w K mg base 2 "renumbered" ["joins", "things"] (spA K oW))(gB5:OkN P w K mg base 1 "numbers_from" ["first", "joins"] (spA K SNum))(gC5:OkN P w K mg base 3 "rows_of" ["net"] (spA K lx))(gC1:OkX P w K mg base 3 "refuse_nought" ["rows", "added"] v6 (some "at") (spA K SNtX)):OkX P w K mg base 4 "behind" ["net", "other"] v6 (some "at") (spA K vP):=by
 refine dn.aokX (k:=3) a_ (λj=>j==0||j==1) [.un,.un,.un,.un,.un,.un,.un,.un] vP v6 (some "at") rfl (λf cdv A outer s H E hr=>have hu:=cR hr;⟨_,(aE (bS (dF (pv 0) (bJ K (n:=3) rfl (aI (aK (i:=2) a_.nd rfl (by first | exact Or.inl rfl | exact Or.inr rfl)) (aI (aK (i:=3) a_.nd rfl (by first | exact Or.inl rfl | exact Or.inr rfl)) (aI (aK (i:=4) a_.nd rfl (by first | exact Or.inl rfl | exact Or.inr rfl)) bI))))))
  (aE (bS (dF (pv 1) (bJ K (n:=3) rfl (aI (aK (i:=5) a_.nd rfl (by first | exact Or.inl rfl | exact Or.inr rfl)) (aI (aK (i:=6) a_.nd rfl (by first | exact Or.inl rfl | exact Or.inr rfl)) (aI (aK (i:=7) a_.nd rfl (by first | exact Or.inl rfl | exact Or.inr rfl)) bI))))))
  (aE (fb (br (ib K hr.units) (pv 5) (aS (aP K) rfl B.len_ bC (aj (pv 4) ar)) (bM _))
  (aE dZ
  bq)
  bq)
  (aE (bS (bX (bL gB0 (hr.mono (by decide)) (aj (pv 2) (aj (bE cf (aS (aP K) rfl B.len_ bC (aj (pv 3) ar)) (aS (aP K) rfl B.len_ bC (aj (pv 6) ar))) (aj (aS (aP K) rfl B.len_ bC (aj (pv 7) ar)) ar))))))
  (aE (bS (bg (i:=8) a_.nd rfl (by first | exact Or.inl rfl | exact Or.inr rfl) (bE (mR K) (cc (eI K) rfl B.list_ gn (aj (pv 4) ar)) (bL gB5 (hr.mono (by decide)) (aj (bE cf (pv 2) (aS (aP K) rfl B.len_ bC (aj (pv 3) ar))) (aj (pv 6) ar))))))
  (aE (bS (bg (i:=9) a_.nd rfl (by first | exact Or.inl rfl | exact Or.inr rfl) (bL gB7 (hr.mono (by decide)) (aj (pv 6) (aj (pv 8) ar)))))
  (aE (n_ gC1 (hr.mono (by decide)) wG (aj (bL gC5 (hr.mono (by decide)) (aj (pv 0) ar)) (aj (pv 9) ar)))
  cN))))))),(az (cH af (bw (aw (aA rfl) (aw (aA rfl) (aw (aA rfl) ba (λ_ _ _=>aQ)) (λ_ _ _=>aQ)) (λ_ _ _=>aQ))))
  (az (cH af (bw (aw (aA rfl) (aw (aA rfl) (aw (aA rfl) ba (λ_ _ _=>aQ)) (λ_ _ _=>aQ)) (λ_ _ _=>aQ))))
  (az (cp (aY (aG ie af (bc aX (aa af aq))))
  (az bF
  aV)
  aV)
  (az (cq (aL (aa af (aa (aG bj (bc aX (aa af aq)) (bc aX (aa af aq))) (aa (bc aX (aa af aq)) aq)))))
  (az (aZ (aG mT (bc fD (aa af aq)) (aL (aa (aG bj af (bc aX (aa af aq))) (aa af aq)))) rfl)
  (az (aZ (aL (aa af (aa af aq))) rfl)
  (az (bV (aL (aa (aL (aa af aq)) (aa af aq))))
  bF)))))))⟩) ?_
 rintro ss q ⟨A,B,k,p,rfl,hA,hB,hm,hl,hp,hu,he,hq⟩;refine⟨rfl,rfl,?_⟩;have ix:okIx A.m A.js:=by have:=cV hA.js;rw[bf]at this;exact this
 have ixB:okIx B.m B.js:=by have:=cV hB.js;rw[bf]at this;exact this
 have a1:=hA.m12;have a2:=hA.jl;have a3:=hA.o24;have b1:=hB.m12;have b2:=hB.jl;have b3:=hB.o24;refine cutS (λρ=>ρ=[.vl (netD A),.vl (netD B),nv A.m,.vl (.tup (A.js.map L2.pairD)),.vl (.tup (natsD A.os)),.un,.un,.un,.un,.un]) (λM hM=>hM _ rfl) ?_;rintro _ rfl;refine cutS (λρ=>ρ=[.vl (netD A),.vl (netD B),nv A.m,.vl (.tup (A.js.map L2.pairD)),.vl (.tup (natsD A.os)),nv B.m,.vl (.tup (B.js.map L2.pairD)),.vl (.tup (natsD B.os)),.un,.un]) (λM hM=>hM _ rfl) ?_;rintro _ rfl;refine cutS (λρ=>ρ=[.vl (netD A),.vl (netD B),nv A.m,.vl (.tup (A.js.map L2.pairD)),.vl (.tup (natsD A.os)),nv B.m,.vl (.tup (B.js.map L2.pairD)),.vl (.tup (natsD B.os)),.un,.un]) (λM hM=>dv rfl rfl (by simp[D.depth]) (b:=true) (by show eqD (nD B.m) (nD (natsD A.os).length)=true;rw[aN];exact vB hm) (hM _ rfl)) ?_;rintro _ rfl;refine cutS (λρ=>ρ=[.vl (netD A),.vl (netD B),nv A.m,.vl (.tup (A.js.map L2.pairD)),.vl (.tup (natsD A.os)),nv B.m,.vl (.tup (B.js.map L2.pairD)),.vl (.tup (natsD B.os)),.un,.un]) (λM hM=>?_) ?_
 ·refine⟨rfl,A.m,A.js.length+B.js.length,B.os.length,?_,a1,hl,b3,hM _ rfl⟩;simp only[Bi,cI,nv,db,aN,A8];rfl
 rintro _ rfl;refine cutS (λρ=>ρ=[.vl (netD A),.vl (netD B),nv A.m,.vl (.tup (A.js.map L2.pairD)),.vl (.tup (natsD A.os)),nv B.m,.vl (.tup (B.js.map L2.pairD)),.vl (.tup (natsD B.os)),.ow (natsD (thN A B)),.un]) (λM hM=>?_) ?_
 ·refine⟨rfl,A.m+A.js.length,B.js.map L2.pairD,?_,by omega,by rw[db];omega,?_⟩
  ·simp only[Bi,cI,nv,db,aN,A8];rfl
  rw[db];refine⟨by rw[aN,aN];simp;omega,hM _ ?_⟩;dsimp only[pt,stS,back,R.frz];unfold thN natsD;rw[yo,db]
 rintro _ rfl;refine cutS (λρ=>ρ=[.vl (netD A),.vl (netD B),nv A.m,.vl (.tup (A.js.map L2.pairD)),.vl (.tup (natsD A.os)),nv B.m,.vl (.tup (B.js.map L2.pairD)),.vl (.tup (natsD B.os)),.ow (natsD (thN A B)),.ow ((adN A B).map L2.pairD)]) (λM hM=>?_) ?_
 ·refine⟨rfl,B.js,thN A B,rfl,by omega,λp hp=>?_,hM _ rfl⟩;obtain⟨i,hi,rfl⟩:=A6 hp;have z:=bY ixB (bv hi);rw[p6];omega
 rintro _ rfl;have rl:(bQ A).length=A.m+A.js.length:=by unfold bQ;rw[cb,bf]
 have al:(adN A B).length=B.js.length:=db ..;have ai:ixOk (bQ A).length (adN A B):=by rw[rl];exact vL hA ixB hm
 have hk:k<(adN A B).length:=(kt.mp hp).1;exact⟨rfl,A,rfl,ix,by omega,rfl,bQ A,adN A B,k,p,rfl,ai,by omega,by omega,hp,hu,he,⟨_,rfl⟩,hq⟩
theorem qM (dn:DefN K mg "behind" eL ["net", "other"])(B:BI mg)(gB0:OkN P w K mg base 1 "refuse_too_many" ["many", "joins", "outs"] (spA K tN))(gB7:OkN P w K mg base 2 "renumbered" ["joins", "things"] (spA K oW))(gC9:OkN P w K mg base 2 "refuse_nought" ["rows", "added"] (spA K SNtN))(gB5:OkN P w K mg base 1 "numbers_from" ["first", "joins"] (spA K SNum))(gC5:OkN P w K mg base 3 "rows_of" ["net"] (spA K lx)):OkN P w K mg base 4 "behind" ["net", "other"] (spA K vQ):=by
 refine dn.aok2 (k:=3) a_ (λj=>j==0||j==1) [.un,.un,.un,.un,.un,.un,.un,.un] vQ rfl (λf cdv A outer s H E hr=>have hu:=cR hr;⟨_,(aJ (dF (pv 0) (bJ K (n:=3) rfl (aI (aK (i:=2) a_.nd rfl (by first | exact Or.inl rfl | exact Or.inr rfl)) (aI (aK (i:=3) a_.nd rfl (by first | exact Or.inl rfl | exact Or.inr rfl)) (aI (aK (i:=4) a_.nd rfl (by first | exact Or.inl rfl | exact Or.inr rfl)) bI)))))
  (aJ (dF (pv 1) (bJ K (n:=3) rfl (aI (aK (i:=5) a_.nd rfl (by first | exact Or.inl rfl | exact Or.inr rfl)) (aI (aK (i:=6) a_.nd rfl (by first | exact Or.inl rfl | exact Or.inr rfl)) (aI (aK (i:=7) a_.nd rfl (by first | exact Or.inl rfl | exact Or.inr rfl)) bI)))))
  (aJ (gi (br (ib K hr.units) (pv 5) (aS (aP K) rfl B.len_ bC (aj (pv 4) ar)) (bM _))
  (aW fN)
  cM)
  (aJ (bX (bL gB0 (hr.mono (by decide)) (aj (pv 2) (aj (bE cf (aS (aP K) rfl B.len_ bC (aj (pv 3) ar)) (aS (aP K) rfl B.len_ bC (aj (pv 6) ar))) (aj (aS (aP K) rfl B.len_ bC (aj (pv 7) ar)) ar)))))
  (aJ (bg (i:=8) a_.nd rfl (by first | exact Or.inl rfl | exact Or.inr rfl) (bE (mR K) (cc (eI K) rfl B.list_ gn (aj (pv 4) ar)) (bL gB5 (hr.mono (by decide)) (aj (bE cf (pv 2) (aS (aP K) rfl B.len_ bC (aj (pv 3) ar))) (aj (pv 6) ar)))))
  (aJ (bg (i:=9) a_.nd rfl (by first | exact Or.inl rfl | exact Or.inr rfl) (bL gB7 (hr.mono (by decide)) (aj (pv 6) (aj (pv 8) ar))))
  (aJ (bX (bL gC9 (hr.mono (by decide)) (aj (bL gC5 (hr.mono (by decide)) (aj (pv 0) ar)) (aj (pv 9) ar))))
  (aW (cv (lL (aj (pv 2) (aj (bE (sP K) (pv 3) (cc (de K) rfl B.tuple_ fP (aj (pv 9) ar))) (aj (cc (de K) rfl B.tuple_ fP (aj (g7 ["out"] [8] rfl (Blk.of (aM eL) lQ) (fu K (pv 7)) (λ_ _ _ _ nd=>(aK (i:=0) nd rfl (by first | exact Or.inl rfl | exact Or.inr rfl))) (λ_ _ _ _=>eO) (λ_ _ _ _=>(bK (aT K) (pv 1) (pv 0) (λ_ _=>rfl)))) ar)) ar))))))))))))),(az (cH af (bw (aw (aA rfl) (aw (aA rfl) (aw (aA rfl) ba (λ_ _ _=>aQ)) (λ_ _ _=>aQ)) (λ_ _ _=>aQ))))
  (az (cH af (bw (aw (aA rfl) (aw (aA rfl) (aw (aA rfl) ba (λ_ _ _=>aQ)) (λ_ _ _=>aQ)) (λ_ _ _=>aQ))))
  (az (cp (aY (aG ie af (bc aX (aa af aq))))
  bF
  aV)
  (az (cq (aL (aa af (aa (aG bj (bc aX (aa af aq)) (bc aX (aa af aq))) (aa (bc aX (aa af aq)) aq)))))
  (az (aZ (aG mT (bc fD (aa af aq)) (aL (aa (aG bj af (bc aX (aa af aq))) (aa af aq)))) rfl)
  (az (aZ (aL (aa af (aa af aq))) rfl)
  (az (cq (aL (aa (aL (aa af aq)) (aa af aq))))
  (bV (iN (aa af (aa (aG sQ af (bc dA (aa af aq))) (aa (bc dA (aa (dw (dO af) (aA rfl) dN (aG bu af af)) aq)) aq))))))))))))⟩) ?_
 rintro ss q ⟨A,B,rfl,hA,hB,hm,hl,hu,hq⟩;refine⟨rfl,rfl,?_⟩;have ix:okIx A.m A.js:=by have:=cV hA.js;rw[bf]at this;exact this
 have ixB:okIx B.m B.js:=by have:=cV hB.js;rw[bf]at this;exact this
 have a1:=hA.m12;have a2:=hA.jl;have a3:=hA.o24;have b1:=hB.m12;have b2:=hB.jl;have b3:=hB.o24;refine cutS (λρ=>ρ=[.vl (netD A),.vl (netD B),nv A.m,.vl (.tup (A.js.map L2.pairD)),.vl (.tup (natsD A.os)),.un,.un,.un,.un,.un]) (λM hM=>hM _ rfl) ?_;rintro _ rfl;refine cutS (λρ=>ρ=[.vl (netD A),.vl (netD B),nv A.m,.vl (.tup (A.js.map L2.pairD)),.vl (.tup (natsD A.os)),nv B.m,.vl (.tup (B.js.map L2.pairD)),.vl (.tup (natsD B.os)),.un,.un]) (λM hM=>hM _ rfl) ?_;rintro _ rfl;refine cutS (λρ=>ρ=[.vl (netD A),.vl (netD B),nv A.m,.vl (.tup (A.js.map L2.pairD)),.vl (.tup (natsD A.os)),nv B.m,.vl (.tup (B.js.map L2.pairD)),.vl (.tup (natsD B.os)),.un,.un]) (λM hM=>dv rfl rfl (by simp[D.depth]) (b:=true) (by show eqD (nD B.m) (nD (natsD A.os).length)=true;rw[aN];exact vB hm) (hM _ rfl)) ?_;rintro _ rfl;refine cutS (λρ=>ρ=[.vl (netD A),.vl (netD B),nv A.m,.vl (.tup (A.js.map L2.pairD)),.vl (.tup (natsD A.os)),nv B.m,.vl (.tup (B.js.map L2.pairD)),.vl (.tup (natsD B.os)),.un,.un]) (λM hM=>?_) ?_
 ·refine⟨rfl,A.m,A.js.length+B.js.length,B.os.length,?_,a1,hl,b3,hM _ rfl⟩;simp only[Bi,cI,nv,db,aN,A8];rfl
 rintro _ rfl;refine cutS (λρ=>ρ=[.vl (netD A),.vl (netD B),nv A.m,.vl (.tup (A.js.map L2.pairD)),.vl (.tup (natsD A.os)),nv B.m,.vl (.tup (B.js.map L2.pairD)),.vl (.tup (natsD B.os)),.ow (natsD (thN A B)),.un]) (λM hM=>?_) ?_
 ·refine⟨rfl,A.m+A.js.length,B.js.map L2.pairD,?_,by omega,by rw[db];omega,?_⟩
  ·simp only[Bi,cI,nv,db,aN,A8];rfl
  rw[db];refine⟨by rw[aN,aN];simp;omega,hM _ ?_⟩;dsimp only[pt,stS,back,R.frz];unfold thN natsD;rw[yo,db]
 rintro _ rfl;refine cutS (λρ=>ρ=[.vl (netD A),.vl (netD B),nv A.m,.vl (.tup (A.js.map L2.pairD)),.vl (.tup (natsD A.os)),nv B.m,.vl (.tup (B.js.map L2.pairD)),.vl (.tup (natsD B.os)),.ow (natsD (thN A B)),.ow ((adN A B).map L2.pairD)]) (λM hM=>?_) ?_
 ·refine⟨rfl,B.js,thN A B,rfl,by omega,λp hp=>?_,hM _ rfl⟩;obtain⟨i,hi,rfl⟩:=A6 hp;have z:=bY ixB (bv hi);rw[p6];omega
 rintro _ rfl;have rl:(bQ A).length=A.m+A.js.length:=by unfold bQ;rw[cb,bf]
 have al:(adN A B).length=B.js.length:=db ..;have ai:ixOk (bQ A).length (adN A B):=by rw[rl];exact vL hA ixB hm
 refine cutS (λρ=>ρ=[.vl (netD A),.vl (netD B),nv A.m,.vl (.tup (A.js.map L2.pairD)),.vl (.tup (natsD A.os)),nv B.m,.vl (.tup (B.js.map L2.pairD)),.vl (.tup (natsD B.os)),.ow (natsD (thN A B)),.ow ((adN A B).map L2.pairD)]) (λM hM=>⟨rfl,A,rfl,ix,by omega,rfl,bQ A,adN A B,rfl,ai,by omega,hu,hM _ rfl⟩) ?_;rintro _ rfl;have e1:(A.js.map L2.pairD)++((adN A B).map L2.pairD)=(bhN A B).js.map L2.pairD:=by unfold bhN;rw[yo]
 have e2:(B.os.map λo=>nD ((thN A B).getD o 0))=natsD (bhN A B).os:=by unfold bhN natsD;rw[zm];rfl
 refine⟨by simp only[db];omega,by rw[aN];omega,gU nD (λo=>nD ((thN A B).getD o 0)) trivial (λo acc M2 ho hM2=>bb rfl (by rw[p6];have:=hB.os o ho;omega) hM2) ?_⟩;rw[e1,e2];exact⟨by simp,hq⟩
end
def usO (os:List Nat)(t:Nat):List Nat:=(ym os.length).filter λp=>os.getD p 0==t
def eJ (N:Net):List (List Nat):=(ym (N.m+N.js.length)).map (usO N.os)
def gV:ASp:=λss q=>∃N:Net,ss=[.vl (netD N)]/\bN N/\q (.n (.ll ((eJ N).map natsD))) [.vl (netD N)]
def juS:List Nat->Nat->List Nat->List (Nat×Nat)->Nat×List Nat×List (Nat×Nat)
 | [],g,R,M=>(g,R,M)
 | u::us,g,R,M=>juS us R.length (R++[R.getD g 0 ^^^ R.getD u 0]) (M++[(min g u,max g u)])
def juOk:List Nat->Nat->List Nat->Prop
 | [],_,_=>True
 | u::us,g,R=>R.getD g 0≠R.getD u 0/\juOk us R.length (R++[R.getD g 0 ^^^ R.getD u 0])
def mE:ASp:=λss q=>∃(t u:Nat) (us R:List Nat) (M:List (Nat×Nat)),ss=[nv t,.vl (.lst (natsD (u::us))),.ow (natsD R),.ow (M.map L2.pairD)]/\(∀x∈u::us,x<R.length)/\juOk us u R/\R.length+us.length<=500000/\M.length+us.length<=500000 /\
 q (.d (nD (juS us u R M).1)) [nv t,.vl (.lst (natsD (u::us))),.ow (natsD (juS us u R M).2.1),.ow ((juS us u R M).2.2.map L2.pairD)]
def usP (os:List Nat)(k t:Nat):List Nat:=(ym k).filter λp=>os.getD p 0==t
def usA (os:List Nat)(n k:Nat):List (List Nat):=(ym n).map (usP os k)
theorem km (os:List Nat)(k t:Nat):usP os (k+1) t=usP os k t++if os.getD k 0==t then[k]else[]:=by
 unfold usP;rw[zF,Aa];congr 1;rw[AM,AX]
theorem tT {os:List Nat}{n k t:Nat}(h:t<n):(usA os n k).getD t []=usP os k t:=by
 unfold usA;rw[bi,lm,yH h];rfl
theorem kn (os:List Nat)(n k:Nat):(usA os n k).length=n:=by simp[usA]
theorem mF (os:List Nat)(k t:Nat):(usP os k t).length<=k:=by
 unfold usP;exact yt (Dz _ _) (by simp)
theorem uD {os:List Nat}{n k:Nat}(h:os.getD k 0<n):(usA os n k).set (os.getD k 0) ((usA os n k).getD (os.getD k 0) []++[k])=usA os n (k+1):=by
 rw[tT h];apply Bs;intro t;rcases pp t n with q | q
 ·have e:(usA os n (k+1))[t]? = some (usP os (k+1) t):=by unfold usA;rw[lm,yH q];rfl
  rw[e,km];by_cases z:t=os.getD k 0
  ·subst z;rw[y6 (by rw[kn];exact h)];simp
  ·rw[xz (zd z)];unfold usA;rw[lm,yH q];have:(os.getD k 0==t)=false:=by rw[beq_eq_false_iff_ne];exact zd z
   rw[this];simp
 ·rw[yS (by rw[zY,kn];exact q),yS (by rw[kn];exact q)]
theorem kZ:∀(xs:List Nat) (y g:Nat) (R:List Nat) (M:List (Nat×Nat)),juS (xs++[y]) g R M=((juS xs g R M).2.1.length,(juS xs g R M).2.1++[(juS xs g R M).2.1.getD (juS xs g R M).1 0 ^^^ (juS xs g R M).2.1.getD y 0],(juS xs g R M).2.2++[(min (juS xs g R M).1 y,max (juS xs g R M).1 y)])
 | [],y,g,R,M=>rfl
 | x::xs,y,g,R,M=>kZ xs y _ _ _
theorem gm:∀(xs:List Nat) (g:Nat) (R:List Nat) (M:List (Nat×Nat)),(juS xs g R M).2.1.length=R.length+xs.length/\(juS xs g R M).2.2.length=M.length+xs.length
 | [],g,R,M=>⟨rfl,rfl⟩
 | x::xs,g,R,M=>by
  obtain⟨a,b⟩:=gm xs R.length (R++[R.getD g 0 ^^^ R.getD x 0]) (M++[(min g x,max g x)]);rw[ms,yr]at a b;rw[wS];exact⟨a.trans (by omega),b.trans (by omega)⟩
theorem oC:∀(xs:List Nat) {g:Nat} {R:List Nat} {M:List (Nat×Nat)},g<R.length->(juS xs g R M).1<(juS xs g R M).2.1.length
 | [],_,_,_,h=>h
 | x::xs,g,R,M,_=>oC xs (by rw[ms,yr];omega)
theorem m_:∀(xs:List Nat) {y g:Nat} {R:List Nat} {ys:List Nat} (M:List (Nat×Nat)),juOk (xs++y::ys) g R->(juS xs g R M).2.1.getD (juS xs g R M).1 0≠(juS xs g R M).2.1.getD y 0
 | [],_,_,_,_,_,h=>h.1
 | x::xs,_,_,_,_,M,h=>m_ xs _ h.2
def juU (us:List Nat)(R:List Nat)(M:List (Nat×Nat)):Nat×List Nat×List (Nat×Nat):=juS us.tail (us.headD 0) R M
def vo (us R:List Nat):Prop:=us≠[]/\juOk us.tail (us.headD 0) R
def app (U:List (List Nat))(t g:Nat):List (List Nat):=U.set t (U.getD t []++[g])
def tuAt (N:Net):Nat->List (List Nat)×List Nat×List (Nat×Nat)
 | 0=>(eJ N,aO N.os.length,[])
 | k+1=>let S:=tuAt N k
  let J:=juU (S.1.getD (N.m+(N.js.length - 1 - k)) []) S.2.1 S.2.2
  (app (app S.1 (N.js.getD (N.js.length - 1 - k) (0,0)).1 J.1) (N.js.getD (N.js.length - 1 - k) (0,0)).2 J.1,J.2.1,J.2.2)
def tgAt (N:Net):Nat->List Nat×List Nat×List (Nat×Nat)
 | 0=>([],(tuAt N N.js.length).2.1,(tuAt N N.js.length).2.2)
 | k+1=>let S:=tgAt N k
  let J:=juU ((tuAt N N.js.length).1.getD (N.m - 1 - k) []) S.2.1 S.2.2
  (S.1++[J.1],J.2.1,J.2.2)
def bo (N:Net):Net:=⟨N.os.length,(tgAt N N.m).2.2,(tgAt N N.m).1.reverse⟩
structure TuOk (N:Net):Prop where
 j:∀k,k<N.js.length->vo ((tuAt N k).1.getD (N.m+(N.js.length - 1 - k)) []) (tuAt N k).2.1
 g:∀k,k<N.m->vo ((tuAt N N.js.length).1.getD (N.m - 1 - k) []) (tgAt N k).2.1
def nN:ASp:=λss q=>∃N:Net,ss=[.vl (netD N)]/\bN N/\N.os.length<=12/\N.js.length+N.os.length<=N.m+132/\TuOk N/\q (.d (netD (bo N))) [.vl (netD N)]
theorem fO:∀xs:List Nat,noLs (natsD xs)=true
 | []=>rfl
 | x::xs=>by
  show(true&&noLs (natsD xs))=true;rw[fO xs];rfl
theorem gK:∀js:List (Nat×Nat),noLs (js.map L2.pairD)=true
 | []=>rfl
 | p::js=>by
  show(noL (L2.pairD p)&&noLs (js.map L2.pairD))=true;rw[gK js];rfl
theorem vg (N:Net):noL (netD N)=true:=by
 show(true&&(noL (.tup (N.js.map L2.pairD))&&(noL (.tup (natsD N.os))&&true)))=true;have a:noL (.tup (N.js.map L2.pairD))=true:=by unfold noL;exact gK _
 have b:noL (.tup (natsD N.os))=true:=by unfold noL;exact fO _
 rw[a,b];rfl
structure tL (N:Net)(k:Nat)(S:List (List Nat)×List Nat×List (Nat×Nat)):Prop where
 l:S.1.length=N.m+N.js.length
 r:∀us∈S.1,∀x∈us,x<S.2.1.length
 u:∀us∈S.1,us.length<=24+2*k
 rl:S.2.1.length=N.os.length+S.2.2.length
 ml:S.2.2.length<=300*k
theorem dJ (U:List (List Nat))(t g:Nat):(app U t g).length=U.length:=by unfold app;rw[zY]
theorem lr {U:List (List Nat)}{t g:Nat}{us:List Nat}(h:us∈app U t g):us∈U∨((U.getD t []∈U)/\us=U.getD t []++[g]):=by
 unfold app at h;rcases pp t U.length with q | q
 ·rcases List.mem_or_eq_of_mem_set h with z | z
  ·exact .inl z
  ·refine .inr ⟨?_,z⟩;rw[bi,bv q];exact zc q
 ·rw[Bu q]at h;exact .inl h
theorem p0 {N:Net}{k:Nat}{S:List (List Nat)×List Nat×List (Nat×Nat)}(I:tL N k S)(hk:k<=132){us:List Nat}(hu:us∈S.1)(hne:us≠[])(a b:Nat) :
  tL N (k+1) (app (app S.1 a (juU us S.2.1 S.2.2).1) b (juU us S.2.1 S.2.2).1,(juU us S.2.1 S.2.2).2.1,(juU us S.2.1 S.2.2).2.2):=by
 obtain⟨u,us',rfl⟩:=yE hne;have h1:=gm us' u S.2.1 S.2.2;have hu0:=I.r _ hu u (yW ..);have h2:=oC us' (M:=S.2.2) hu0;have hul:=I.u _ hu;have e:juU (u::us') S.2.1 S.2.2=juS us' u S.2.1 S.2.2:=rfl;rw[e];rw[wS]at hul;have rl:=I.rl;have ml:=I.ml;have mem:∀vs∈app (app S.1 a (juS us' u S.2.1 S.2.2).1) b (juS us' u S.2.1 S.2.2).1,(∀x∈vs,x<(juS us' u S.2.1 S.2.2).2.1.length)/\vs.length<=24+2*(k+1):=λvs hv=>by
  have one:∀ {U:List (List Nat)} {t n:Nat},(∀vs∈U,(∀x∈vs,x<(juS us' u S.2.1 S.2.2).2.1.length)/\vs.length<=n)->∀vs∈app U t (juS us' u S.2.1 S.2.2).1,(∀x∈vs,x<(juS us' u S.2.1 S.2.2).2.1.length)/\vs.length<=n+1:=λ{U t n} hU vs hv=>by
   rcases lr hv with z | ⟨z,rfl⟩
   ·exact⟨(hU vs z).1,Nat.le_succ_of_le (hU vs z).2⟩
   ·refine⟨λx hx=>?_,by rw[ms,yr];have:=(hU _ z).2;omega⟩;rcases zL.mp hx with q | q
    ·exact(hU _ z).1 x q
    ·rw[y7.mp q];exact h2
  have:=one (one (U:=S.1) (n:=24+2*k) λvs hv=>⟨λx hx=>by have:=I.r vs hv x hx;omega,I.u vs hv⟩) vs hv;exact⟨this.1,by omega⟩
 refine⟨by rw[dJ,dJ];exact I.l,λvs hv=>(mem vs hv).1,λvs hv=>(mem vs hv).2,?_,?_⟩
 ·show(juS us' u S.2.1 S.2.2).2.1.length=N.os.length+(juS us' u S.2.1 S.2.2).2.2.length;omega
 ·show(juS us' u S.2.1 S.2.2).2.2.length<=300*(k+1);omega
theorem bP {U:List (List Nat)}{t:Nat}(h:t<U.length):U.getD t []∈U:=by
 rw[bi,bv h];exact zc h
theorem jS {N:Net}(hN:bN N)(ok:TuOk N):∀k,k<=N.js.length->tL N k (tuAt N k)
 | 0,_=>by
  have o24:=hN.o24;refine⟨?_,λus hu x hx=>?_,λus hu=>?_,?_,yz _⟩
  ·show(eJ N).length=_;simp[eJ]
  ·obtain⟨t,_,rfl⟩:=Am.mp hu;show x<(aO N.os.length).length;rw[bf];exact za.mp (zi.mp hx).1
  ·obtain⟨t,_,rfl⟩:=Am.mp hu;have:=mF N.os N.os.length t;exact yt this (by omega)
  ·show(aO N.os.length).length=_;rw[bf];rfl
 | k+1,h=>by
  have I:=jS hN ok k (by omega);have jl:=hN.jl;have lt:N.m+(N.js.length - 1 - k)<(tuAt N k).1.length:=by rw[I.l];omega
  exact p0 I (by omega) (bP lt) (ok.j k (by omega)).1 _ _
theorem sv4 (N:Net)(R:List Nat)(M:List (Nat×Nat)){x a b c d e:Sv}(h:svNs [a,b,c,d,e]=true):svX 4 [.vl (netD N),nv N.m,.vl (.tup (N.js.map L2.pairD)),.vl (.tup (natsD N.os)),x,.ow (natsD R),.ow (M.map L2.pairD),a,b,c,d,e]=true:=by
 show(noL (netD N)&&(true&&(noL (.tup (N.js.map L2.pairD))&&(noL (.tup (natsD N.os))&&(true&&(noLs (natsD R)&&(noLs (M.map L2.pairD)&&svNs [a,b,c,d,e])))))))=true;have e1:noL (.tup (N.js.map L2.pairD))=true:=by unfold noL;exact gK _
 have e2:noL (.tup (natsD N.os))=true:=by unfold noL;exact fO _
 rw[vg,e1,e2,fO,gK,h];rfl
theorem dm (U:List (List Nat)):noLL (U.map natsD)=true:=BB.mpr λxs h=>by
 obtain⟨us,_,rfl⟩:=Am.mp h;exact fO us
theorem pG {U:List (List Nat)}{t:Nat}(h:t<U.length):atI ((U.map natsD).map D.lst) ((t:Nat):Int)=some (.lst (natsD (U.getD t []))):=by
 refine lq ?_;rw[lm,lm,bv h,bi,bv h];rfl
theorem fQ (U:List (List Nat))(t g:Nat):(U.map natsD).set t ((U.map natsD).getD t []++[nD g])=(app U t g).map natsD:=by
 have gd:(U.map natsD).getD t []=natsD (U.getD t []):=by
  rw[bi,bi,lm];cases U[t]? <;> rfl
 unfold app;rw[gd,<- cg,Fc]
theorem jZ (U:List (List Nat))(t:Nat):((U.map natsD).getD t []).length=(U.getD t []).length:=by
 rw[bi,bi,lm];cases U[t]? <;> simp
theorem p7 {N:Net}(hN:bN N)(ok:TuOk N):∀k,k<=N.m->(tgAt N k).2.1.length=N.os.length+(tgAt N k).2.2.length/\(tgAt N k).2.2.length<=300*(N.js.length+k)/\(tuAt N N.js.length).2.1.length<=(tgAt N k).2.1.length/\(tgAt N k).1.length=k
 | 0,_=>by
  have I:=jS hN ok N.js.length (lw _);exact⟨I.rl,by have:=I.ml;show(tuAt N N.js.length).2.2.length<=_;omega,lw _,rfl⟩
 | k+1,h=>by
  obtain⟨a,b,c,d⟩:=p7 hN ok k (by omega);have I:=jS hN ok N.js.length (lw _);have jl:=hN.jl;have lt:N.m - 1 - k<(tuAt N N.js.length).1.length:=by rw[I.l];omega
  have hm:=bP lt;have g:=(ok.g k (by omega)).1;obtain⟨u,us',e⟩:=yE g;have hU:=I.u _ hm;have ht:tgAt N (k+1)=((tgAt N k).1++[(juS us' u (tgAt N k).2.1 (tgAt N k).2.2).1],(juS us' u (tgAt N k).2.1 (tgAt N k).2.2).2.1,(juS us' u (tgAt N k).2.1 (tgAt N k).2.2).2.2):=by
   rw[tgAt,e];rfl
  have h1:=gm us' u (tgAt N k).2.1 (tgAt N k).2.2;rw[e,wS]at hU;rw[ht];refine⟨?_,?_,?_,?_⟩
  ·show(juS us' u (tgAt N k).2.1 (tgAt N k).2.2).2.1.length=_+(juS us' u (tgAt N k).2.1 (tgAt N k).2.2).2.2.length;omega
  ·show(juS us' u (tgAt N k).2.1 (tgAt N k).2.2).2.2.length<=_;omega
  ·show _<=(juS us' u (tgAt N k).2.1 (tgAt N k).2.2).2.1.length;omega
  ·show((tgAt N k).1++[_]).length=k+1;rw[ms,yr,d]
def rZ:ASp:=λss q=>∃(t:Nat) (R:List Nat) (M:List (Nat×Nat)),ss=[nv t,.vl (.lst (natsD [])),.ow (natsD R),.ow (M.map L2.pairD)]/\t<20000/\q (.d (nD t)) [nv t,.vl (.lst (natsD [])),.ow (natsD R),.ow (M.map L2.pairD)]
def rY:ASp:=λss q=>∃(t u:Nat) (us R:List Nat) (M:List (Nat×Nat)),ss=[nv t,.vl (.lst (natsD (u::us))),.ow (natsD R),.ow (M.map L2.pairD)]/\t<20000/\(∀x∈u::us,x<R.length)/\¬juOk us u R/\R.length+us.length<=500000/\M.length+us.length<=500000 /\
 ∀(R':List Nat) (M':List (Nat×Nat)),q (.d (nD t)) [nv t,.vl (.lst (natsD (u::us))),.ow (natsD R'),.ow (M'.map L2.pairD)]
theorem qT:∀ {us:List Nat} {g:Nat} {R:List Nat} (M:List (Nat×Nat)),¬juOk us g R->∃k y,us[k]? = some y/\juOk (us.take k) g R/\(juS (us.take k) g R M).2.1.getD (juS (us.take k) g R M).1 0=(juS (us.take k) g R M).2.1.getD y 0
 | [],_,_,_,h=>absurd trivial h
 | u::us,g,R,M,h=>by
  by_cases e:R.getD g 0=R.getD u 0
  ·exact⟨0,u,rfl,trivial,e⟩
  ·obtain⟨k,y,h1,h2,h3⟩:=qT (us:=us) (g:=R.length) (R:=R++[R.getD g 0 ^^^ R.getD u 0]) (M++[(min g u,max g u)]) λz=>h ⟨e,z⟩
   exact⟨k+1,y,h1,⟨e,h2⟩,h3⟩
theorem o7 {α:Type}{us:List α}{k n:Nat}{x:α}(hx:us[k]? = some x)(h:k<n):us.take n=us.take k++x::(us.take n).drop (k+1):=by
 have hk:=(kt.mp hx).1;conv=>lhs;rw[<- zU k (us.take n)]
 have lt:k<(us.take n).length:=by rw[yZ];omega
 rw[zr lt,List.take_take,zx (yR h),List.getElem_take];rw[bv hk]at hx;injection hx with hx;rw[hx]
def thg (N:Net)(i:Nat):Nat:=N.m+N.js.length - 1 - i
def stU (N:Net)(i:Nat):List Nat:=if i<N.js.length then(tuAt N i).1.getD (N.m+(N.js.length - 1 - i)) []else(tuAt N N.js.length).1.getD (N.m - 1 - (i - N.js.length)) []
def stR (N:Net)(i:Nat):List Nat:=if i<N.js.length then(tuAt N i).2.1 else(tgAt N (i - N.js.length)).2.1
def stOk (N:Net)(i:Nat):Prop:=vo (stU N i) (stR N i)
theorem fY {N:Net}{i:Nat}(h:i<N.js.length):stU N i=(tuAt N i).1.getD (N.m+(N.js.length - 1 - i)) []:=if_pos h
theorem hZ {N:Net}{i:Nat}(h:i<N.js.length):stR N i=(tuAt N i).2.1:=if_pos h
theorem fZ {N:Net}(k:Nat):stU N (N.js.length+k)=(tuAt N N.js.length).1.getD (N.m - 1 - k) []:=by
 unfold stU;rw[if_neg (by omega),BD]
theorem gr {N:Net}(k:Nat):stR N (N.js.length+k)=(tgAt N k).2.1:=by
 unfold stR;rw[if_neg (by omega),BD]
theorem uL {N:Net}(h:∀i,i<N.js.length+N.m->stOk N i):TuOk N :=
 ⟨λk hk=>by have:=h k (by omega);unfold stOk at this;rwa [fY hk,hZ hk]at this,λk hk=>by have:=h (N.js.length+k) (by omega);unfold stOk at this;rwa [fZ,gr]at this⟩
theorem dB {N:Net}(hN:bN N):∀k,k<=N.js.length->(∀i,i<k->stOk N i)->tL N k (tuAt N k)
 | 0,_,_=>by
  have o24:=hN.o24;refine⟨?_,λus hu x hx=>?_,λus hu=>?_,?_,yz _⟩
  ·show(eJ N).length=_;simp[eJ]
  ·obtain⟨t,_,rfl⟩:=Am.mp hu;show x<(aO N.os.length).length;rw[bf];exact za.mp (zi.mp hx).1
  ·obtain⟨t,_,rfl⟩:=Am.mp hu;have:=mF N.os N.os.length t;exact yt this (by omega)
  ·show(aO N.os.length).length=_;rw[bf];rfl
 | k+1,h,ok=>by
  have I:=dB hN k (by omega) λi hi=>ok i (by omega);have jl:=hN.jl;have lt:N.m+(N.js.length - 1 - k)<(tuAt N k).1.length:=by rw[I.l];omega
  have g:=(ok k (by omega)).1;rw[fY (by omega)]at g;exact p0 I (by omega) (bP lt) g _ _
theorem kC {N:Net}(hN:bN N):∀k,k<=N.m->(∀i,i<N.js.length+k->stOk N i)->(tgAt N k).2.1.length=N.os.length+(tgAt N k).2.2.length/\(tgAt N k).2.2.length<=300*(N.js.length+k)/\(tuAt N N.js.length).2.1.length<=(tgAt N k).2.1.length/\(tgAt N k).1.length=k
 | 0,_,ok=>by
  have I:=dB hN N.js.length (lw _) λi hi=>ok i (by omega);exact⟨I.rl,by have:=I.ml;show(tuAt N N.js.length).2.2.length<=_;omega,lw _,rfl⟩
 | k+1,h,ok=>by
  obtain⟨a,b,c,d⟩:=kC hN k (by omega) λi hi=>ok i (by omega)
  have I:=dB hN N.js.length (lw _) λi hi=>ok i (by omega);have jl:=hN.jl;have lt:N.m - 1 - k<(tuAt N N.js.length).1.length:=by rw[I.l];omega
  have hm:=bP lt;have g:=(ok (N.js.length+k) (by omega)).1;rw[fZ]at g;obtain⟨u,us',e⟩:=yE g;have hU:=I.u _ hm;have ht:tgAt N (k+1)=((tgAt N k).1++[(juS us' u (tgAt N k).2.1 (tgAt N k).2.2).1],(juS us' u (tgAt N k).2.1 (tgAt N k).2.2).2.1,(juS us' u (tgAt N k).2.1 (tgAt N k).2.2).2.2):=by
   rw[tgAt,e];rfl
  have h1:=gm us' u (tgAt N k).2.1 (tgAt N k).2.2;rw[e,wS]at hU;rw[ht];refine⟨?_,?_,?_,?_⟩
  ·show(juS us' u (tgAt N k).2.1 (tgAt N k).2.2).2.1.length=_+(juS us' u (tgAt N k).2.1 (tgAt N k).2.2).2.2.length;omega
  ·show(juS us' u (tgAt N k).2.1 (tgAt N k).2.2).2.2.length<=_;omega
  ·show _<=(juS us' u (tgAt N k).2.1 (tgAt N k).2.2).2.1.length;omega
  ·show((tgAt N k).1++[_]).length=k+1;rw[ms,yr,d]
def rV:ASp:=λss q=>∃N:Net,ss=[.vl (netD N)]/\bN N/\¬(N.os.length<=12/\N.js.length+N.os.length<=N.m+132)/\q (.d .non) [.vl (netD N)]
def rW:ASp:=λss q=>∃(N:Net) (i:Nat),ss=[.vl (netD N)]/\bN N/\N.os.length<=12/\N.js.length+N.os.length<=N.m+132/\i<N.js.length+N.m/\(∀i',i'<i->stOk N i')/\stU N i=[]/\q (.d (nD (thg N i))) [.vl (netD N)]
def rS:ASp:=λss q=>∃(N:Net) (i:Nat),ss=[.vl (netD N)]/\bN N/\N.os.length<=12/\N.js.length+N.os.length<=N.m+132/\i<N.js.length+N.m/\(∀i',i'<i->stOk N i')/\stU N i≠[]/\¬stOk N i/\q (.d (nD (thg N i))) [.vl (netD N)]
noncomputable def okB (N:Net)(i:Nat):Bool:=@decide (stOk N i) (CP _)
theorem m3 {N:Net}{i:Nat}:okB N i=true↔stOk N i:=by
 unfold okB;exact @decide_eq_true_iff _ (CP _)
noncomputable def fstT (N:Net):Option Nat:=(ym (N.js.length+N.m)).find? λi=>!okB N i
theorem s_ {N:Net}{i:Nat}(h:fstT N=some i):i<N.js.length+N.m/\(∀i',i'<i->stOk N i')/\¬stOk N i:=by
 unfold fstT at h;obtain⟨h1,j,hj,rfl,h2⟩:=CA.mp h;rw[z6]at hj;rw[Bj]at h1 ⊢;refine⟨hj,λi' hi=>?_,λz=>?_⟩
 ·have:=h2 i' hi;rw[Bj,Bool.not_not]at this;exact m3.mp this
 ·rw[m3.mpr z]at h1;cases h1
theorem oH {N:Net}(h:fstT N=none):∀i,i<N.js.length+N.m->stOk N i:=λi hi=>by
 unfold fstT at h;have:=Ce.mp h i (za.mpr hi);cases z:okB N i with
 | true=>exact m3.mp z
 | false=>rw[z]at this;exact absurd rfl this
section
variable {P:wl}{w:yF}{K:ac}{mg:Str->Option bd}{base:Heap}
theorem pL {gA1 v4 f_Loose:Addr}(i_n:jH K gA1 f_Loose "thing" "Loose.__init__" dP ["self", "thing"])(b:jP K v4)(B:BI mg)(m:mg "JoinError" = some (.ref v4)) :
  ∃fd,ly K fd ["self", "thing"] []/\FnOk P w K mg base CX0 1 f_Loose fd ["self", "thing"] (spIP gA1 "thing"):=by
 obtain⟨fd,F,hb⟩:=i_n.fn;refine⟨fd,.all hb,F.ok (k:=0) qm (λvs H Q E h=>by obtain⟨e,n,rfl,_⟩:=h;rfl) (λcdv A outer s H vs Q E hr h=>?_)⟩;obtain⟨e,n,rfl,hn,he,hq⟩:=h;refine⟨_,aJ (bX (og (C:=gA1) b (j0 i_n.xi.cl) m (aj (pv 0) (aj (lN (i_ dj (i_ (t7 (pv 1)) (i_ dj t6)))) ar)))) (aW (qD i_n.xi (pv 1) (pv 0))),?_⟩;refine⟨.ref e,rfl,j3 (by decide +kernel) (by decide +kernel) hn rfl λt=>⟨e,none,_,rfl,he,.int n,rfl,e,rfl,he,hq⟩⟩
theorem mX (dn:DefN K mg "out_uses" fM ["net"])(B:BI mg):OkN P w K mg base 1 "out_uses" ["net"] (spA K gV):=by
 refine dn.aok2 (k:=0) cK (λj=>j==0) [.un,.un,.un,.un,.un,.un] gV rfl (λf cdv A outer s H E hr=>have hu:=cR hr;⟨_,(aJ (dF (pv 0) (bJ K (n:=3) rfl (aI (aK (i:=1) cK.nd rfl (by first | exact Or.inl rfl | exact Or.inr rfl)) (aI (aK (i:=2) cK.nd rfl (by first | exact Or.inl rfl | exact Or.inr rfl)) (aI (aK (i:=3) cK.nd rfl (by first | exact Or.inl rfl | exact Or.inr rfl)) bI)))))
  (aJ (iw (kL (i:=4) ["thing"] [] cK.nd rfl (by first | exact Or.inl rfl | exact Or.inr rfl) rfl (Blk.of (aM fM) jo) (di rfl B.range_ (aj (bE cf (pv 1) (aS (aP K) rfl B.len_ bC (aj (pv 2) ar))) ar)) (λ_ _ _ _ nd=>(aK (i:=0) nd rfl (by first | exact Or.inl rfl | exact Or.inr rfl))) (λ_ _ _ _=>eO) (λ_ _ _ _=>(lM ar))))
  (aJ (ia zR rfl (sM K rfl B.enumerate_ (aj (pv 3) ar)) (bJ K (n:=2) rfl (aI (aK (i:=5) cK.nd rfl (by first | exact Or.inl rfl | exact Or.inr rfl)) (aI (aK (i:=6) cK.nd rfl (by first | exact Or.inl rfl | exact Or.inr rfl)) bI)))
  (aW (iw (bX (da K wT wP wE bO (bK (aT K) (pv 4) (pv 6) (λ_ _=>rfl)) (aj (pv 5) ar))))))
  (aW (cv (pv 4)))))),(az (cH af (bw (aw (aA rfl) (aw (aA rfl) (aw (aA rfl) ba (λ_ _ _=>aQ)) (λ_ _ _=>aQ)) (λ_ _ _=>aQ))))
  (az (qi (i:=4) (dg (aa (aG bj af (bc aX (aa af aq))) aq)) rfl)
  (az (dc (pin:=(λj=>j==3)) (o6 (aa af aq)) (bw (aw (aA rfl) (aw (aA rfl) ba (λ_ _ _=>aQ)) (λ_ _ _=>aQ)))
  (dD (i:=4) (j:=6) (k:=5)))
  (qj (i:=4) rfl))))⟩) ?_
 rintro ss q ⟨N,rfl,hN,hq⟩;have jl:=hN.jl;have m12:=hN.m12;have o24:=hN.o24;refine⟨rfl,rfl,?_⟩;refine cutS (λρ=>ρ=[.vl (netD N),nv N.m,.vl (.tup (N.js.map L2.pairD)),.vl (.tup (natsD N.os)),.un,.un,.un]) (λM hM=>hM _ rfl) ?_;rintro _ rfl;have ell:∀k,(ym (N.m+N.js.length)).map (λt=>natsD (usP N.os k t))=(usA N.os (N.m+N.js.length) k).map natsD:=λk=>by unfold usA;rw[zm];rfl
 refine cutS (λρ=>ρ=[.vl (netD N),nv N.m,.vl (.tup (N.js.map L2.pairD)),.vl (.tup (natsD N.os)),.ll ((usA N.os (N.m+N.js.length) 0).map natsD),.un,.un]) (λM hM=>?_) ?_
 ·refine⟨⟨by omega,by rw[db];omega⟩,by rw[cz,db];omega,λ_=>trivial,?_⟩;have e0:(rngD 0 ((N.m:Int)+(((N.js.map L2.pairD).length:Nat):Int)).toNat).map (λ_=>([]:List D))=(usA N.os (N.m+N.js.length) 0).map natsD:=by
   unfold rngD usA;rw[zm,zm,db,show((N.m:Int)+((N.js.length:Nat):Int)).toNat=N.m+N.js.length by omega];rfl
  rw[e0];exact hM _ rfl
 rintro _ rfl;refine cutS (λρ=>∃s5 s6,ρ=[.vl (netD N),nv N.m,.vl (.tup (N.js.map L2.pairD)),.vl (.tup (natsD N.os)),.ll ((usA N.os (N.m+N.js.length) N.os.length).map natsD),s5,s6]) (λM hM=>?_) ?_
 ·refine dW (λk ρ=>k<=N.os.length/\∃s5 s6,ρ=[.vl (netD N),nv N.m,.vl (.tup (N.js.map L2.pairD)),.vl (.tup (natsD N.os)),.ll ((usA N.os (N.m+N.js.length) k).map natsD),s5,s6]) (λ_ _ _ _=>trivial) ?_ (λρ ⟨_,s5,s6,e⟩=>?_) _ ⟨yz _,.un,.un,rfl⟩
  ·rintro k d _ M2 hk ⟨_,s5,s6,rfl⟩ hM2;obtain⟨x,ex,rfl⟩:=cZ hk;unfold natsD at ex;rw[lm]at ex;obtain⟨o,eo,rfl⟩:=wp.mp ex;have hko:=(kt.mp eo).1;have ho:=hN.os o (yp eo);have eg:N.os.getD k 0=o:=by rw[bi,eo];rfl
   refine uF ?_;rw[zw];have key:=uD (os:=N.os) (n:=N.m+N.js.length) (k:=k) (by rw[eg];exact ho);rw[eg]at key;have gd:((usA N.os (N.m+N.js.length) k).map natsD).getD o []=natsD ((usA N.os (N.m+N.js.length) k).getD o []):=by
    rw[bi,bi,lm];cases (usA N.os (N.m+N.js.length) k)[o]? <;> rfl
   refine⟨(usA N.os (N.m+N.js.length) k).map natsD,o,nD k,rfl,rfl,rfl,by rw[db,kn];exact ho,?_,hM2 _ ⟨hko,nv k,nv o,?_⟩⟩
   ·rw[gd,aN,tT ho];have:=mF N.os k o;omega
   ·rw[gd,<- cg,<- Fc,key];rfl
  ·rw[bR,aN]at e;exact hM ρ ⟨s5,s6,e⟩
 rintro _ ⟨s5,s6,rfl⟩;exact⟨_,rfl,hq⟩
theorem jL (dn:DefN K mg "joined_uses" cT ["thing", "uses", "rows", "made"])(B:BI mg)(gA9:OkN P w K mg base 1 "joining" ["one", "other"] (spA K fR))(gA8:OkN P w K mg base 1 "joined" ["one", "other"] (spA K fF)):OkN P w K mg base 2 "joined_uses" ["thing", "uses", "rows", "made"] (spA K mE):=by
 refine dn.aok2 (k:=1) bB (λj=>j==0||j==1||j==2||j==3) [.un,.un] mE rfl (λf cdv A outer s H E hr=>have hu:=cR hr;⟨_,(aJ (gi (qA (i5 K (pv 1) (λ_=>rfl)))
  (aW fN)
  cM)
  (aJ (bg (i:=4) bB.nd rfl (by first | exact Or.inl rfl | exact Or.inr rfl) (bK (aT K) (pv 1) bt (λ_ _=>rfl)))
  (aJ (ia zR rfl (fu K (gB (gA K) (pv 1) (g6 bt) i9)) (aK (i:=5) bB.nd rfl (by first | exact Or.inl rfl | exact Or.inr rfl))
  (aJ (gi (br (jf K hr.units) (bK (aT K) (pv 2) (pv 4) (λ_ _=>rfl)) (bK (aT K) (pv 2) (pv 5) (λ_ _=>rfl)) (bM _))
  (aW fN)
  cM)
  (aJ (bX (da K wT wP wE bO (pv 3) (aj (bL gA9 (hr.mono (by decide)) (aj (pv 4) (aj (pv 5) ar))) ar)))
  (aJ (bX (da K wT wP wE bO (pv 2) (aj (bL gA8 (hr.mono (by decide)) (aj (bK (aT K) (pv 2) (pv 4) (λ_ _=>rfl)) (aj (bK (aT K) (pv 2) (pv 5) (λ_ _=>rfl)) ar))) ar)))
  (aW (bg (i:=4) bB.nd rfl (by first | exact Or.inl rfl | exact Or.inr rfl) (bE gF (aS (aP K) rfl B.len_ bC (aj (pv 2) ar)) bt)))))))
  (aW (cv (pv 4)))))),(az (cp (ku (kr af))
  bF
  aV)
  (az (aZ (aG bu af be) rfl)
  (az (dc (pin:=(λ_=>false)) (dO (kz af (fm be) ky)) (aA rfl)
  (az (cp (aY (aG jg (aG bu af af) (aG bu af af)))
  bF
  aV)
  (az (cq (dC af (aa (aL (aa af (aa af aq))) aq)))
  (az (cq (dC af (aa (aL (aa (aG bu af af) (aa (aG bu af af) aq))) aq)))
  (aZ (aG bj (bc aX (aa af aq)) be) rfl)))))
  (bV af))))⟩) ?_
 rintro ss q ⟨t,u,us,R,M,rfl,hu,hok,l1,l2,hq⟩;have dI:∀ {i:Int},D.depth (.int i)<=60:=λ{i}=>by simp[D.depth]
 refine⟨rfl,rfl,?_⟩;refine cutS (λρ=>ρ=[nv t,.vl (.lst (natsD (u::us))),.ow (natsD R),.ow (M.map L2.pairD),.un,.un]) (λM2 hM2=>hM2 _ rfl) ?_;rintro _ rfl;refine cutS (λρ=>ρ=[nv t,.vl (.lst (natsD (u::us))),.ow (natsD R),.ow (M.map L2.pairD),nv u,.un]) (λM2 hM2=>bb rfl (EG _) (hM2 _ rfl)) ?_;rintro _ rfl;refine cutS (λρ=>∃s5,ρ=[nv t,.vl (.lst (natsD (u::us))),.ow (natsD (juS us u R M).2.1),.ow ((juS us u R M).2.2.map L2.pairD),nv (juS us u R M).1,s5]) (λM2 hM2=>?_) ?_
 ·have e1:L2.cutD (natsD (u::us)) (some 1) none=natsD us:=by
   show L2.cutD (natsD (u::us)) (some ((1:Nat):Int)) none=_;rw[l8];rfl
  show forA _ _ _ _ (L2.cutD (natsD (u::us)) (some 1) none) _;have us3:(juS us u R M).2.1.length=R.length+us.length:=(gm us u R M).1;rw[e1];refine iK nD (λk ρ=>∃s5,ρ=[nv t,.vl (.lst (natsD (u::us))),.ow (natsD (juS (us.take k) u R M).2.1),.ow ((juS (us.take k) u R M).2.2.map L2.pairD),nv (juS (us.take k) u R M).1,s5]) (λ_ _ _=>trivial) ?_ (λρ ⟨s5,e⟩=>by rw[BA]at e;exact hM2 ρ ⟨s5,e⟩) ⟨.un,rfl⟩;rintro k x _ M3 hx ⟨s5,rfl⟩ hM3;have hk:=(kt.mp hx).1;have hxu:x<R.length:=hu x (yN _ (yp hx));have sp:us=us.take k++x::us.drop (k+1):=by
   conv=>lhs;rw[<- zU k us]
   rw[zr hk];rw[bv hk]at hx;injection hx with hx;rw[hx]
  have hne:=m_ (us.take k) (y:=x) (ys:=us.drop (k+1)) M (by rw[<- sp];exact hok);have hsn:us.take (k+1)=us.take k++[x]:=by rw[Ah,hx];rfl
  have ln:=gm (us.take k) u R M;have lt:=oC (us.take k) (g:=u) (R:=R) (M:=M) (hu u (yW ..));have tk:(us.take k).length<=us.length:=by rw[yZ];omega
  have hnext:=kZ (us.take k) x u R M;rw[<- hsn]at hnext;generalize juS (us.take k) u R M=J at *;obtain⟨g,R1,M1⟩:=J;dsimp only at ln lt hne hnext ⊢;refine gaN1 ?_;show aSeq _ _ _ [nv t,.vl (.lst (natsD (u::us))),.ow (natsD R1),.ow (M1.map L2.pairD),nv g,nv x];refine cutS (λρ=>ρ=[nv t,.vl (.lst (natsD (u::us))),.ow (natsD R1),.ow (M1.map L2.pairD),nv g,nv x]) (λM4 hM4=>bb rfl lt (bb rfl (by omega) (dv rfl rfl dI rfl (ite2 (λz=>?_) λ_=>hM4 _ rfl)))) ?_
  ·exfalso;apply hne;have:=of_decide_eq_true (p:=((R1.getD g 0:Nat):Int)=((R1.getD x 0:Nat):Int)) z;omega
  rintro _ rfl;refine cutS (λρ=>ρ=[nv t,.vl (.lst (natsD (u::us))),.ow (natsD R1),.ow ((M1++[(min g x,max g x)]).map L2.pairD),nv g,nv x]) (λM4 hM4=>⟨rfl,g,x,rfl,by rw[db];omega,?_⟩) ?_
  ·have:=hM4 _ rfl;rw[yo]at this;exact this
  rintro _ rfl;refine cutS (λρ=>ρ=[nv t,.vl (.lst (natsD (u::us))),.ow (natsD (R1++[R1.getD g 0 ^^^ R1.getD x 0])),.ow ((M1++[(min g x,max g x)]).map L2.pairD),nv g,nv x]) (λM4 hM4=>bb rfl lt (bb rfl (by omega) ⟨rfl,_,_,rfl,by rw[aN];omega,?_⟩)) ?_
  ·have:=hM4 _ rfl;rw[cg]at this;exact this
  rintro _ rfl;refine hM3 _ ⟨nv x,?_⟩;rw[hnext];have eg:((((natsD (R1++[R1.getD g 0 ^^^ R1.getD x 0])).length:Nat):Int) - 1)=((R1.length:Nat):Int):=by rw[aN,ms,yr];omega
  show[nv t,.vl (.lst (natsD (u::us))),.ow (natsD (R1++[R1.getD g 0 ^^^ R1.getD x 0])),.ow ((M1++[(min g x,max g x)]).map L2.pairD),Sv.vl (D.int ((((natsD (R1++[R1.getD g 0 ^^^ R1.getD x 0])).length:Nat):Int) - 1)),nv x]=_;rw[eg]
 rintro _ ⟨s5,rfl⟩;exact hq
theorem kR (dn:DefN K mg "turned_net" b_ ["net"])(B:BI mg)(gB2:OkN P w K mg base 1 "out_uses" ["net"] (spA K gV))(gA6:OkN P w K mg base 1 "own_rows" ["many"] (spA K SOwn))(gA5:OkN P w K mg base 2 "joined_uses" ["thing", "uses", "rows", "made"] (spA K mE))(gA2:∃u,mg "MOST_GIVENS" = some u/\RelV (.int 12) u)(gA3:∃u,mg "MOST_JOINS" = some u/\RelV (.int 132) u):OkN P w K mg base 3 "turned_net" ["net"] (spA K nN):=by
 refine dn.aok2 (k:=2) aF (λj=>j==0) [.un,.un,.un,.un,.un,.un,.un,.un,.un,.un,.un] nN rfl (λf cdv A outer s H E hr=>have hu:=cR hr;⟨_,(aJ (dF (pv 0) (bJ K (n:=3) rfl (aI (aK (i:=1) aF.nd rfl (by first | exact Or.inl rfl | exact Or.inr rfl)) (aI (aK (i:=2) aF.nd rfl (by first | exact Or.inl rfl | exact Or.inr rfl)) (aI (aK (i:=3) aF.nd rfl (by first | exact Or.inl rfl | exact Or.inr rfl)) bI)))))
  (aJ (gi (PW.pt (jK (br fU (aS (aP K) rfl B.len_ bC (aj (pv 3) ar)) (gE gA2 rfl) (bM _)) (h_ (br fU (bE gF (bE cf (aS (aP K) rfl B.len_ bC (aj (pv 2) ar)) (aS (aP K) rfl B.len_ bC (aj (pv 3) ar))) (pv 1)) (gE gA3 rfl) (bM _)))))
  (aW fN)
  cM)
  (aJ (bg (i:=4) aF.nd rfl (by first | exact Or.inl rfl | exact Or.inr rfl) (bL gB2 (hr.mono (by decide)) (aj (pv 0) ar)))
  (aJ (bg (i:=5) aF.nd rfl (by first | exact Or.inl rfl | exact Or.inr rfl) (bL gA6 (hr.mono (by decide)) (aj (aS (aP K) rfl B.len_ bC (aj (pv 3) ar)) ar)))
  (aJ (bg (i:=6) aF.nd rfl (by first | exact Or.inl rfl | exact Or.inr rfl) (lM ar))
  (aJ (ia zR rfl (qF K rfl B.reversed_ (aj (qH K rfl rfl B.list_ rfl B.enumerate_ (aj (pv 2) ar)) ar)) (bJ K (n:=2) rfl (aI (aK (i:=7) aF.nd rfl (by first | exact Or.inl rfl | exact Or.inr rfl)) (aI (bJ K (n:=2) rfl (aI (aK (i:=8) aF.nd rfl (by first | exact Or.inl rfl | exact Or.inr rfl)) (aI (aK (i:=9) aF.nd rfl (by first | exact Or.inl rfl | exact Or.inr rfl)) bI))) bI)))
  (aJ (iw (bg (i:=10) aF.nd rfl (by first | exact Or.inl rfl | exact Or.inr rfl) (bL gA5 (hr.mono (by decide)) (aj (bE cf (pv 1) (pv 7)) (aj (bK (aT K) (pv 4) (bE cf (pv 1) (pv 7)) (λ_ _=>rfl)) (aj (pv 5) (aj (pv 6) ar)))))))
  (aJ (iw (bX (da K wT wP wE bO (bK (aT K) (pv 4) (pv 8) (λ_ _=>rfl)) (aj (pv 10) ar))))
  (aW (iw (bX (da K wT wP wE bO (bK (aT K) (pv 4) (pv 9) (λ_ _=>rfl)) (aj (pv 10) ar))))))))
  (aJ (iw (kL (i:=11) ["given"] [4,5,6] aF.nd rfl (by first | exact Or.inl rfl | exact Or.inr rfl) rfl (Blk.of (aM b_) dy) (mP rfl B.reversed_ rfl B.range_ (aj (pv 1) ar)) (λ_ _ _ _ nd=>(aK (i:=0) nd rfl (by first | exact Or.inl rfl | exact Or.inr rfl))) (λ_ _ _ _=>eO) (λ_ _ _ _=>(bL gA5 (hr.mono (by decide)) (aj (pv 0) (aj (bK (aT K) (pv 1) (pv 0) (λ_ _=>rfl)) (aj (pv 2) (aj (pv 3) ar))))))))
  (aW (cv (lL (aj (aS (aP K) rfl B.len_ bC (aj (pv 3) ar)) (aj (cc (de K) rfl B.tuple_ fP (aj (pv 6) ar)) (aj (cc (de K) rfl B.tuple_ fP (aj (u9 K (pv 11) (g6 (xP v3 bt)) (ops:=λv i=>[v,i]) (htl:=λ_ _=>rfl)) ar)) ar))))))))))))),(az (cH af (bw (aw (aA rfl) (aw (aA rfl) (aw (aA rfl) ba (λ_ _ _=>aQ)) (λ_ _ _=>aQ)) (λ_ _ _=>aQ))))
  (az (cp (dX (aY (aG cU (bc aX (aa af aq)) be)) (aY (aG cU (aG bj (aG bj (bc aX (aa af aq)) (bc aX (aa af aq))) af) be)))
  bF
  aV)
  (az (aZ (aL (aa af aq)) rfl)
  (az (aZ (aL (aa (bc aX (aa af aq)) aq)) rfl)
  (az (aZ (kA aq) rfl)
  (az (dc (pin:=(λ_=>false)) (kB (aa (mG (aa af aq)) aq)) (bw (aw (aA rfl) (aw (bw (aw (aA rfl) (aw (aA rfl) ba (λ_ _ _=>aQ)) (λ_ _ _=>aQ))) ba (λ_ _ _=>l3)) (λ_ _ _=>aQ)))
  (az (iH (i:=4) (aZ (aL (aa (aG bj af af) (aa (aG bu af (aG bj af af)) (aa af (aa af aq))))) rfl))
  (az (dD (i:=4) (j:=8) (k:=10))
  (dD (i:=4) (j:=9) (k:=10)))))
  (az (iH (i:=4) (kF (dw (iO (aa af aq)) (aA rfl) dN (aL (aa af (aa (aG bu af af) (aa af (aa af aq)))))) rfl))
  (bV (iN (aa (bc aX (aa af aq)) (aa (bc dA (aa af aq)) (aa (bc dA (aa (uM af (fm (uN be))) aq)) aq))))))))))))⟩) ?_
 rintro ss q ⟨N,rfl,hN,ho,hj,hok,hq⟩;have jl:=hN.jl;have m12:=hN.m12;have o1:=hN.o1;refine⟨rfl,rfl,?_⟩;refine cutS (λρ=>ρ=[.vl (netD N),nv N.m,.vl (.tup (N.js.map L2.pairD)),.vl (.tup (natsD N.os)),.un,.un,.un,.un,.un,.un,.un,.un]) (λM hM=>hM _ rfl) ?_;rintro _ rfl;refine cutS (λρ=>ρ=[.vl (netD N),nv N.m,.vl (.tup (N.js.map L2.pairD)),.vl (.tup (natsD N.os)),.un,.un,.un,.un,.un,.un,.un,.un]) (λM hM=>?_) ?_
 ·have g1:decide ((12:Int)<(((natsD N.os).length:Nat):Int))=false:=by rw[aN,decide_eq_false_iff_not];omega
  have g2:decide ((132:Int)<(((N.js.map L2.pairD).length:Nat):Int)+(((natsD N.os).length:Nat):Int) - (N.m:Int))=false:=by rw[aN,db,decide_eq_false_iff_not];omega
  show if decide ((12:Int)<(((natsD N.os).length:Nat):Int))=true then _ else(if decide ((132:Int)<(((N.js.map L2.pairD).length:Nat):Int)+(((natsD N.os).length:Nat):Int) - (N.m:Int))=true then _ else _)
  rw[g1,g2];exact hM _ rfl
 rintro _ rfl;refine cutS (λρ=>ρ=[.vl (netD N),nv N.m,.vl (.tup (N.js.map L2.pairD)),.vl (.tup (natsD N.os)),.ll ((eJ N).map natsD),.un,.un,.un,.un,.un,.un,.un]) (λM hM=>⟨rfl,N,rfl,hN,hM _ rfl⟩) ?_;rintro _ rfl;refine cutS (λρ=>ρ=[.vl (netD N),nv N.m,.vl (.tup (N.js.map L2.pairD)),.vl (.tup (natsD N.os)),.ll ((eJ N).map natsD),.ow (natsD (aO N.os.length)),.un,.un,.un,.un,.un,.un]) (λM hM=>?_) ?_
 ·refine⟨rfl,N.os.length,by rw[aN];rfl,by omega,hM _ rfl⟩
 rintro _ rfl;refine cutS (λρ=>ρ=[.vl (netD N),nv N.m,.vl (.tup (N.js.map L2.pairD)),.vl (.tup (natsD N.os)),.ll ((eJ N).map natsD),.ow (natsD (aO N.os.length)),.ow (([]:List (Nat×Nat)).map L2.pairD),.un,.un,.un,.un,.un]) (λM hM=>⟨yz _,hM _ rfl⟩) ?_;rintro _ rfl;refine cutS (λρ=>∃s7 s8 s9 s10,svNs [s7,s8,s9,s10]=true/\ρ=[.vl (netD N),nv N.m,.vl (.tup (N.js.map L2.pairD)),.vl (.tup (natsD N.os)),.ll ((tuAt N N.js.length).1.map natsD),.ow (natsD (tuAt N N.js.length).2.1),.ow ((tuAt N N.js.length).2.2.map L2.pairD),s7,s8,s9,s10,.un]) (λM hM=>?_) ?_
 ·refine dW (λk ρ=>k<=N.js.length/\∃s7 s8 s9 s10,svNs [s7,s8,s9,s10]=true/\ρ=[.vl (netD N),nv N.m,.vl (.tup (N.js.map L2.pairD)),.vl (.tup (natsD N.os)),.ll ((tuAt N k).1.map natsD),.ow (natsD (tuAt N k).2.1),.ow ((tuAt N k).2.2.map L2.pairD),s7,s8,s9,s10,.un]) (λ_ _ _ _=>trivial) ?_ (λρ ⟨_,s7,s8,s9,s10,h1,e⟩=>?_) _ ⟨yz _,.un,.un,.un,.un,rfl,rfl⟩
  ·rintro k d _ M2 hk ⟨_,s7,s8,s9,s10,hsv,rfl⟩ hM2;have lk:k<N.js.length:=by
    have:=(kt.mp hk).1;rwa [zt,bR,db]at this
   rw[Af (by rw[bR,db];exact lk),bR,db]at hk;obtain⟨x,ex,rfl⟩:=cZ hk;rw[lm]at ex;obtain⟨p,ep,rfl⟩:=wp.mp ex;rw[zw];have I:=jS hN hok k (by omega);have okj:=hok.j k lk;refine iP (d2:=nD p.1) (d3:=nD p.2) ?_;show aSeq _ _ _ [.vl (netD N),nv N.m,.vl (.tup (N.js.map L2.pairD)),.vl (.tup (natsD N.os)),.ll ((tuAt N k).1.map natsD),.ow (natsD (tuAt N k).2.1),.ow ((tuAt N k).2.2.map L2.pairD),nv (N.js.length - 1 - k),nv p.1,nv p.2,s10,.un];have pm:=bY (cV hN.js) ep;rw[bf]at pm;have lt:N.m+(N.js.length - 1 - k)<(tuAt N k).1.length:=by rw[I.l];omega
   have hmem:=bP lt;have hnx:tuAt N (k+1)=(app (app (tuAt N k).1 p.1 (juU ((tuAt N k).1.getD (N.m+(N.js.length - 1 - k)) []) (tuAt N k).2.1 (tuAt N k).2.2).1) p.2 (juU ((tuAt N k).1.getD (N.m+(N.js.length - 1 - k)) []) (tuAt N k).2.1 (tuAt N k).2.2).1,(juU ((tuAt N k).1.getD (N.m+(N.js.length - 1 - k)) []) (tuAt N k).2.1 (tuAt N k).2.2).2.1,(juU ((tuAt N k).1.getD (N.m+(N.js.length - 1 - k)) []) (tuAt N k).2.1 (tuAt N k).2.2).2.2):=by
    have egp:N.js.getD (N.js.length - 1 - k) (0,0)=p:=by rw[bi,ep];rfl
    rw[tuAt,egp]
   have I2:=jS hN hok (k+1) (by omega);have hat:=pG lt;have hU:=I.u _ hmem;have hR:=I.r _ hmem;generalize hus:(tuAt N k).1.getD (N.m+(N.js.length - 1 - k)) []=us at *;obtain⟨u,us',rfl⟩:=yE okj.1;have hj2:=okj.2;rw[hnx]at I2;have ec:((N.m:Int)+((N.js.length - 1 - k:Nat):Int))=((N.m+(N.js.length - 1 - k):Nat):Int):=by omega
   have rl:=I.rl;have ml:=I.ml;have l1:=I.l;generalize tuAt N k=S at *;rw[wS]at hU;refine cutS (λρ=>ρ=[.vl (netD N),nv N.m,.vl (.tup (N.js.map L2.pairD)),.vl (.tup (natsD N.os)),.ll (S.1.map natsD),.ow (natsD (juU (u::us') S.2.1 S.2.2).2.1),.ow ((juU (u::us') S.2.1 S.2.2).2.2.map L2.pairD),nv (N.js.length - 1 - k),nv p.1,nv p.2,nv (juU (u::us') S.2.1 S.2.2).1,.un]) (λM3 hM3=>⟨S.1.map natsD,rfl,sv4 N _ _ ?_,dm _,?_⟩) ?_
   ·have:=bH 3 hsv;show(true&&(true&&(true&&(svN s10&&true))))=true;rw[show svN s10=true from this];rfl
   ·refine jO rfl (by rw[ec];exact hat) ⟨rfl,N.m+(N.js.length - 1 - k),u,us',S.2.1,S.2.2,?_,hR,hj2,by omega,by omega,?_⟩
    ·show[Sv.vl (.int ((N.m:Int)+((N.js.length - 1 - k:Nat):Int))),_,_,_]=_;rw[ec];rfl
    ·exact⟨rfl,sv4 N _ _ rfl,hM3 _ rfl⟩
   rintro _ rfl;refine cutS (λρ=>ρ=[.vl (netD N),nv N.m,.vl (.tup (N.js.map L2.pairD)),.vl (.tup (natsD N.os)),.ll ((app S.1 p.1 (juU (u::us') S.2.1 S.2.2).1).map natsD),.ow (natsD (juU (u::us') S.2.1 S.2.2).2.1),.ow ((juU (u::us') S.2.1 S.2.2).2.2.map L2.pairD),nv (N.js.length - 1 - k),nv p.1,nv p.2,nv (juU (u::us') S.2.1 S.2.2).1,.un]) (λM3 hM3=>⟨S.1.map natsD,p.1,_,rfl,rfl,rfl,by rw[db];omega,?_,?_⟩) ?_
   ·rw[jZ];have:=I.u _ (bP (show p.1<S.1.length by omega));omega
   ·have:=hM3 _ rfl;rw[<- fQ]at this;exact this
   rintro _ rfl;refine⟨(app S.1 p.1 (juU (u::us') S.2.1 S.2.2).1).map natsD,p.2,nD (juU (u::us') S.2.1 S.2.2).1,rfl,rfl,rfl,by rw[db,dJ];omega,?_,hM2 _ ⟨by omega,nv (N.js.length - 1 - k),nv p.1,nv p.2,nv (juU (u::us') S.2.1 S.2.2).1,rfl,?_⟩⟩
   ·rw[jZ];rcases lr (bP (show p.2<(app S.1 p.1 (juU (u::us') S.2.1 S.2.2).1).length by rw[dJ];omega))with z | ⟨z,e⟩
    ·have:=I.u _ z;omega
    ·have:=I.u _ z;rw[e,ms,yr];omega
   ·rw[hnx,fQ];rfl
  ·rw[zt,bR,db]at e;exact hM ρ ⟨s7,s8,s9,s10,h1,e⟩
 rintro _ ⟨s7,s8,s9,s10,hsv,rfl⟩;have I:=jS hN hok N.js.length (lw _);refine cutS (λρ=>ρ=[.vl (netD N),nv N.m,.vl (.tup (N.js.map L2.pairD)),.vl (.tup (natsD N.os)),.ll ((tuAt N N.js.length).1.map natsD),.ow (natsD (tgAt N N.m).2.1),.ow ((tgAt N N.m).2.2.map L2.pairD),s7,s8,s9,s10,.ow (natsD (tgAt N N.m).1)]) (λM hM=>⟨_,rfl,sv4 N _ _ ?_,dm _,?_⟩) ?_
 ·show svNs [s7,s8,s9,s10,.un]=true;have h0:=bH 0 hsv;have h1:=bH 1 hsv;have h2:=bH 2 hsv;have h3:=bH 3 hsv;show(svN s7&&(svN s8&&(svN s9&&(svN s10&&true))))=true;rw[show svN s7=true from h0,show svN s8=true from h1,show svN s9=true from h2,show svN s10=true from h3];rfl
 ·refine⟨⟨by omega,by omega⟩,?_⟩;refine⟨by rw[eQ];omega,?_⟩;refine eC (λk acc ρ=>k<=N.m/\acc=natsD (tgAt N k).1/\ρ=[.vl (netD N),nv N.m,.vl (.tup (N.js.map L2.pairD)),.vl (.tup (natsD N.os)),.vl (llD ((tuAt N N.js.length).1.map natsD)),.ow (natsD (tgAt N k).2.1),.ow ((tgAt N k).2.2.map L2.pairD),s7,s8,s9,s10,.un]) (λ_ _ _ _ _=>trivial) ?_ ?_ _ ⟨yz _,rfl,rfl⟩
  ·rintro k d acc _ M2 hk ⟨_,rfl,rfl⟩ hM2;obtain⟨lk,rfl⟩:=la hk;have lk:k<N.m:=by omega
   obtain⟨g1,g2,g3,g4⟩:=p7 hN hok k (by omega);have okg:=hok.g k lk;have lt:N.m - 1 - k<(tuAt N N.js.length).1.length:=by rw[I.l];omega
   have hmem:=bP lt;have hat:=pG lt;have hU:=I.u _ hmem;have hR:=I.r _ hmem;have ht:tgAt N (k+1)=((tgAt N k).1++[(juU ((tuAt N N.js.length).1.getD (N.m - 1 - k) []) (tgAt N k).2.1 (tgAt N k).2.2).1],(juU ((tuAt N N.js.length).1.getD (N.m - 1 - k) []) (tgAt N k).2.1 (tgAt N k).2.2).2.1,(juU ((tuAt N N.js.length).1.getD (N.m - 1 - k) []) (tgAt N k).2.1 (tgAt N k).2.2).2.2):=by rw[tgAt]
   generalize hus:(tuAt N N.js.length).1.getD (N.m - 1 - k) []=us at *;obtain⟨u,us',rfl⟩:=yE okg.1;have ec:((N.m:Int) - 1 - (k:Int))=((N.m - 1 - k:Nat):Int):=by omega
   have hj2:=okg.2;rw[wS]at hU;refine gaN1 ?_;rw[ec];refine jO rfl hat ⟨rfl,N.m - 1 - k,u,us',(tgAt N k).2.1,(tgAt N k).2.2,rfl,λx hx=>nw (hR x hx) g3,hj2,by omega,by omega,?_⟩;refine hM2 _ _ ⟨by omega,?_,?_⟩
   ·rw[ht];show natsD (tgAt N k).1++[nD _]=natsD ((tgAt N k).1++[_]);rw[cg];rfl
   ·rw[ht];rfl
  ·rintro acc _ ⟨_,rfl,rfl⟩;rw[eQ,zM];refine⟨rfl,sv4 N _ _ ?_,hM _ rfl⟩;have h0:=bH 0 hsv;have h1:=bH 1 hsv;have h2:=bH 2 hsv;have h3:=bH 3 hsv;show(svN s7&&(svN s8&&(svN s9&&(svN s10&&(noLs (natsD (tgAt N N.m).1)&&true)))))=true;rw[show svN s7=true from h0,show svN s8=true from h1,show svN s9=true from h2,show svN s10=true from h3,fO];rfl
 rintro _ rfl;obtain⟨g1,g2,g3,g4⟩:=p7 hN hok N.m (lw _);have eT:(natsD (tgAt N N.m).1).reverse=natsD (tgAt N N.m).1.reverse:=by unfold natsD;rw[List.map_reverse]
 refine⟨rfl,by simp,?_⟩;rw[eT,aN];exact hq
theorem fx {gA1 v4 f_Loose:Addr}(m_Loose:mg "Loose" = some (.ref gA1))(m_JoinError:mg "JoinError" = some (.ref v4))(in_Loose:jH K gA1 f_Loose "thing" "Loose.__init__" dP ["self", "thing"])(bs_JoinError:jP K v4)(dn:DefN K mg "joined_uses" cT ["thing", "uses", "rows", "made"])(B:BI mg)(gA9:OkN P w K mg base 1 "joining" ["one", "other"] (spA K fR))(gA8:OkN P w K mg base 1 "joined" ["one", "other"] (spA K fF)):OkX P w K mg base 3 "joined_uses" ["thing", "uses", "rows", "made"] gA1 (some "thing") (spA K rZ):=by
 obtain⟨fd_Loose,bi_Loose,fi_Loose⟩:=pL (P:=P) (w:=w) (base:=base) in_Loose bs_JoinError B m_JoinError;refine dn.aokX (k:=2) bB (λj=>j==0||j==1||j==2||j==3) [.un,.un] rZ gA1 (some "thing") rfl (λf cdv A outer s H E hr=>have hu:=cR hr;⟨_,(aE (fb (qA (i5 K (pv 1) (λ_=>rfl)))
  (aE (g0 tie1 rfl m_Loose in_Loose.xi fi_Loose (hr.mono (by decide)) bi_Loose (pv 0))
  bq)
  bq)
  (aE (bS (bg (i:=4) bB.nd rfl (by first | exact Or.inl rfl | exact Or.inr rfl) (bK (aT K) (pv 1) bt (λ_ _=>rfl))))
  (aE (i7 rfl (fu K (gB (gA K) (pv 1) (g6 bt) i9)) (aK (i:=5) bB.nd rfl (by first | exact Or.inl rfl | exact Or.inr rfl))
  (aE (fb (br (jf K hr.units) (bK (aT K) (pv 2) (pv 4) (λ_ _=>rfl)) (bK (aT K) (pv 2) (pv 5) (λ_ _=>rfl)) (bM _))
  (aE dZ
  bq)
  bq)
  (aE (bS (bX (da K wT wP wE bO (pv 3) (aj (bL gA9 (hr.mono (by decide)) (aj (pv 4) (aj (pv 5) ar))) ar))))
  (aE (bS (bX (da K wT wP wE bO (pv 2) (aj (bL gA8 (hr.mono (by decide)) (aj (bK (aT K) (pv 2) (pv 4) (λ_ _=>rfl)) (aj (bK (aT K) (pv 2) (pv 5) (λ_ _=>rfl)) ar))) ar))))
  (aE (bS (bg (i:=4) bB.nd rfl (by first | exact Or.inl rfl | exact Or.inr rfl) (bE gF (aS (aP K) rfl B.len_ bC (aj (pv 2) ar)) bt)))
  bq)))))
  cN))),(az (cp (ku (kr af))
  (az (gX af)
  aV)
  aV)
  (az (aZ (aG bu af be) rfl)
  (az (dc (pin:=(λ_=>false)) (dO (kz af (fm be) ky)) (aA rfl)
  (az (cp (aY (aG jg (aG bu af af) (aG bu af af)))
  (az bF
  aV)
  aV)
  (az (cq (dC af (aa (aL (aa af (aa af aq))) aq)))
  (az (cq (dC af (aa (aL (aa (aG bu af af) (aa (aG bu af af) aq))) aq)))
  (az (aZ (aG bj (bc aX (aa af aq)) be) rfl)
  aV)))))
  bF)))⟩) ?_
 rintro ss q ⟨t,R,M,rfl,ht,hq⟩;refine⟨rfl,rfl,?_⟩;exact⟨⟨by omega,by omega⟩,⟨_,rfl⟩,hq⟩
theorem fj {v6 v4 f_Nought:Addr}(m_Nought:mg "Nought" = some (.ref v6))(m_JoinError:mg "JoinError" = some (.ref v4))(in_Nought:jH K v6 f_Nought "at" "Nought.__init__" cF ["self", "at"])(bs_JoinError:jP K v4)(dn:DefN K mg "joined_uses" cT ["thing", "uses", "rows", "made"])(B:BI mg)(gA9:OkN P w K mg base 1 "joining" ["one", "other"] (spA K fR))(gA8:OkN P w K mg base 1 "joined" ["one", "other"] (spA K fF)):OkX P w K mg base 3 "joined_uses" ["thing", "uses", "rows", "made"] v6 (some "at") (spA K rY):=by
 obtain⟨fd_Nought,bi_Nought,fi_Nought⟩:=jv (P:=P) (w:=w) (base:=base) in_Nought bs_JoinError B m_JoinError;refine dn.aokX (k:=2) bB (λj=>j==0||j==1||j==2||j==3) [.un,.un] rY v6 (some "at") rfl (λf cdv A outer s H E hr=>have hu:=cR hr;⟨_,(aE (fb (qA (i5 K (pv 1) (λ_=>rfl)))
  (aE dZ
  bq)
  bq)
  (aE (bS (bg (i:=4) bB.nd rfl (by first | exact Or.inl rfl | exact Or.inr rfl) (bK (aT K) (pv 1) bt (λ_ _=>rfl))))
  (aE (i7 rfl (fu K (gB (gA K) (pv 1) (g6 bt) i9)) (aK (i:=5) bB.nd rfl (by first | exact Or.inl rfl | exact Or.inr rfl))
  (aE (fb (br (jf K hr.units) (bK (aT K) (pv 2) (pv 4) (λ_ _=>rfl)) (bK (aT K) (pv 2) (pv 5) (λ_ _=>rfl)) (bM _))
  (aE (g0 tie2 rfl m_Nought in_Nought.xi fi_Nought (hr.mono (by decide)) bi_Nought (pv 0))
  bq)
  bq)
  (aE (bS (bX (da K wT wP wE bO (pv 3) (aj (bL gA9 (hr.mono (by decide)) (aj (pv 4) (aj (pv 5) ar))) ar))))
  (aE (bS (bX (da K wT wP wE bO (pv 2) (aj (bL gA8 (hr.mono (by decide)) (aj (bK (aT K) (pv 2) (pv 4) (λ_ _=>rfl)) (aj (bK (aT K) (pv 2) (pv 5) (λ_ _=>rfl)) ar))) ar))))
  (aE (bS (bg (i:=4) bB.nd rfl (by first | exact Or.inl rfl | exact Or.inr rfl) (bE gF (aS (aP K) rfl B.len_ bC (aj (pv 2) ar)) bt)))
  bq)))))
  cN))),(az (cp (ku (kr af))
  (az bF
  aV)
  aV)
  (az (aZ (aG bu af be) rfl)
  (az (dc (pin:=(λ_=>false)) (dO (kz af (fm be) ky)) (aA rfl)
  (az (cp (aY (aG jg (aG bu af af) (aG bu af af)))
  (az (gX af)
  aV)
  aV)
  (az (cq (dC af (aa (aL (aa af (aa af aq))) aq)))
  (az (cq (dC af (aa (aL (aa (aG bu af af) (aa (aG bu af af) aq))) aq)))
  (az (aZ (aG bj (bc aX (aa af aq)) be) rfl)
  aV)))))
  bF)))⟩) ?_
 rintro ss q ⟨t,u,us,R,M,rfl,ht,hu,hok,l1,l2,hq⟩;have dI:∀ {i:Int},D.depth (.int i)<=60:=λ{i}=>by simp[D.depth]
 obtain⟨k0,y0,hy0,ok0,eq0⟩:=qT M hok;have hk0:=(kt.mp hy0).1;refine⟨rfl,rfl,?_⟩;refine cutS (λρ=>ρ=[nv t,.vl (.lst (natsD (u::us))),.ow (natsD R),.ow (M.map L2.pairD),.un,.un]) (λM2 hM2=>hM2 _ rfl) ?_;rintro _ rfl;refine cutS (λρ=>ρ=[nv t,.vl (.lst (natsD (u::us))),.ow (natsD R),.ow (M.map L2.pairD),nv u,.un]) (λM2 hM2=>bb rfl (EG _) (hM2 _ rfl)) ?_;rintro _ rfl;have e1:L2.cutD (natsD (u::us)) (some 1) none=natsD us:=by
  show L2.cutD (natsD (u::us)) (some ((1:Nat):Int)) none=_;rw[l8];rfl
 show forA _ _ _ _ (L2.cutD (natsD (u::us)) (some 1) none) _;rw[e1];refine iK nD (λk ρ=>k<=k0/\∃s5,ρ=[nv t,.vl (.lst (natsD (u::us))),.ow (natsD (juS (us.take k) u R M).2.1),.ow ((juS (us.take k) u R M).2.2.map L2.pairD),nv (juS (us.take k) u R M).1,s5]) (λ_ _ _=>trivial) ?_ (λρ ⟨h,_⟩=>absurd hk0 (by omega)) ⟨yz _,.un,rfl⟩;rintro k x _ M3 hx ⟨hkk,s5,rfl⟩ hM3;have hk:=(kt.mp hx).1;have hxu:x<R.length:=hu x (yN _ (yp hx));have hsn:us.take (k+1)=us.take k++[x]:=by rw[Ah,hx];rfl
 have hne:k<k0->(juS (us.take k) u R M).2.1.getD (juS (us.take k) u R M).1 0≠(juS (us.take k) u R M).2.1.getD x 0:=λlt=>m_ (us.take k) (y:=x) (ys:=(us.take k0).drop (k+1)) M (by rw[<- o7 hx lt];exact ok0);have heq:k=k0->(juS (us.take k) u R M).2.1.getD (juS (us.take k) u R M).1 0=(juS (us.take k) u R M).2.1.getD x 0:=λe=>by
  subst e;rw[hx]at hy0;injection hy0 with hy0;rw[hy0];exact eq0
 have ln:=gm (us.take k) u R M;have lt:=oC (us.take k) (g:=u) (R:=R) (M:=M) (hu u (yW ..));have tk:(us.take k).length<=us.length:=by rw[yZ];omega
 have hnext:=kZ (us.take k) x u R M;rw[<- hsn]at hnext;generalize juS (us.take k) u R M=J at *;obtain⟨g,R1,M1⟩:=J;dsimp only at ln lt hne heq hnext ⊢;refine gaN1 ?_;show aSeq _ _ _ [nv t,.vl (.lst (natsD (u::us))),.ow (natsD R1),.ow (M1.map L2.pairD),nv g,nv x];by_cases hc:k=k0
 ·refine bb rfl lt (bb rfl (by omega) (dv (b:=true) rfl rfl dI ?_ ?_))
  ·show eqD (nD (R1.getD g 0)) (nD (R1.getD x 0))=true;rw[heq hc];exact eP _
  ·exact⟨⟨by omega,by omega⟩,⟨_,rfl⟩,hq R1 M1⟩
 have hlt:k<k0:=by omega
 refine cutS (λρ=>ρ=[nv t,.vl (.lst (natsD (u::us))),.ow (natsD R1),.ow (M1.map L2.pairD),nv g,nv x]) (λM4 hM4=>bb rfl lt (bb rfl (by omega) (dv rfl rfl dI rfl (ite2 (λz=>?_) λ_=>hM4 _ rfl)))) ?_
 ·exfalso;apply hne hlt;have:=of_decide_eq_true (p:=((R1.getD g 0:Nat):Int)=((R1.getD x 0:Nat):Int)) z;omega
 rintro _ rfl;refine cutS (λρ=>ρ=[nv t,.vl (.lst (natsD (u::us))),.ow (natsD R1),.ow ((M1++[(min g x,max g x)]).map L2.pairD),nv g,nv x]) (λM4 hM4=>⟨rfl,g,x,rfl,by rw[db];omega,?_⟩) ?_
 ·have:=hM4 _ rfl;rw[yo]at this;exact this
 rintro _ rfl;refine cutS (λρ=>ρ=[nv t,.vl (.lst (natsD (u::us))),.ow (natsD (R1++[R1.getD g 0 ^^^ R1.getD x 0])),.ow ((M1++[(min g x,max g x)]).map L2.pairD),nv g,nv x]) (λM4 hM4=>bb rfl lt (bb rfl (by omega) ⟨rfl,_,_,rfl,by rw[aN];omega,?_⟩)) ?_
 ·have:=hM4 _ rfl;rw[cg]at this;exact this
 rintro _ rfl;refine hM3 _ ⟨hlt,nv x,?_⟩;rw[hnext];have eg:((((natsD (R1++[R1.getD g 0 ^^^ R1.getD x 0])).length:Nat):Int) - 1)=((R1.length:Nat):Int):=by rw[aN,ms,yr];omega
 show[nv t,.vl (.lst (natsD (u::us))),.ow (natsD (R1++[R1.getD g 0 ^^^ R1.getD x 0])),.ow ((M1++[(min g x,max g x)]).map L2.pairD),Sv.vl (D.int ((((natsD (R1++[R1.getD g 0 ^^^ R1.getD x 0])).length:Nat):Int) - 1)),nv x]=_;rw[eg]
theorem fi {gA0:Addr}(m_TooMany:mg "TooMany" = some (.ref gA0))(e_TooMany:zB K gA0 bmV "ValueError.__new__" = true)(dn:DefN K mg "turned_net" b_ ["net"])(B:BI mg)(gA2:∃u,mg "MOST_GIVENS" = some u/\RelV (.int 12) u)(gA3:∃u,mg "MOST_JOINS" = some u/\RelV (.int 132) u):OkX P w K mg base 1 "turned_net" ["net"] gA0 none (spA K rV):=by
 refine dn.aokX (k:=0) aF (λj=>j==0) [.un,.un,.un,.un,.un,.un,.un,.un,.un,.un,.un] rV gA0 none rfl (λf cdv A outer s H E hr=>have hu:=cR hr;⟨_,(aE (bS (dF (pv 0) (bJ K (n:=3) rfl (aI (aK (i:=1) aF.nd rfl (by first | exact Or.inl rfl | exact Or.inr rfl)) (aI (aK (i:=2) aF.nd rfl (by first | exact Or.inl rfl | exact Or.inr rfl)) (aI (aK (i:=3) aF.nd rfl (by first | exact Or.inl rfl | exact Or.inr rfl)) bI))))))
  (aE (fb (PW.pt (jK (br fU (aS (aP K) rfl B.len_ bC (aj (pv 3) ar)) (gE gA2 rfl) (bM _)) (h_ (br fU (bE gF (bE cf (aS (aP K) rfl B.len_ bC (aj (pv 2) ar)) (aS (aP K) rfl B.len_ bC (aj (pv 3) ar))) (pv 1)) (gE gA3 rfl) (bM _)))))
  (aE (i6 tie1 rfl m_TooMany e_TooMany dj)
  bq)
  bq)
  cN)),(az (cH af (bw (aw (aA rfl) (aw (aA rfl) (aw (aA rfl) ba (λ_ _ _=>aQ)) (λ_ _ _=>aQ)) (λ_ _ _=>aQ))))
  (az (cp (dX (aY (aG cU (bc aX (aa af aq)) be)) (aY (aG cU (aG bj (aG bj (bc aX (aa af aq)) (bc aX (aa af aq))) af) be)))
  (az (bV cB)
  aV)
  aV)
  bF))⟩) ?_
 rintro ss q ⟨N,rfl,hN,ho,hq⟩;have jl:=hN.jl;have m12:=hN.m12;refine⟨rfl,rfl,?_⟩;refine cutS (λρ=>ρ=[.vl (netD N),nv N.m,.vl (.tup (N.js.map L2.pairD)),.vl (.tup (natsD N.os)),.un,.un,.un,.un,.un,.un,.un,.un]) (λM hM=>hM _ rfl) ?_;rintro _ rfl;have g:(if decide ((12:Int)<(((natsD N.os).length:Nat):Int))=true then true else decide ((132:Int)<(((N.js.map L2.pairD).length:Nat):Int)+(((natsD N.os).length:Nat):Int) - (N.m:Int)))=true:=by
  rw[aN,db];by_cases h:12<N.os.length
  ·rw[if_pos (decide_eq_true (by omega))]
  ·rw[if_neg (by rw[decide_eq_true_eq];omega),decide_eq_true_eq];omega
 show if decide ((12:Int)<(((natsD N.os).length:Nat):Int))=true then _ else(if decide ((132:Int)<(((N.js.map L2.pairD).length:Nat):Int)+(((natsD N.os).length:Nat):Int) - (N.m:Int))=true then _ else _)
 by_cases h:decide ((12:Int)<(((natsD N.os).length:Nat):Int))=true
 ·rw[if_pos h];exact⟨⟨_,rfl⟩,hq⟩
 ·rw[if_neg h]at g ⊢;rw[if_pos g];exact⟨⟨_,rfl⟩,hq⟩
theorem fV {gA1 v4 f_Loose:Addr}(m_Loose:mg "Loose" = some (.ref gA1))(m_JoinError:mg "JoinError" = some (.ref v4))(in_Loose:jH K gA1 f_Loose "thing" "Loose.__init__" dP ["self", "thing"])(bs_JoinError:jP K v4)(dn:DefN K mg "turned_net" b_ ["net"])(B:BI mg)(gB2:OkN P w K mg base 1 "out_uses" ["net"] (spA K gV))(gA6:OkN P w K mg base 1 "own_rows" ["many"] (spA K SOwn))(gA5:OkN P w K mg base 2 "joined_uses" ["thing", "uses", "rows", "made"] (spA K mE))(gB4:OkX P w K mg base 3 "joined_uses" ["thing", "uses", "rows", "made"] gA1 (some "thing") (spA K rZ))(gA2:∃u,mg "MOST_GIVENS" = some u/\RelV (.int 12) u)(gA3:∃u,mg "MOST_JOINS" = some u/\RelV (.int 132) u):OkX P w K mg base 4 "turned_net" ["net"] gA1 (some "thing") (spA K rW):=by
 refine dn.aokX (k:=3) aF (λj=>j==0) [.un,.un,.un,.un,.un,.un,.un,.un,.un,.un,.un] rW gA1 (some "thing") rfl (λf cdv A outer s H E hr=>have hu:=cR hr;⟨_,(aE (bS (dF (pv 0) (bJ K (n:=3) rfl (aI (aK (i:=1) aF.nd rfl (by first | exact Or.inl rfl | exact Or.inr rfl)) (aI (aK (i:=2) aF.nd rfl (by first | exact Or.inl rfl | exact Or.inr rfl)) (aI (aK (i:=3) aF.nd rfl (by first | exact Or.inl rfl | exact Or.inr rfl)) bI))))))
  (aE (fb (PW.pt (jK (br fU (aS (aP K) rfl B.len_ bC (aj (pv 3) ar)) (gE gA2 rfl) (bM _)) (h_ (br fU (bE gF (bE cf (aS (aP K) rfl B.len_ bC (aj (pv 2) ar)) (aS (aP K) rfl B.len_ bC (aj (pv 3) ar))) (pv 1)) (gE gA3 rfl) (bM _)))))
  (aE dZ
  bq)
  bq)
  (aE (bS (bg (i:=4) aF.nd rfl (by first | exact Or.inl rfl | exact Or.inr rfl) (bL gB2 (hr.mono (by decide)) (aj (pv 0) ar))))
  (aE (bS (bg (i:=5) aF.nd rfl (by first | exact Or.inl rfl | exact Or.inr rfl) (bL gA6 (hr.mono (by decide)) (aj (aS (aP K) rfl B.len_ bC (aj (pv 3) ar)) ar))))
  (aE (bS (bg (i:=6) aF.nd rfl (by first | exact Or.inl rfl | exact Or.inr rfl) (lM ar)))
  (aE (i7 rfl (qF K rfl B.reversed_ (aj (qH K rfl rfl B.list_ rfl B.enumerate_ (aj (pv 2) ar)) ar)) (bJ K (n:=2) rfl (aI (aK (i:=7) aF.nd rfl (by first | exact Or.inl rfl | exact Or.inr rfl)) (aI (bJ K (n:=2) rfl (aI (aK (i:=8) aF.nd rfl (by first | exact Or.inl rfl | exact Or.inr rfl)) (aI (aK (i:=9) aF.nd rfl (by first | exact Or.inl rfl | exact Or.inr rfl)) bI))) bI)))
  (aE (t5 (n9 (qB gB4 (hr.mono (by decide)) t9 (aj (bE cf (pv 1) (pv 7)) (aj (bK (aT K) (pv 4) (bE cf (pv 1) (pv 7)) (λ_ _=>rfl)) (aj (pv 5) (aj (pv 6) ar)))))) (bS (iw (bg (i:=10) aF.nd rfl (by first | exact Or.inl rfl | exact Or.inr rfl) (bL gA5 (hr.mono (by decide)) (aj (bE cf (pv 1) (pv 7)) (aj (bK (aT K) (pv 4) (bE cf (pv 1) (pv 7)) (λ_ _=>rfl)) (aj (pv 5) (aj (pv 6) ar)))))))))
  (aE (bS (iw (bX (da K wT wP wE bO (bK (aT K) (pv 4) (pv 8) (λ_ _=>rfl)) (aj (pv 10) ar)))))
  (aE (bS (iw (bX (da K wT wP wE bO (bK (aT K) (pv 4) (pv 9) (λ_ _=>rfl)) (aj (pv 10) ar)))))
  bq))))
  (aE (n9 (lK ["given"] [4,5,6] rfl (Blk.of (aM b_) dy) (mP rfl B.reversed_ rfl B.range_ (aj (pv 1) ar)) (λ_ _ _ _ nd=>(aK (i:=0) nd rfl (by first | exact Or.inl rfl | exact Or.inr rfl))) (λ_ _ _ _=>(bL gA5 (hr.mono (by decide)) (aj (pv 0) (aj (bK (aT K) (pv 1) (pv 0) (λ_ _=>rfl)) (aj (pv 2) (aj (pv 3) ar)))))) (λD eD _ _ _ _ _ _ _ _ _ I f2 sz=>wD eD gB4 (hr.mono (by decide)) (t8 I f2 sz) (aj (pv 0) (aj (bK (aT K) (pv 1) (pv 0) (λ_ _=>rfl)) (aj (pv 2) (aj (pv 3) ar)))))))
  cN))))))),(az (cH af (bw (aw (aA rfl) (aw (aA rfl) (aw (aA rfl) ba (λ_ _ _=>aQ)) (λ_ _ _=>aQ)) (λ_ _ _=>aQ))))
  (az (cp (dX (aY (aG cU (bc aX (aa af aq)) be)) (aY (aG cU (aG bj (aG bj (bc aX (aa af aq)) (bc aX (aa af aq))) af) be)))
  (az bF
  aV)
  aV)
  (az (aZ (aL (aa af aq)) rfl)
  (az (aZ (aL (aa (bc aX (aa af aq)) aq)) rfl)
  (az (aZ (kA aq) rfl)
  (az (dc (pin:=(λ_=>false)) (kB (aa (mG (aa af aq)) aq)) (bw (aw (aA rfl) (aw (bw (aw (aA rfl) (aw (aA rfl) ba (λ_ _ _=>aQ)) (λ_ _ _=>aQ))) ba (λ_ _ _=>l3)) (λ_ _ _=>aQ)))
  (az (h8 (gw (i:=4) (bV (aL (aa (aG bj af af) (aa (aG bu af (aG bj af af)) (aa af (aa af aq))))))) (iH (i:=4) (aZ (aL (aa (aG bj af af) (aa (aG bu af (aG bj af af)) (aa af (aa af aq))))) rfl)))
  (az (dD (i:=4) (j:=8) (k:=10))
  (az (dD (i:=4) (j:=9) (k:=10))
  aV))))
  (az (gw (i:=4) (lH (iO (aa af aq)) (aA rfl) (aL (aa af (aa (aG bu af af) (aa af (aa af aq))))) (aL (aa af (aa (aG bu af af) (aa af (aa af aq)))))))
  bF)))))))⟩) ?_
 rintro ss q ⟨N,i,rfl,hN,ho,hj,hi,pre,hE,hq⟩;have jl:=hN.jl;have m12:=hN.m12;have o1:=hN.o1;refine⟨rfl,rfl,?_⟩;refine cutS (λρ=>ρ=[.vl (netD N),nv N.m,.vl (.tup (N.js.map L2.pairD)),.vl (.tup (natsD N.os)),.un,.un,.un,.un,.un,.un,.un,.un]) (λM hM=>hM _ rfl) ?_;rintro _ rfl;refine cutS (λρ=>ρ=[.vl (netD N),nv N.m,.vl (.tup (N.js.map L2.pairD)),.vl (.tup (natsD N.os)),.un,.un,.un,.un,.un,.un,.un,.un]) (λM hM=>?_) ?_
 ·have g1:decide ((12:Int)<(((natsD N.os).length:Nat):Int))=false:=by rw[aN,decide_eq_false_iff_not];omega
  have g2:decide ((132:Int)<(((N.js.map L2.pairD).length:Nat):Int)+(((natsD N.os).length:Nat):Int) - (N.m:Int))=false:=by rw[aN,db,decide_eq_false_iff_not];omega
  show if decide ((12:Int)<(((natsD N.os).length:Nat):Int))=true then _ else(if decide ((132:Int)<(((N.js.map L2.pairD).length:Nat):Int)+(((natsD N.os).length:Nat):Int) - (N.m:Int))=true then _ else _)
  rw[g1,g2];exact hM _ rfl
 rintro _ rfl;refine cutS (λρ=>ρ=[.vl (netD N),nv N.m,.vl (.tup (N.js.map L2.pairD)),.vl (.tup (natsD N.os)),.ll ((eJ N).map natsD),.un,.un,.un,.un,.un,.un,.un]) (λM hM=>⟨rfl,N,rfl,hN,hM _ rfl⟩) ?_;rintro _ rfl;refine cutS (λρ=>ρ=[.vl (netD N),nv N.m,.vl (.tup (N.js.map L2.pairD)),.vl (.tup (natsD N.os)),.ll ((eJ N).map natsD),.ow (natsD (aO N.os.length)),.un,.un,.un,.un,.un,.un]) (λM hM=>?_) ?_
 ·refine⟨rfl,N.os.length,by rw[aN];rfl,by omega,hM _ rfl⟩
 rintro _ rfl;refine cutS (λρ=>ρ=[.vl (netD N),nv N.m,.vl (.tup (N.js.map L2.pairD)),.vl (.tup (natsD N.os)),.ll ((eJ N).map natsD),.ow (natsD (aO N.os.length)),.ow (([]:List (Nat×Nat)).map L2.pairD),.un,.un,.un,.un,.un]) (λM hM=>⟨yz _,hM _ rfl⟩) ?_;rintro _ rfl;refine cutS (λρ=>N.js.length<=i/\∃s7 s8 s9 s10,svNs [s7,s8,s9,s10]=true/\ρ=[.vl (netD N),nv N.m,.vl (.tup (N.js.map L2.pairD)),.vl (.tup (natsD N.os)),.ll ((tuAt N N.js.length).1.map natsD),.ow (natsD (tuAt N N.js.length).2.1),.ow ((tuAt N N.js.length).2.2.map L2.pairD),s7,s8,s9,s10,.un]) (λM hM=>?_) ?_
 ·refine dW (λk ρ=>k<=i/\k<=N.js.length/\∃s7 s8 s9 s10,svNs [s7,s8,s9,s10]=true/\ρ=[.vl (netD N),nv N.m,.vl (.tup (N.js.map L2.pairD)),.vl (.tup (natsD N.os)),.ll ((tuAt N k).1.map natsD),.ow (natsD (tuAt N k).2.1),.ow ((tuAt N k).2.2.map L2.pairD),s7,s8,s9,s10,.un]) (λ_ _ _ _=>trivial) ?_ (λρ ⟨ki,_,s7,s8,s9,s10,h1,e⟩=>?_) _ ⟨yz _,yz _,.un,.un,.un,.un,rfl,rfl⟩
  ·rintro k d _ M2 hk ⟨ki,_,s7,s8,s9,s10,hsv,rfl⟩ hM2;have lk:k<N.js.length:=by
    have:=(kt.mp hk).1;rwa [zt,bR,db]at this
   rw[Af (by rw[bR,db];exact lk),bR,db]at hk;obtain⟨x,ex,rfl⟩:=cZ hk;rw[lm]at ex;obtain⟨p,ep,rfl⟩:=wp.mp ex;rw[zw];have I:=dB hN k (by omega) λi' h=>pre i' (by omega);refine iP (d2:=nD p.1) (d3:=nD p.2) ?_;show aSeq _ _ _ [.vl (netD N),nv N.m,.vl (.tup (N.js.map L2.pairD)),.vl (.tup (natsD N.os)),.ll ((tuAt N k).1.map natsD),.ow (natsD (tuAt N k).2.1),.ow ((tuAt N k).2.2.map L2.pairD),nv (N.js.length - 1 - k),nv p.1,nv p.2,s10,.un];have pm:=bY (cV hN.js) ep;rw[bf]at pm;have lt:N.m+(N.js.length - 1 - k)<(tuAt N k).1.length:=by rw[I.l];omega
   have hmem:=bP lt;have hat:=pG lt;have hU:=I.u _ hmem;have hR:=I.r _ hmem;have s10n:svN s10=true:=bH 3 hsv;have ec:((N.m:Int)+((N.js.length - 1 - k:Nat):Int))=((N.m+(N.js.length - 1 - k):Nat):Int):=by omega
   have rl:=I.rl;have ml:=I.ml;have l1:=I.l;have et:thg N k=N.m+(N.js.length - 1 - k):=by unfold thg;omega
   by_cases kc:k=i
   ·subst kc;rw[fY lk]at hE;refine .inl ⟨(tuAt N k).1.map natsD,rfl,sv4 N _ _ ?_,dm _,?_⟩
    ·show(true&&(true&&(true&&(svN s10&&true))))=true;rw[s10n];rfl
    ·refine jO rfl (by rw[ec];exact hat) ?_;rw[hE];refine⟨rfl,N.m+(N.js.length - 1 - k),(tuAt N k).2.1,(tuAt N k).2.2,?_,by omega,?_⟩
     ·show[Sv.vl (.int ((N.m:Int)+((N.js.length - 1 - k:Nat):Int))),_,_,_]=_;rw[ec];rfl
     ·rw[<- et];exact⟨rfl,sv4 N _ _ (by show(true&&(true&&(true&&(svN s10&&true))))=true;rw[s10n];rfl),⟨_,rfl,rfl⟩,⟨_,rfl⟩,hq⟩
   have okj:=pre k (by omega);have I2:=dB hN (k+1) (by omega) λi' h=>pre i' (by omega);unfold stOk at okj;rw[fY lk,hZ lk]at okj;have hnx:tuAt N (k+1)=(app (app (tuAt N k).1 p.1 (juU ((tuAt N k).1.getD (N.m+(N.js.length - 1 - k)) []) (tuAt N k).2.1 (tuAt N k).2.2).1) p.2 (juU ((tuAt N k).1.getD (N.m+(N.js.length - 1 - k)) []) (tuAt N k).2.1 (tuAt N k).2.2).1,(juU ((tuAt N k).1.getD (N.m+(N.js.length - 1 - k)) []) (tuAt N k).2.1 (tuAt N k).2.2).2.1,(juU ((tuAt N k).1.getD (N.m+(N.js.length - 1 - k)) []) (tuAt N k).2.1 (tuAt N k).2.2).2.2):=by
    have egp:N.js.getD (N.js.length - 1 - k) (0,0)=p:=by rw[bi,ep];rfl
    rw[tuAt,egp]
   generalize hus:(tuAt N k).1.getD (N.m+(N.js.length - 1 - k)) []=us at *;obtain⟨u,us',rfl⟩:=yE okj.1;have hj2:=okj.2;rw[hnx]at I2;generalize tuAt N k=S at *;rw[wS]at hU;refine cutS (λρ=>ρ=[.vl (netD N),nv N.m,.vl (.tup (N.js.map L2.pairD)),.vl (.tup (natsD N.os)),.ll (S.1.map natsD),.ow (natsD (juU (u::us') S.2.1 S.2.2).2.1),.ow ((juU (u::us') S.2.1 S.2.2).2.2.map L2.pairD),nv (N.js.length - 1 - k),nv p.1,nv p.2,nv (juU (u::us') S.2.1 S.2.2).1,.un]) (λM3 hM3=>.inr ⟨S.1.map natsD,rfl,sv4 N _ _ ?_,dm _,?_⟩) ?_
   ·show(true&&(true&&(true&&(svN s10&&true))))=true;rw[s10n];rfl
   ·refine jO rfl (by rw[ec];exact hat) ⟨rfl,N.m+(N.js.length - 1 - k),u,us',S.2.1,S.2.2,?_,hR,hj2,by omega,by omega,?_⟩
    ·show[Sv.vl (.int ((N.m:Int)+((N.js.length - 1 - k:Nat):Int))),_,_,_]=_;rw[ec];rfl
    ·exact⟨rfl,sv4 N _ _ rfl,hM3 _ rfl⟩
   rintro _ rfl;refine cutS (λρ=>ρ=[.vl (netD N),nv N.m,.vl (.tup (N.js.map L2.pairD)),.vl (.tup (natsD N.os)),.ll ((app S.1 p.1 (juU (u::us') S.2.1 S.2.2).1).map natsD),.ow (natsD (juU (u::us') S.2.1 S.2.2).2.1),.ow ((juU (u::us') S.2.1 S.2.2).2.2.map L2.pairD),nv (N.js.length - 1 - k),nv p.1,nv p.2,nv (juU (u::us') S.2.1 S.2.2).1,.un]) (λM3 hM3=>⟨S.1.map natsD,p.1,_,rfl,rfl,rfl,by rw[db];omega,?_,?_⟩) ?_
   ·rw[jZ];have:=I.u _ (bP (show p.1<S.1.length by omega));omega
   ·have:=hM3 _ rfl;rw[<- fQ]at this;exact this
   rintro _ rfl;refine cutS (λρ=>ρ=[.vl (netD N),nv N.m,.vl (.tup (N.js.map L2.pairD)),.vl (.tup (natsD N.os)),.ll ((app (app S.1 p.1 (juU (u::us') S.2.1 S.2.2).1) p.2 (juU (u::us') S.2.1 S.2.2).1).map natsD),.ow (natsD (juU (u::us') S.2.1 S.2.2).2.1),.ow ((juU (u::us') S.2.1 S.2.2).2.2.map L2.pairD),nv (N.js.length - 1 - k),nv p.1,nv p.2,nv (juU (u::us') S.2.1 S.2.2).1,.un]) (λM3 hM3=>⟨(app S.1 p.1 (juU (u::us') S.2.1 S.2.2).1).map natsD,p.2,nD (juU (u::us') S.2.1 S.2.2).1,rfl,rfl,rfl,by rw[db,dJ];omega,?_,?_⟩) ?_
   ·rw[jZ];rcases lr (bP (show p.2<(app S.1 p.1 (juU (u::us') S.2.1 S.2.2).1).length by rw[dJ];omega))with z | ⟨z,e⟩
    ·have:=I.u _ z;omega
    ·have:=I.u _ z;rw[e,ms,yr];omega
   ·have:=hM3 _ rfl;rw[<- fQ]at this;exact this
   rintro _ rfl;refine hM2 _ ⟨by omega,by omega,nv (N.js.length - 1 - k),nv p.1,nv p.2,nv (juU (u::us') S.2.1 S.2.2).1,rfl,?_⟩;rw[hnx]
  ·rw[zt,bR,db]at e ki;exact hM ρ ⟨ki,s7,s8,s9,s10,h1,e⟩
 rintro _ ⟨ji,s7,s8,s9,s10,hsv,rfl⟩;have I:=dB hN N.js.length (lw _) λi' h=>pre i' (by omega);obtain⟨j,rfl⟩:∃j,i=N.js.length+j:=⟨i - N.js.length,by omega⟩
 have et:thg N (N.js.length+j)=N.m - 1 - j:=by unfold thg;omega
 rw[fZ]at hE;refine⟨_,rfl,sv4 N _ _ ?_,dm _,?_⟩
 ·show svNs [s7,s8,s9,s10,.un]=true;have h0:=bH 0 hsv;have h1:=bH 1 hsv;have h2:=bH 2 hsv;have h3:=bH 3 hsv;show(svN s7&&(svN s8&&(svN s9&&(svN s10&&true))))=true;rw[show svN s7=true from h0,show svN s8=true from h1,show svN s9=true from h2,show svN s10=true from h3];rfl
 refine⟨⟨by omega,by omega⟩,?_⟩;refine⟨by rw[eQ];omega,?_⟩;refine j6 (λk acc ρ=>k<=j/\acc=natsD (tgAt N k).1/\ρ=[.vl (netD N),nv N.m,.vl (.tup (N.js.map L2.pairD)),.vl (.tup (natsD N.os)),.vl (llD ((tuAt N N.js.length).1.map natsD)),.ow (natsD (tgAt N k).2.1),.ow ((tgAt N k).2.2.map L2.pairD),s7,s8,s9,s10,.un]) (λ_ _ _ _=>trivial) ?_ (λacc ρ ⟨h,_⟩=>by rw[eQ]at h;omega) _ ⟨yz _,rfl,rfl⟩;rintro k d acc _ M2 hk ⟨kj,rfl,rfl⟩ hM2;obtain⟨lk,rfl⟩:=la hk;have lk:k<N.m:=by omega
 obtain⟨g1,g2,g3,g4⟩:=kC hN k (by omega) λi' h=>pre i' (by omega)
 have lt:N.m - 1 - k<(tuAt N N.js.length).1.length:=by rw[I.l];omega
 have hmem:=bP lt;have hat:=pG lt;have hU:=I.u _ hmem;have hR:=I.r _ hmem;have ec:((N.m:Int) - 1 - (k:Int))=((N.m - 1 - k:Nat):Int):=by omega
 refine gaN1 ?_;rw[ec];by_cases kc:k=j
 ·subst kc;refine .inr (jO rfl hat ?_);rw[hE];refine⟨rfl,N.m - 1 - k,(tgAt N k).2.1,(tgAt N k).2.2,rfl,by omega,?_⟩;rw[<- et];exact⟨_,rfl,rfl,sv4 N _ _ (by show(svN s7&&(svN s8&&(svN s9&&(svN s10&&true))))=true;rw[show svN s7=true from bH 0 hsv,show svN s8=true from bH 1 hsv,show svN s9=true from bH 2 hsv,show svN s10=true from bH 3 hsv];rfl),⟨_,rfl,rfl⟩,⟨_,rfl⟩,hq⟩
 have okg:=pre (N.js.length+k) (by omega);unfold stOk at okg;rw[fZ,gr]at okg;have ht:tgAt N (k+1)=((tgAt N k).1++[(juU ((tuAt N N.js.length).1.getD (N.m - 1 - k) []) (tgAt N k).2.1 (tgAt N k).2.2).1],(juU ((tuAt N N.js.length).1.getD (N.m - 1 - k) []) (tgAt N k).2.1 (tgAt N k).2.2).2.1,(juU ((tuAt N N.js.length).1.getD (N.m - 1 - k) []) (tgAt N k).2.1 (tgAt N k).2.2).2.2):=by rw[tgAt]
 generalize hus:(tuAt N N.js.length).1.getD (N.m - 1 - k) []=us at *;obtain⟨u,us',rfl⟩:=yE okg.1;have hj2:=okg.2;rw[wS]at hU;refine .inl (jO rfl hat ⟨rfl,N.m - 1 - k,u,us',(tgAt N k).2.1,(tgAt N k).2.2,rfl,λx hx=>nw (hR x hx) g3,hj2,by omega,by omega,?_⟩);refine hM2 _ _ ⟨by omega,?_,?_⟩
 ·rw[ht];show natsD (tgAt N k).1++[nD _]=natsD ((tgAt N k).1++[_]);rw[cg];rfl
 ·rw[ht];rfl
theorem fw {v6 v4 f_Nought:Addr}(m_Nought:mg "Nought" = some (.ref v6))(m_JoinError:mg "JoinError" = some (.ref v4))(in_Nought:jH K v6 f_Nought "at" "Nought.__init__" cF ["self", "at"])(bs_JoinError:jP K v4)(dn:DefN K mg "turned_net" b_ ["net"])(B:BI mg)(gB2:OkN P w K mg base 1 "out_uses" ["net"] (spA K gV))(gA6:OkN P w K mg base 1 "own_rows" ["many"] (spA K SOwn))(gA5:OkN P w K mg base 2 "joined_uses" ["thing", "uses", "rows", "made"] (spA K mE))(gB3:OkX P w K mg base 3 "joined_uses" ["thing", "uses", "rows", "made"] v6 (some "at") (spA K rY))(gA2:∃u,mg "MOST_GIVENS" = some u/\RelV (.int 12) u)(gA3:∃u,mg "MOST_JOINS" = some u/\RelV (.int 132) u):OkX P w K mg base 4 "turned_net" ["net"] v6 (some "at") (spA K rS):=by
 refine dn.aokX (k:=3) aF (λj=>j==0) [.un,.un,.un,.un,.un,.un,.un,.un,.un,.un,.un] rS v6 (some "at") rfl (λf cdv A outer s H E hr=>have hu:=cR hr;⟨_,(aE (bS (dF (pv 0) (bJ K (n:=3) rfl (aI (aK (i:=1) aF.nd rfl (by first | exact Or.inl rfl | exact Or.inr rfl)) (aI (aK (i:=2) aF.nd rfl (by first | exact Or.inl rfl | exact Or.inr rfl)) (aI (aK (i:=3) aF.nd rfl (by first | exact Or.inl rfl | exact Or.inr rfl)) bI))))))
  (aE (fb (PW.pt (jK (br fU (aS (aP K) rfl B.len_ bC (aj (pv 3) ar)) (gE gA2 rfl) (bM _)) (h_ (br fU (bE gF (bE cf (aS (aP K) rfl B.len_ bC (aj (pv 2) ar)) (aS (aP K) rfl B.len_ bC (aj (pv 3) ar))) (pv 1)) (gE gA3 rfl) (bM _)))))
  (aE dZ
  bq)
  bq)
  (aE (bS (bg (i:=4) aF.nd rfl (by first | exact Or.inl rfl | exact Or.inr rfl) (bL gB2 (hr.mono (by decide)) (aj (pv 0) ar))))
  (aE (bS (bg (i:=5) aF.nd rfl (by first | exact Or.inl rfl | exact Or.inr rfl) (bL gA6 (hr.mono (by decide)) (aj (aS (aP K) rfl B.len_ bC (aj (pv 3) ar)) ar))))
  (aE (bS (bg (i:=6) aF.nd rfl (by first | exact Or.inl rfl | exact Or.inr rfl) (lM ar)))
  (aE (i7 rfl (qF K rfl B.reversed_ (aj (qH K rfl rfl B.list_ rfl B.enumerate_ (aj (pv 2) ar)) ar)) (bJ K (n:=2) rfl (aI (aK (i:=7) aF.nd rfl (by first | exact Or.inl rfl | exact Or.inr rfl)) (aI (bJ K (n:=2) rfl (aI (aK (i:=8) aF.nd rfl (by first | exact Or.inl rfl | exact Or.inr rfl)) (aI (aK (i:=9) aF.nd rfl (by first | exact Or.inl rfl | exact Or.inr rfl)) bI))) bI)))
  (aE (t5 (n9 (qB gB3 (hr.mono (by decide)) t9 (aj (bE cf (pv 1) (pv 7)) (aj (bK (aT K) (pv 4) (bE cf (pv 1) (pv 7)) (λ_ _=>rfl)) (aj (pv 5) (aj (pv 6) ar)))))) (bS (iw (bg (i:=10) aF.nd rfl (by first | exact Or.inl rfl | exact Or.inr rfl) (bL gA5 (hr.mono (by decide)) (aj (bE cf (pv 1) (pv 7)) (aj (bK (aT K) (pv 4) (bE cf (pv 1) (pv 7)) (λ_ _=>rfl)) (aj (pv 5) (aj (pv 6) ar)))))))))
  (aE (bS (iw (bX (da K wT wP wE bO (bK (aT K) (pv 4) (pv 8) (λ_ _=>rfl)) (aj (pv 10) ar)))))
  (aE (bS (iw (bX (da K wT wP wE bO (bK (aT K) (pv 4) (pv 9) (λ_ _=>rfl)) (aj (pv 10) ar)))))
  bq))))
  (aE (n9 (lK ["given"] [4,5,6] rfl (Blk.of (aM b_) dy) (mP rfl B.reversed_ rfl B.range_ (aj (pv 1) ar)) (λ_ _ _ _ nd=>(aK (i:=0) nd rfl (by first | exact Or.inl rfl | exact Or.inr rfl))) (λ_ _ _ _=>(bL gA5 (hr.mono (by decide)) (aj (pv 0) (aj (bK (aT K) (pv 1) (pv 0) (λ_ _=>rfl)) (aj (pv 2) (aj (pv 3) ar)))))) (λD eD _ _ _ _ _ _ _ _ _ I f2 sz=>wD eD gB3 (hr.mono (by decide)) (t8 I f2 sz) (aj (pv 0) (aj (bK (aT K) (pv 1) (pv 0) (λ_ _=>rfl)) (aj (pv 2) (aj (pv 3) ar)))))))
  cN))))))),(az (cH af (bw (aw (aA rfl) (aw (aA rfl) (aw (aA rfl) ba (λ_ _ _=>aQ)) (λ_ _ _=>aQ)) (λ_ _ _=>aQ))))
  (az (cp (dX (aY (aG cU (bc aX (aa af aq)) be)) (aY (aG cU (aG bj (aG bj (bc aX (aa af aq)) (bc aX (aa af aq))) af) be)))
  (az bF
  aV)
  aV)
  (az (aZ (aL (aa af aq)) rfl)
  (az (aZ (aL (aa (bc aX (aa af aq)) aq)) rfl)
  (az (aZ (kA aq) rfl)
  (az (dc (pin:=(λ_=>false)) (kB (aa (mG (aa af aq)) aq)) (bw (aw (aA rfl) (aw (bw (aw (aA rfl) (aw (aA rfl) ba (λ_ _ _=>aQ)) (λ_ _ _=>aQ))) ba (λ_ _ _=>l3)) (λ_ _ _=>aQ)))
  (az (h8 (gw (i:=4) (bV (aL (aa (aG bj af af) (aa (aG bu af (aG bj af af)) (aa af (aa af aq))))))) (iH (i:=4) (aZ (aL (aa (aG bj af af) (aa (aG bu af (aG bj af af)) (aa af (aa af aq))))) rfl)))
  (az (dD (i:=4) (j:=8) (k:=10))
  (az (dD (i:=4) (j:=9) (k:=10))
  aV))))
  (az (gw (i:=4) (lH (iO (aa af aq)) (aA rfl) (aL (aa af (aa (aG bu af af) (aa af (aa af aq))))) (aL (aa af (aa (aG bu af af) (aa af (aa af aq)))))))
  bF)))))))⟩) ?_
 rintro ss q ⟨N,i,rfl,hN,ho,hj,hi,pre,hE,hno,hq⟩;have jl:=hN.jl;have m12:=hN.m12;have o1:=hN.o1;refine⟨rfl,rfl,?_⟩;refine cutS (λρ=>ρ=[.vl (netD N),nv N.m,.vl (.tup (N.js.map L2.pairD)),.vl (.tup (natsD N.os)),.un,.un,.un,.un,.un,.un,.un,.un]) (λM hM=>hM _ rfl) ?_;rintro _ rfl;refine cutS (λρ=>ρ=[.vl (netD N),nv N.m,.vl (.tup (N.js.map L2.pairD)),.vl (.tup (natsD N.os)),.un,.un,.un,.un,.un,.un,.un,.un]) (λM hM=>?_) ?_
 ·have g1:decide ((12:Int)<(((natsD N.os).length:Nat):Int))=false:=by rw[aN,decide_eq_false_iff_not];omega
  have g2:decide ((132:Int)<(((N.js.map L2.pairD).length:Nat):Int)+(((natsD N.os).length:Nat):Int) - (N.m:Int))=false:=by rw[aN,db,decide_eq_false_iff_not];omega
  show if decide ((12:Int)<(((natsD N.os).length:Nat):Int))=true then _ else(if decide ((132:Int)<(((N.js.map L2.pairD).length:Nat):Int)+(((natsD N.os).length:Nat):Int) - (N.m:Int))=true then _ else _)
  rw[g1,g2];exact hM _ rfl
 rintro _ rfl;refine cutS (λρ=>ρ=[.vl (netD N),nv N.m,.vl (.tup (N.js.map L2.pairD)),.vl (.tup (natsD N.os)),.ll ((eJ N).map natsD),.un,.un,.un,.un,.un,.un,.un]) (λM hM=>⟨rfl,N,rfl,hN,hM _ rfl⟩) ?_;rintro _ rfl;refine cutS (λρ=>ρ=[.vl (netD N),nv N.m,.vl (.tup (N.js.map L2.pairD)),.vl (.tup (natsD N.os)),.ll ((eJ N).map natsD),.ow (natsD (aO N.os.length)),.un,.un,.un,.un,.un,.un]) (λM hM=>?_) ?_
 ·refine⟨rfl,N.os.length,by rw[aN];rfl,by omega,hM _ rfl⟩
 rintro _ rfl;refine cutS (λρ=>ρ=[.vl (netD N),nv N.m,.vl (.tup (N.js.map L2.pairD)),.vl (.tup (natsD N.os)),.ll ((eJ N).map natsD),.ow (natsD (aO N.os.length)),.ow (([]:List (Nat×Nat)).map L2.pairD),.un,.un,.un,.un,.un]) (λM hM=>⟨yz _,hM _ rfl⟩) ?_;rintro _ rfl;refine cutS (λρ=>N.js.length<=i/\∃s7 s8 s9 s10,svNs [s7,s8,s9,s10]=true/\ρ=[.vl (netD N),nv N.m,.vl (.tup (N.js.map L2.pairD)),.vl (.tup (natsD N.os)),.ll ((tuAt N N.js.length).1.map natsD),.ow (natsD (tuAt N N.js.length).2.1),.ow ((tuAt N N.js.length).2.2.map L2.pairD),s7,s8,s9,s10,.un]) (λM hM=>?_) ?_
 ·refine dW (λk ρ=>k<=i/\k<=N.js.length/\∃s7 s8 s9 s10,svNs [s7,s8,s9,s10]=true/\ρ=[.vl (netD N),nv N.m,.vl (.tup (N.js.map L2.pairD)),.vl (.tup (natsD N.os)),.ll ((tuAt N k).1.map natsD),.ow (natsD (tuAt N k).2.1),.ow ((tuAt N k).2.2.map L2.pairD),s7,s8,s9,s10,.un]) (λ_ _ _ _=>trivial) ?_ (λρ ⟨ki,_,s7,s8,s9,s10,h1,e⟩=>?_) _ ⟨yz _,yz _,.un,.un,.un,.un,rfl,rfl⟩
  ·rintro k d _ M2 hk ⟨ki,_,s7,s8,s9,s10,hsv,rfl⟩ hM2;have lk:k<N.js.length:=by
    have:=(kt.mp hk).1;rwa [zt,bR,db]at this
   rw[Af (by rw[bR,db];exact lk),bR,db]at hk;obtain⟨x,ex,rfl⟩:=cZ hk;rw[lm]at ex;obtain⟨p,ep,rfl⟩:=wp.mp ex;rw[zw];have I:=dB hN k (by omega) λi' h=>pre i' (by omega);refine iP (d2:=nD p.1) (d3:=nD p.2) ?_;show aSeq _ _ _ [.vl (netD N),nv N.m,.vl (.tup (N.js.map L2.pairD)),.vl (.tup (natsD N.os)),.ll ((tuAt N k).1.map natsD),.ow (natsD (tuAt N k).2.1),.ow ((tuAt N k).2.2.map L2.pairD),nv (N.js.length - 1 - k),nv p.1,nv p.2,s10,.un];have pm:=bY (cV hN.js) ep;rw[bf]at pm;have lt:N.m+(N.js.length - 1 - k)<(tuAt N k).1.length:=by rw[I.l];omega
   have hmem:=bP lt;have hat:=pG lt;have hU:=I.u _ hmem;have hR:=I.r _ hmem;have s10n:svN s10=true:=bH 3 hsv;have ec:((N.m:Int)+((N.js.length - 1 - k:Nat):Int))=((N.m+(N.js.length - 1 - k):Nat):Int):=by omega
   have rl:=I.rl;have ml:=I.ml;have l1:=I.l;have et:thg N k=N.m+(N.js.length - 1 - k):=by unfold thg;omega
   by_cases kc:k=i
   ·subst kc;rw[fY lk]at hE;unfold stOk at hno;rw[fY lk,hZ lk]at hno;obtain⟨u,us',hus⟩:=yE hE;rw[hus]at hno hR hU;rw[wS]at hU;refine .inl ⟨(tuAt N k).1.map natsD,rfl,sv4 N _ _ ?_,dm _,?_⟩
    ·show(true&&(true&&(true&&(svN s10&&true))))=true;rw[s10n];rfl
    ·refine jO rfl (by rw[ec];exact hat) ?_;rw[hus];refine⟨rfl,N.m+(N.js.length - 1 - k),u,us',(tuAt N k).2.1,(tuAt N k).2.2,?_,by omega,hR,λz=>hno ⟨by simp,z⟩,by omega,by omega,λR' M'=>?_⟩
     ·show[Sv.vl (.int ((N.m:Int)+((N.js.length - 1 - k:Nat):Int))),_,_,_]=_;rw[ec];rfl
     ·rw[<- et];exact⟨rfl,sv4 N _ _ (by show(true&&(true&&(true&&(svN s10&&true))))=true;rw[s10n];rfl),⟨_,rfl,rfl⟩,⟨_,rfl⟩,hq⟩
   have okj:=pre k (by omega);have I2:=dB hN (k+1) (by omega) λi' h=>pre i' (by omega);unfold stOk at okj;rw[fY lk,hZ lk]at okj;have hnx:tuAt N (k+1)=(app (app (tuAt N k).1 p.1 (juU ((tuAt N k).1.getD (N.m+(N.js.length - 1 - k)) []) (tuAt N k).2.1 (tuAt N k).2.2).1) p.2 (juU ((tuAt N k).1.getD (N.m+(N.js.length - 1 - k)) []) (tuAt N k).2.1 (tuAt N k).2.2).1,(juU ((tuAt N k).1.getD (N.m+(N.js.length - 1 - k)) []) (tuAt N k).2.1 (tuAt N k).2.2).2.1,(juU ((tuAt N k).1.getD (N.m+(N.js.length - 1 - k)) []) (tuAt N k).2.1 (tuAt N k).2.2).2.2):=by
    have egp:N.js.getD (N.js.length - 1 - k) (0,0)=p:=by rw[bi,ep];rfl
    rw[tuAt,egp]
   generalize hus:(tuAt N k).1.getD (N.m+(N.js.length - 1 - k)) []=us at *;obtain⟨u,us',rfl⟩:=yE okj.1;have hj2:=okj.2;rw[hnx]at I2;generalize tuAt N k=S at *;rw[wS]at hU;refine cutS (λρ=>ρ=[.vl (netD N),nv N.m,.vl (.tup (N.js.map L2.pairD)),.vl (.tup (natsD N.os)),.ll (S.1.map natsD),.ow (natsD (juU (u::us') S.2.1 S.2.2).2.1),.ow ((juU (u::us') S.2.1 S.2.2).2.2.map L2.pairD),nv (N.js.length - 1 - k),nv p.1,nv p.2,nv (juU (u::us') S.2.1 S.2.2).1,.un]) (λM3 hM3=>.inr ⟨S.1.map natsD,rfl,sv4 N _ _ ?_,dm _,?_⟩) ?_
   ·show(true&&(true&&(true&&(svN s10&&true))))=true;rw[s10n];rfl
   ·refine jO rfl (by rw[ec];exact hat) ⟨rfl,N.m+(N.js.length - 1 - k),u,us',S.2.1,S.2.2,?_,hR,hj2,by omega,by omega,?_⟩
    ·show[Sv.vl (.int ((N.m:Int)+((N.js.length - 1 - k:Nat):Int))),_,_,_]=_;rw[ec];rfl
    ·exact⟨rfl,sv4 N _ _ rfl,hM3 _ rfl⟩
   rintro _ rfl;refine cutS (λρ=>ρ=[.vl (netD N),nv N.m,.vl (.tup (N.js.map L2.pairD)),.vl (.tup (natsD N.os)),.ll ((app S.1 p.1 (juU (u::us') S.2.1 S.2.2).1).map natsD),.ow (natsD (juU (u::us') S.2.1 S.2.2).2.1),.ow ((juU (u::us') S.2.1 S.2.2).2.2.map L2.pairD),nv (N.js.length - 1 - k),nv p.1,nv p.2,nv (juU (u::us') S.2.1 S.2.2).1,.un]) (λM3 hM3=>⟨S.1.map natsD,p.1,_,rfl,rfl,rfl,by rw[db];omega,?_,?_⟩) ?_
   ·rw[jZ];have:=I.u _ (bP (show p.1<S.1.length by omega));omega
   ·have:=hM3 _ rfl;rw[<- fQ]at this;exact this
   rintro _ rfl;refine cutS (λρ=>ρ=[.vl (netD N),nv N.m,.vl (.tup (N.js.map L2.pairD)),.vl (.tup (natsD N.os)),.ll ((app (app S.1 p.1 (juU (u::us') S.2.1 S.2.2).1) p.2 (juU (u::us') S.2.1 S.2.2).1).map natsD),.ow (natsD (juU (u::us') S.2.1 S.2.2).2.1),.ow ((juU (u::us') S.2.1 S.2.2).2.2.map L2.pairD),nv (N.js.length - 1 - k),nv p.1,nv p.2,nv (juU (u::us') S.2.1 S.2.2).1,.un]) (λM3 hM3=>⟨(app S.1 p.1 (juU (u::us') S.2.1 S.2.2).1).map natsD,p.2,nD (juU (u::us') S.2.1 S.2.2).1,rfl,rfl,rfl,by rw[db,dJ];omega,?_,?_⟩) ?_
   ·rw[jZ];rcases lr (bP (show p.2<(app S.1 p.1 (juU (u::us') S.2.1 S.2.2).1).length by rw[dJ];omega))with z | ⟨z,e⟩
    ·have:=I.u _ z;omega
    ·have:=I.u _ z;rw[e,ms,yr];omega
   ·have:=hM3 _ rfl;rw[<- fQ]at this;exact this
   rintro _ rfl;refine hM2 _ ⟨by omega,by omega,nv (N.js.length - 1 - k),nv p.1,nv p.2,nv (juU (u::us') S.2.1 S.2.2).1,rfl,?_⟩;rw[hnx]
  ·rw[zt,bR,db]at e ki;exact hM ρ ⟨ki,s7,s8,s9,s10,h1,e⟩
 rintro _ ⟨ji,s7,s8,s9,s10,hsv,rfl⟩;have I:=dB hN N.js.length (lw _) λi' h=>pre i' (by omega);obtain⟨j,rfl⟩:∃j,i=N.js.length+j:=⟨i - N.js.length,by omega⟩
 have et:thg N (N.js.length+j)=N.m - 1 - j:=by unfold thg;omega
 rw[fZ]at hE;refine⟨_,rfl,sv4 N _ _ ?_,dm _,?_⟩
 ·show svNs [s7,s8,s9,s10,.un]=true;have h0:=bH 0 hsv;have h1:=bH 1 hsv;have h2:=bH 2 hsv;have h3:=bH 3 hsv;show(svN s7&&(svN s8&&(svN s9&&(svN s10&&true))))=true;rw[show svN s7=true from h0,show svN s8=true from h1,show svN s9=true from h2,show svN s10=true from h3];rfl
 refine⟨⟨by omega,by omega⟩,?_⟩;refine⟨by rw[eQ];omega,?_⟩;refine j6 (λk acc ρ=>k<=j/\acc=natsD (tgAt N k).1/\ρ=[.vl (netD N),nv N.m,.vl (.tup (N.js.map L2.pairD)),.vl (.tup (natsD N.os)),.vl (llD ((tuAt N N.js.length).1.map natsD)),.ow (natsD (tgAt N k).2.1),.ow ((tgAt N k).2.2.map L2.pairD),s7,s8,s9,s10,.un]) (λ_ _ _ _=>trivial) ?_ (λacc ρ ⟨h,_⟩=>by rw[eQ]at h;omega) _ ⟨yz _,rfl,rfl⟩;rintro k d acc _ M2 hk ⟨kj,rfl,rfl⟩ hM2;obtain⟨lk,rfl⟩:=la hk;have lk:k<N.m:=by omega
 obtain⟨g1,g2,g3,g4⟩:=kC hN k (by omega) λi' h=>pre i' (by omega)
 have lt:N.m - 1 - k<(tuAt N N.js.length).1.length:=by rw[I.l];omega
 have hmem:=bP lt;have hat:=pG lt;have hU:=I.u _ hmem;have hR:=I.r _ hmem;have ec:((N.m:Int) - 1 - (k:Int))=((N.m - 1 - k:Nat):Int):=by omega
 refine gaN1 ?_;rw[ec];by_cases kc:k=j
 ·subst kc;unfold stOk at hno;rw[fZ,gr]at hno;obtain⟨u,us',hus⟩:=yE hE;rw[hus]at hno hR hU;rw[wS]at hU;refine .inr (jO rfl hat ?_);rw[hus];refine⟨rfl,N.m - 1 - k,u,us',(tgAt N k).2.1,(tgAt N k).2.2,rfl,by omega,λx hx=>nw (hR x hx) g3,λz=>hno ⟨by simp,z⟩,by omega,by omega,λR' M'=>?_⟩;rw[<- et];exact⟨_,rfl,rfl,sv4 N _ _ (by show(svN s7&&(svN s8&&(svN s9&&(svN s10&&true))))=true;rw[show svN s7=true from bH 0 hsv,show svN s8=true from bH 1 hsv,show svN s9=true from bH 2 hsv,show svN s10=true from bH 3 hsv];rfl),⟨_,rfl,rfl⟩,⟨_,rfl⟩,hq⟩
 have okg:=pre (N.js.length+k) (by omega);unfold stOk at okg;rw[fZ,gr]at okg;have ht:tgAt N (k+1)=((tgAt N k).1++[(juU ((tuAt N N.js.length).1.getD (N.m - 1 - k) []) (tgAt N k).2.1 (tgAt N k).2.2).1],(juU ((tuAt N N.js.length).1.getD (N.m - 1 - k) []) (tgAt N k).2.1 (tgAt N k).2.2).2.1,(juU ((tuAt N N.js.length).1.getD (N.m - 1 - k) []) (tgAt N k).2.1 (tgAt N k).2.2).2.2):=by rw[tgAt]
 generalize hus:(tuAt N N.js.length).1.getD (N.m - 1 - k) []=us at *;obtain⟨u,us',rfl⟩:=yE okg.1;have hj2:=okg.2;rw[wS]at hU;refine .inl (jO rfl hat ⟨rfl,N.m - 1 - k,u,us',(tgAt N k).2.1,(tgAt N k).2.2,rfl,λx hx=>nw (hR x hx) g3,hj2,by omega,by omega,?_⟩);refine hM2 _ _ ⟨by omega,?_,?_⟩
 ·rw[ht];show natsD (tgAt N k).1++[nD _]=natsD ((tgAt N k).1++[_]);rw[cg];rfl
 ·rw[ht];rfl
end
section
variable {n:Nat}{js:List Nat}{c:En->Prop}{g:AG}{tc:AT}{te:AE}{q:List D->En->Prop}
theorem rE {α:Type}(h:α->D)(p:α->Bool)(f:α->D){xs:List α}{ρ:En}(hc:c ρ)(hs:∀x acc (N:List D->En->Prop),x∈xs->N (if p x=true then acc++[f x]else acc) ρ->uI n js g tc te ρ (h x) acc N)
  (hd:q ((xs.filter p).map f) ρ):fW n js c g tc te q (xs.map h) [] ρ:=by
 refine eC (λk acc ρ'=>ρ'=ρ/\acc=((xs.take k).filter p).map f) (λk acc ρ' _ h=>h.1▸hc) ?_ ?_ ρ ⟨rfl,rfl⟩
 ·rintro k d acc _ N hk ⟨rfl,rfl⟩ hN;rw[lm]at hk;obtain⟨x,e1,rfl⟩:=wp.mp hk;refine hs x _ N (yp e1) (hN _ _ ⟨rfl,?_⟩);rw[Ah,e1,B7,Aa,yo];cases hp:p x <;> simp[hp]
 ·rintro acc _ ⟨rfl,rfl⟩;rw[db,BA];exact hd
end
def stM (N:Net)(i:Nat):List (Nat×Nat):=if i<N.js.length then(tuAt N i).2.2 else(tgAt N (i - N.js.length)).2.2
def stJ (N:Net)(i:Nat):Nat×List Nat×List (Nat×Nat):=juU (stU N i) (stR N i) (stM N i)
def stG (N:Net)(i:Nat):Nat:=(stJ N i).1
theorem nW {N:Net}{i:Nat}(h:i<N.js.length):stM N i=(tuAt N i).2.2:=if_pos h
theorem jV {N:Net}(k:Nat):stM N (N.js.length+k)=(tgAt N k).2.2:=by
 unfold stM;rw[if_neg (by omega),BD]
theorem tW {N:Net}{i:Nat}(h:i<N.js.length):stJ N i=juU ((tuAt N i).1.getD (N.m+(N.js.length - 1 - i)) []) (tuAt N i).2.1 (tuAt N i).2.2:=by
 unfold stJ;rw[fY h,hZ h,nW h]
theorem tX {N:Net}(k:Nat):stJ N (N.js.length+k)=juU ((tuAt N N.js.length).1.getD (N.m - 1 - k) []) (tgAt N k).2.1 (tgAt N k).2.2:=by
 unfold stJ;rw[fZ,gr,jV]
theorem uV {N:Net}(i:Nat):stR N (i+1)=(stJ N i).2.1/\stM N (i+1)=(stJ N i).2.2:=by
 rcases pp i N.js.length with h | h
 ·rw[tW h];rcases pp (i+1) N.js.length with h2 | h2
  ·rw[hZ h2,nW h2];exact⟨rfl,rfl⟩
  ·have e:i+1=N.js.length+0:=by omega
   have e2:N.js.length=i+1:=by omega
   constructor
   ·rw[e,gr];show(tuAt N N.js.length).2.1=_;conv=>lhs;rw[e2]
    rfl
   ·rw[e,jV];show(tuAt N N.js.length).2.2=_;conv=>lhs;rw[e2]
    rfl
 ·obtain⟨k,rfl⟩:∃k,i=N.js.length+k:=⟨i - N.js.length,by omega⟩
  rw[tX,Dg,gr,jV];exact⟨rfl,rfl⟩
theorem uU {N:Net}:stR N 0=aO N.os.length/\stM N 0=[]:=by
 rcases pp 0 N.js.length with h | h
 ·rw[hZ h,nW h];exact⟨rfl,rfl⟩
 ·have e:N.js.length=0:=by omega
  have e2:(0:Nat)=N.js.length+0:=by omega
  constructor
  ·conv=>lhs;rw[e2]
   rw[gr];show(tuAt N N.js.length).2.1=_;rw[e];rfl
  ·conv=>lhs;rw[e2]
   rw[jV];show(tuAt N N.js.length).2.2=_;rw[e];rfl
theorem uv {U:List (List Nat)}{a g t:Nat}(h:t<U.length):(app U a g).getD t []=if t=a then U.getD t []++[g]else U.getD t []:=by
 unfold app;rw[bi];by_cases e:t=a
 ·subst e;rw[y6 h,if_pos rfl];rfl
 ·rw[xz (zd e),if_neg e,bi]
def inJ (N:Net)(t k:Nat):Bool:=t==(N.js.getD (N.js.length - 1 - k) (0,0)).1||t==(N.js.getD (N.js.length - 1 - k) (0,0)).2
theorem kq (N:Net):∀k,(tuAt N k).1.length=N.m+N.js.length
 | 0=>by show(eJ N).length=_;simp[eJ]
 | k+1=>by
  show(app (app _ _ _) _ _).length=_;rw[dJ,dJ];exact kq N k
theorem uK {N:Net}(hN:bN N){t:Nat}(ht:t<N.m+N.js.length):∀k,k<=N.js.length->(tuAt N k).1.getD t []=usO N.os t++((ym k).filter (inJ N t)).map (stG N)
 | 0,_=>by
  show(eJ N).getD t []=_;unfold eJ;rw[bi,lm,yH ht];show _=usO N.os t++[]
  rw[zZ];rfl
 | k+1,hk=>by
  have ih:=uK hN ht k (by omega);have lt:N.js.length - 1 - k<N.js.length:=by omega
  have ep:N.js[N.js.length - 1 - k]? = some (N.js.getD (N.js.length - 1 - k) (0,0)):=by rw[bi,bv lt];rfl
  have ix:=(bY (cV hN.js) ep).1;have eg:stG N k=(juU ((tuAt N k).1.getD (N.m+(N.js.length - 1 - k)) []) (tuAt N k).2.1 (tuAt N k).2.2).1:=by unfold stG;rw[tW (by omega)]
  rw[zF,Aa,yo,<- Cq,<- ih];show(app (app _ _ _) _ _).getD t []=_;rw[uv (by rw[dJ,kq];exact ht),uv (by rw[kq];exact ht),<- eg,AM,AX];unfold inJ;generalize N.js.getD (N.js.length - 1 - k) (0,0)=p at *;by_cases e1:t=p.1
  ·have e2:t≠p.2:=by omega
   rw[if_neg e2,if_pos e1,show(t==p.1)=true from beq_iff_eq.mpr e1];rfl
  ·by_cases e2:t=p.2
   ·rw[if_pos e2,if_neg e1,show(t==p.1)=false from beq_eq_false_iff_ne.mpr e1,show(t==p.2)=true from beq_iff_eq.mpr e2];rfl
   ·rw[if_neg e2,if_neg e1,show(t==p.1)=false from beq_eq_false_iff_ne.mpr e1,show(t==p.2)=false from beq_eq_false_iff_ne.mpr e2];show _=_++[]
    rw[zZ]
theorem iS {N:Net}(hN:bN N){i:Nat}(h:i<N.js.length+N.m):stU N i=usO N.os (thg N i)++((ym (min i N.js.length)).filter (inJ N (thg N i))).map (stG N):=by
 have ht:thg N i<N.m+N.js.length:=by unfold thg;omega
 rcases pp i N.js.length with q | q
 ·have e:N.m+(N.js.length - 1 - i)=thg N i:=by unfold thg;omega
  rw[fY q,e,uK hN ht i (by omega),zx (yR q)]
 ·obtain⟨k,rfl⟩:∃k,i=N.js.length+k:=⟨i - N.js.length,by omega⟩
  have e:N.m - 1 - k=thg N (N.js.length+k):=by unfold thg;omega
  rw[fZ,e,uK hN ht _ (lw _),zJ (by omega)]
theorem tV (N:Net):∀k,(tgAt N k).1=(ym k).map λj=>stG N (N.js.length+j)
 | 0=>rfl
 | k+1=>by
  rw[zF,yo,<- tV N k];show _++[_]=_++[stG N (N.js.length+k)]
  unfold stG;rw[tX]
theorem wa (N:Net):(tgAt N N.m).1.reverse=(ym N.m).map λt=>stG N (N.m+N.js.length - 1 - t):=by
 apply Bs;intro t;rw[tV];rcases pp t N.m with h | h
 ·rw[Af (by simpa using h),lm,lm,yH h,db,z6,yH (by omega)];show some (stG N (N.js.length+(N.m - 1 - t)))=some (stG N (N.m+N.js.length - 1 - t));rw[show N.js.length+(N.m - 1 - t)=N.m+N.js.length - 1 - t by omega]
 ·rw[yS (by simpa using h),yS (by simpa using h)]
theorem wj {N:Net}(hN:bN N){i:Nat}(hi:i<N.js.length+N.m)(pre:∀i',i'<i->stOk N i'):(∀x∈stU N i,x<(stR N i).length)/\(stR N i).length=N.os.length+(stM N i).length/\(stM N i).length<=300*i/\(stU N i).length<=300:=by
 have jl:=hN.jl;rcases pp i N.js.length with h | h
 ·have I:=dB hN i (yR h) pre;have lt:N.m+(N.js.length - 1 - i)<(tuAt N i).1.length:=by rw[I.l];omega
  have hm:=bP lt;rw[fY h,hZ h,nW h];exact⟨I.r _ hm,I.rl,I.ml,by have:=I.u _ hm;omega⟩
 ·obtain⟨k,rfl⟩:∃k,i=N.js.length+k:=⟨i - N.js.length,by omega⟩
  have I:=dB hN N.js.length (lw _) λi' h'=>pre i' (by omega);obtain⟨a,b,c,d⟩:=kC hN k (by omega) λi' h'=>pre i' h'
  have lt:N.m - 1 - k<(tuAt N N.js.length).1.length:=by rw[I.l];omega
  have hm:=bP lt;rw[fZ,gr,jV];exact⟨λx hx=>nw (I.r _ hm x hx) c,a,b,by have:=I.u _ hm;omega⟩
theorem lS (xs ys:List Nat):natsD (xs++ys)=natsD xs++natsD ys:=by unfold natsD;rw[yo]
def l_ (C:List (Nat->Nat))(p:Nat×Nat):List (Nat->Nat):=C++[λg=>C.getD p.1 (λ_=>0) g+C.getD p.2 (λ_=>0) g]
def cown (m:Nat):List (Nat->Nat):=(ym m).map λi g=>if g=i then 1 else 0
def cnt (m:Nat)(js:List (Nat×Nat))(t:Nat):Nat->Nat:=(js.foldl l_ (cown m)).getD t λ_=>0
theorem l9 (C:List (Nat->Nat))(p:Nat×Nat):(l_ C p).length=C.length+1:=by simp[l_]
theorem uo (js:List (Nat×Nat)):∀C:List (Nat->Nat),(js.foldl l_ C).length=C.length+js.length:=by
 induction js with
 | nil=>intro C;rfl
 | cons p r ih=>intro C;rw[y_,ih,l9,wS];omega
theorem lg (m:Nat):(cown m).length=m:=by simp[cown]
theorem vI {C X:List (Nat->Nat)}{t:Nat}(h:t<C.length):(C++X).getD t (λ_=>0)=C.getD t λ_=>0:=by
 rw[bi,yx h,<- bi]
theorem rK:∀(js:List (Nat×Nat)) {C:List (Nat->Nat)} {t:Nat},t<C.length->(js.foldl l_ C).getD t (λ_=>0)=C.getD t λ_=>0
 | [],_,_,_=>rfl
 | p::r,C,t,h=>by
  rw[y_,rK r (by rw[l9];omega)];exact vI h
theorem jC {m:Nat}{js xs:List (Nat×Nat)}{t:Nat}(h:t<m+js.length):cnt m (js++xs) t=cnt m js t:=by
 unfold cnt;rw[zn,rK xs (by rw[uo,lg];exact h)]
theorem hV {m t:Nat}(js:List (Nat×Nat))(h:t<m)(g:Nat):cnt m js t g=if g=t then 1 else 0:=by
 unfold cnt;rw[rK js (by rw[lg];exact h)];unfold cown;rw[bi,lm,yH h];rfl
theorem pP (C:List (Nat->Nat))(p:Nat×Nat)(g:Nat):(l_ C p).getD C.length (λ_=>0) g=C.getD p.1 (λ_=>0) g+C.getD p.2 (λ_=>0) g:=by
 unfold l_;rw[bi,yK (lw _),Nat.sub_self];rfl
theorem oN (m:Nat)(js:List (Nat×Nat))(p:Nat×Nat)(g:Nat):cnt m (js++[p]) (m+js.length) g=cnt m js p.1 g+cnt m js p.2 g:=by
 have:=pP (js.foldl l_ (cown m)) p g;rw[uo,lg]at this;unfold cnt;rw[zn];exact this
theorem oO {m:Nat}{js:List (Nat×Nat)}{j:Nat}{p:Nat×Nat}(hix:okIx m js)(e:js[j]? = some p)(g:Nat):cnt m js (m+j) g=cnt m js p.1 g+cnt m js p.2 g:=by
 have lt:=(kt.mp e).1;obtain⟨h1,h2⟩:=bY hix e;have hs:js=(js.take j++[p])++js.drop (j+1):=by
  have:=zU (j+1) js;rw[Ah,e]at this;exact this.symm
 have hl:(js.take j).length=j:=by rw[yZ];omega
 have a:cnt m js (m+j) g=cnt m (js.take j++[p]) (m+(js.take j).length) g:=by
  rw[hl];conv=>lhs;rw[hs]
  rw[jC (by rw[ms,yr,hl];omega)]
 have b:∀t,t<m+j->cnt m js t=cnt m (js.take j) t:=λt ht=>by
  conv=>lhs;rw[<- zU j js]
  rw[jC (by rw[hl];exact ht)]
 rw[a,oN,b p.1 (by omega),b p.2 h2]
theorem iQ {m:Nat}{js:List (Nat×Nat)}(hix:okIx m js){C:Nat->Prop}(h0:∀t,t<m->C t)(h1:∀j p,js[j]? = some p->p.1<p.2->p.2<m+j->C p.1->C p.2->C (m+j)):∀t,t<m+js.length->C t:=by
 have go:∀n t,t<n->t<m+js.length->C t:=by
  intro n;induction n with
  | zero=>intro t h _;omega
  | succ n ih =>
   intro t h hl;rcases pp t m with q | q
   ·exact h0 t q
   ·obtain⟨j,rfl⟩:∃j,t=m+j:=⟨t - m,by omega⟩
    have lt:j<js.length:=by omega
    have e:js[j]? = some js[j]:=bv lt;obtain⟨a,b⟩:=bY hix e;exact h1 j _ e a b (ih _ (by omega) (by omega)) (ih _ (by omega) (by omega))
 exact λt h=>go _ t (AQ t) h
theorem rG {m:Nat}{js:List (Nat×Nat)}(hix:okIx m js):∀t,t<m+js.length->∃g,g<m/\1<=cnt m js t g:=by
 refine iQ hix (λt h=>⟨t,h,by rw[hV js h,if_pos rfl];exact lw 1⟩) λj p e _ _ ⟨g,hg,h⟩ _=>⟨g,hg,by rw[oO hix e];omega⟩
theorem nI {m:Nat}{js:List (Nat×Nat)}(hix:okIx m js){g:Nat}(hg:m<=g):∀t,t<m+js.length->cnt m js t g=0:=by
 refine iQ hix (λt h=>by rw[hV js h,if_neg (by omega)]) λj p e _ _ h1 h2=>by rw[oO hix e,h1,h2]
def nt (m:Nat)(js:List (Nat×Nat)):Net:=⟨m,js,[]⟩
theorem rF {m:Nat}{js:List (Nat×Nat)}(hix:okIx m js)(g:Nat):∀t,t<m+js.length->((js.foldl aD (aO m)).getD t 0).testBit g=decide (cnt m js t g % 2=1):=by
 refine iQ hix (λt h=>?_) λj p e h1 h2 c1 c2=>?_
 ·rw[show(js.foldl aD (aO m)).getD t 0=1 <<< t from qp (N:=nt m js) h,hV js h,Ev,Ca];by_cases q:t=g
  ·subst q;simp
  ·rw[if_neg (λz=>q z.symm),decide_eq_false q];rfl
 ·have:=sD (N:=nt m js) hix e;rw[show(js.foldl aD (aO m)).getD (m+j) 0=(js.foldl aD (aO m)).getD p.1 0 ^^^ (js.foldl aD (aO m)).getD p.2 0 from this,Ab,c1,c2,oO hix e];rcases yM (cnt m js p.1 g)with a | a <;> rcases yM (cnt m js p.2 g)with b | b <;> rw[Nat.add_mod,a,b] <;> rfl
def Cl (m:Nat)(js:List (Nat×Nat)):Prop:=∀t,t<m+js.length->∀g,cnt m js t g<=1
def sm (f:Nat->Nat):Nat->Nat
 | 0=>0
 | L+1=>sm f L+f L
theorem eK {f h:Nat->Nat}:∀ {L:Nat},(∀t,t<L->f t=h t)->sm f L=sm h L
 | 0,_=>rfl
 | L+1,e=>by
  show sm f L+f L=sm h L+h L;rw[eK λt ht=>e t (by omega),e L (by omega)]
theorem iU (f h:Nat->Nat):∀L,sm (λt=>f t+h t) L=sm f L+sm h L
 | 0=>rfl
 | L+1=>by
  show sm (λt=>f t+h t) L+(f L+h L)=(sm f L+f L)+(sm h L+h L)
  rw[iU f h L];omega
theorem h9 (a y:Nat):∀L,sm (λt=>if t=a then y else 0) L=if a<L then y else 0
 | 0=>by rw[if_neg (A5 a)];rfl
 | L+1=>by
  show sm _ L+(if L=a then y else 0)=_;rw[h9 a y L];by_cases h:L=a
  ·rw[if_pos h,if_neg (by omega),if_pos (by omega)];omega
  ·rw[if_neg h];by_cases h2:a<L
   ·rw[if_pos h2,if_pos (by omega),Bh]
   ·rw[if_neg h2,if_neg (by omega)]
theorem uX {f:Nat->Nat}:∀ {L t:Nat},t<L->f t<=sm f L
 | 0,_,h=>absurd h (A5 _)
 | L+1,t,h=>by
  show f t<=sm f L+f L;rcases pp t L with q | q
  ·have:=uX (f:=f) q;omega
  ·rw[show t=L by omega];omega
theorem wm (f:Nat->Nat):∀L,sm (λi=>f (L - 1 - i)) L=sm f L:=by
 have sh:∀(h:Nat->Nat) L,sm h (L+1)=h 0+sm (λi=>h (i+1)) L:=by
  intro h L;induction L with
  | zero=>show 0+h 0=h 0+0;omega
  | succ L ih=>show sm h (L+1)+h (L+1)=h 0+(sm (λi=>h (i+1)) L+h (L+1));rw[ih];omega
 intro L;induction L with
 | zero=>rfl
 | succ L ih =>
  rw[sh];show f (L+1 - 1 - 0)+_=sm f L+f L;rw[show sm (λi=>f (L+1 - 1 - (i+1))) L=sm (λi=>f (L - 1 - i)) L from eK λt ht=>by congr 1;omega,ih,Eh,Cs];omega
def ls:List Nat->Nat
 | []=>0
 | x::xs=>x+ls xs
theorem oy:∀xs ys:List Nat,ls (xs++ys)=ls xs+ls ys
 | [],ys=>by show ls ys=0+ls ys;omega
 | x::xs,ys=>by show x+ls (xs++ys)=x+ls xs+ls ys;rw[oy xs ys];omega
def wgt (N:Net):Nat->Nat->Nat->Nat
 | 0,t,p=>if N.os.getD p 0=t then 1 else 0
 | k+1,t,p=>wgt N k t p+if inJ N t k=true then wgt N k (N.m+(N.js.length - 1 - k)) p else 0
theorem sV {N:Net}(hN:bN N){k:Nat}(hk:k<N.js.length):∃q,N.js.getD (N.js.length - 1 - k) (0,0)=q/\N.js[N.js.length - 1 - k]? = some q/\q.1<q.2/\q.2<N.m+(N.js.length - 1 - k):=by
 have lt:N.js.length - 1 - k<N.js.length:=by omega
 have ep:N.js[N.js.length - 1 - k]? = some (N.js.getD (N.js.length - 1 - k) (0,0)):=by rw[bi,bv lt];rfl
 have ix:=bY (cV hN.js) ep;rw[bf]at ix;exact⟨_,rfl,ep,ix.1,ix.2⟩
theorem qW {N:Net}{k t:Nat}{q:Nat×Nat}(e:N.js.getD (N.js.length - 1 - k) (0,0)=q)(h:q.1<q.2)(y:Nat):(if inJ N t k=true then y else 0)=(if t=q.1 then y else 0)+if t=q.2 then y else 0:=by
 unfold inJ;rw[e];by_cases h1:t=q.1
 ·rw[if_pos (show(t==q.1||t==q.2)=true by rw[beq_iff_eq.mpr h1];rfl),if_pos h1,if_neg (by omega),Bh]
 ·by_cases h2:t=q.2
  ·rw[if_pos (show(t==q.1||t==q.2)=true by rw[beq_iff_eq.mpr h2,Bd]),if_neg h1,if_pos h2,zw]
  ·rw[if_neg (show ¬(t==q.1||t==q.2)=true by rw[beq_eq_false_iff_ne.mpr h1,beq_eq_false_iff_ne.mpr h2];decide),if_neg h1,if_neg h2]
theorem iC {N:Net}(hN:bN N):okIx N.m N.js:=by have:=cV hN.js;rwa [bf]at this
theorem kg {N:Net}(hN:bN N){p:Nat}(hp:p<N.os.length)(g:Nat):∀k,k<=N.js.length->sm (λt=>wgt N k t p*cnt N.m N.js t g) (N.m+N.js.length - k)=cnt N.m N.js (N.os.getD p 0) g
 | 0,_=>by
  have ho:N.os.getD p 0<N.m+N.js.length:=hN.os _ (by rw[bi,bv hp];exact zc hp);rw[show(λt=>wgt N 0 t p*cnt N.m N.js t g)=λt=>if t=N.os.getD p 0 then cnt N.m N.js (N.os.getD p 0) g else 0 from ?_,h9,if_pos (by omega)];funext t;show(if N.os.getD p 0=t then 1 else 0)*_=_;by_cases h:t=N.os.getD p 0
  ·rw[if_pos h.symm,if_pos h,h,DP]
  ·rw[if_neg (λz=>h z.symm),if_neg h,Dw]
 | k+1,hk=>by
  obtain⟨q,eq,ep,q1,q2⟩:=sV hN (k:=k) (by omega);rw[<- kg hN hp g k (by omega),show N.m+N.js.length - k=N.m+(N.js.length - 1 - k)+1 by omega,show N.m+N.js.length - (k+1)=N.m+(N.js.length - 1 - k)by omega];show _=sm _ _+wgt N k (N.m+(N.js.length - 1 - k)) p*cnt N.m N.js (N.m+(N.js.length - 1 - k)) g;rw[oO (iC hN) ep,Nat.mul_add];have e:∀t,wgt N (k+1) t p*cnt N.m N.js t g=wgt N k t p*cnt N.m N.js t g+((if t=q.1 then wgt N k (N.m+(N.js.length - 1 - k)) p*cnt N.m N.js q.1 g else 0)+if t=q.2 then wgt N k (N.m+(N.js.length - 1 - k)) p*cnt N.m N.js q.2 g else 0):=λt=>by
   show(wgt N k t p+if inJ N t k=true then _ else 0)*_=_;rw[qW eq q1,Fy,Fy];congr 2
   ·split
    ·rename_i h;rw[h]
    ·rw[Dw]
   ·split
    ·rename_i h;rw[h]
    ·rw[Dw]
  rw[eK λt _=>e t,iU,iU,h9,h9,if_pos (by omega),if_pos q2]
theorem ux {N:Net}(hN:bN N){p g:Nat}(hp:p<N.os.length)(hg:g<N.m):wgt N N.js.length g p=cnt N.m N.js (N.os.getD p 0) g:=by
 rw[<- kg hN hp g _ (lw _),Eh];rw[eK (h:=λt=>if t=g then wgt N N.js.length g p else 0) λt ht=>?_,h9,if_pos hg];rw[hV _ ht];by_cases h:t=g
 ·rw[if_pos h,if_pos h.symm,h,Nat.mul_one]
 ·rw[if_neg h,if_neg (λz=>h z.symm),Nat.mul_zero]
theorem tS {N:Net}(t p:Nat):∀K,K<=N.js.length->wgt N K t p=(if N.os.getD p 0=t then 1 else 0)+ls (((ym K).filter (inJ N t)).map λk=>wgt N k (thg N k) p)
 | 0,_=>rfl
 | K+1,h=>by
  show wgt N K t p+(if inJ N t K=true then wgt N K (N.m+(N.js.length - 1 - K)) p else 0)=_;rw[tS t p K (by omega),zF,Aa,yo,oy,Dg];congr 2;rw[AM,AX];have e:N.m+(N.js.length - 1 - K)=thg N K:=by unfold thg;omega
  split
  ·rw[e];show _=wgt N K (thg N K) p+0;omega
  ·rfl
theorem uB {os:List Nat}{t p:Nat}(hp:p<os.length)(c:Nat->Nat)(hc:∀u,u<os.length->c u=if p=u then 1 else 0):ls ((usO os t).map c)=if os.getD p 0=t then 1 else 0:=by
 have go:∀K,K<=os.length->ls ((usP os K t).map c)=if p<K/\os.getD p 0=t then 1 else 0:=by
  intro K;induction K with
  | zero=>intro _;rw[if_neg (λz=>absurd z.1 (A5 p))];rfl
  | succ K ih =>
   intro hK;rw[km,yo,oy,ih (by omega)];by_cases e:os.getD K 0=t
   ·rw[if_pos (show(os.getD K 0==t)=true from beq_iff_eq.mpr e)];show _+(c K+0)=_;rw[hc K (by omega)];by_cases q:p=K
    ·rw[if_pos q,if_neg (by omega),if_pos ⟨by omega,by rw[q];exact e⟩]
    ·rw[if_neg q];by_cases z:p<K/\os.getD p 0=t
     ·rw[if_pos z,if_pos ⟨by omega,z.2⟩]
     ·rw[if_neg z,if_neg (λy=>z ⟨by omega,y.2⟩)]
   ·rw[if_neg (show ¬(os.getD K 0==t)=true by rw[beq_iff_eq];exact e)];show _+0=_;by_cases z:p<K/\os.getD p 0=t
    ·rw[if_pos z,if_pos ⟨by omega,z.2⟩]
    ·rw[if_neg z,if_neg (λy=>z ⟨by
      rcases pp p K with h | h
      ·exact h
      ·exfalso;apply e;rw[show K=p by omega];exact y.2,y.2⟩)]
 have:=go os.length (lw _);rw[show usP os os.length t=usO os t from rfl]at this;rw[this];by_cases e:os.getD p 0=t
 ·rw[if_pos ⟨hp,e⟩,if_pos e]
 ·rw[if_neg (λz=>e z.2),if_neg e]
structure Ch (n:Nat)(us:List Nat)(g:Nat)(M:List (Nat×Nat))(J:Nat×List Nat×List (Nat×Nat)):Prop where
 e:∃X,J.2.2=M++X/\X.length=us.length
 r:J.2.1=J.2.2.foldl aD (aO n)
 ok:okJs (aO n) J.2.2
 lt:J.1<n+J.2.2.length
 c:∀p,cnt n J.2.2 J.1 p=cnt n M g p+ls (us.map λu=>cnt n M u p)
 b:∀v,n+M.length<=v->v<n+J.2.2.length->∀p,cnt n J.2.2 v p<=cnt n J.2.2 J.1 p
 u:∀v,(v=g∨v∈us∨n+M.length<=v)->v<n+J.2.2.length->v=J.1 ∨ ∃q∈J.2.2,v=q.1∨v=q.2
theorem xt (n:Nat)(M:List (Nat×Nat))(g u p:Nat):cnt n M (min g u) p+cnt n M (max g u) p=cnt n M g p+cnt n M u p:=by
 rcases AF g u with h | h
 ·rw[zx h,BC h]
 ·rw[zJ h,BP h];omega
theorem xo {n g u:Nat}{R:List Nat}{M:List (Nat×Nat)}(hR:R=M.foldl aD (aO n))(ok:okJs (aO n) M)(hg:g<R.length)(hu:u<R.length)(ne:R.getD g 0≠R.getD u 0) :
  R++[R.getD g 0 ^^^ R.getD u 0]=(M++[(min g u,max g u)]).foldl aD (aO n)/\okJs (aO n) (M++[(min g u,max g u)]):=by
 have hl:R.length=n+M.length:=by rw[hR,cb,bf]
 refine⟨by rw[zn,y_,C4,mI,<- hR],jk ok ?_ (by rw[bf];show max g u<_;omega) ?_⟩
 ·show min g u<max g u;have:g≠u:=λz=>ne (by rw[z]);omega
 ·rw[<- hR];show R.getD (min g u) 0≠R.getD (max g u) 0;rcases AF g u with h | h
  ·rw[zx h,BC h];exact ne
  ·rw[zJ h,BP h];exact ne.symm
theorem xv {n:Nat}:∀(us:List Nat) {g:Nat} {R:List Nat} {M:List (Nat×Nat)},R=M.foldl aD (aO n)->okJs (aO n) M->g<R.length->(∀u∈us,u<R.length)->juOk us g R->Ch n us g M (juS us g R M)
 | [],g,R,M,hR,ok,hg,_,_=>by
  have hl:R.length=n+M.length:=by rw[hR,cb,bf]
  refine⟨⟨[],by rw[zZ];rfl,rfl⟩,hR,ok,by show g<n+M.length;omega,λp=>rfl,λv h1 h2=>?_,λv h h2=>?_⟩
  ·have h2:v<n+M.length:=h2;omega
  ·have h2:v<n+M.length:=h2;rcases h with h | h | h
   ·exact .inl h
   ·cases h
   ·omega
 | u::us,g,R,M,hR,ok,hg,hu,hj=>by
  have hl:R.length=n+M.length:=by rw[hR,cb,bf]
  have hu0:=hu u (yW ..);obtain⟨hR1,ok1⟩:=xo hR ok hg hu0 hj.1;have I:=xv us (g:=R.length) hR1 ok1 (by rw[ms,yr];omega) (λu' h=>by have:=hu u' (yN _ h);rw[ms,yr];omega) hj.2;show Ch n (u::us) g M (juS us R.length (R++[R.getD g 0 ^^^ R.getD u 0]) (M++[(min g u,max g u)]));generalize juS us R.length (R++[R.getD g 0 ^^^ R.getD u 0]) (M++[(min g u,max g u)])=J at I;obtain⟨⟨X,e,el⟩,r,okJ,lt,c,b,hu'⟩:=I;have l1:(M++[(min g u,max g u)]).length=M.length+1:=by rw[ms,yr]
  have c0:∀v p,v<n+M.length->cnt n (M++[(min g u,max g u)]) v p=cnt n M v p:=λv p h=>by rw[jC h]
  have c1:∀p,cnt n (M++[(min g u,max g u)]) R.length p=cnt n M g p+cnt n M u p:=λp=>by rw[hl,oN];exact xt n M g u p
  have cJ:∀p,cnt n J.2.2 J.1 p=cnt n M g p+ls ((u::us).map λu=>cnt n M u p):=λp=>by
   rw[c,c1,yy];show _=_+(cnt n M u p+ls _)
   rw[show us.map (λu'=>cnt n (M++[(min g u,max g u)]) u' p)=us.map λu'=>cnt n M u' p from zj λu' h=>c0 u' p (by have:=hu u' (yN _ h);omega)];omega
  have mem1:(min g u,max g u)∈J.2.2:=by rw[e];exact z5 _ (wr _ (y7.mpr rfl))
  have gu:∀v,v=g∨v=u->v=min g u∨v=max g u:=λv h=>by omega
  refine⟨⟨(min g u,max g u)::X,by rw[e,Cq];rfl,by rw[wS,wS,el]⟩,r,okJ,lt,cJ,λv h1 h2 p=>?_,λv h h2=>?_⟩
  ·rw[l1]at b;rcases pp v (n+(M.length+1))with q | q
   ·have:v=R.length:=by omega
    rw[c p,this];conv=>lhs;rw[e]
    rw[jC (by rw[l1];omega)];omega
   ·exact b v q h2 p
  ·rw[l1]at hu';rcases h with h | h | h
   ·exact .inr ⟨_,mem1,gu v (.inl h)⟩
   ·rcases wn.mp h with h | h
    ·exact .inr ⟨_,mem1,gu v (.inr h)⟩
    ·exact hu' v (.inr (.inl h)) h2
   ·rcases pp v (n+(M.length+1))with q | q
    ·exact hu' v (.inl (by omega)) h2
    ·exact hu' v (.inr (.inr q)) h2
structure Ti (N:Net)(i:Nat):Prop where
 r:stR N i=(stM N i).foldl aD (aO N.os.length)
 ok:okJs (aO N.os.length) (stM N i)
 l:(stM N i).length+i=sm (λk=>(stU N k).length) i
 lt:∀k,k<i->stG N k<N.os.length+(stM N i).length
 c:∀k,k<i->∀p,p<N.os.length->cnt N.os.length (stM N i) (stG N k) p=wgt N (min k N.js.length) (thg N k) p
 b:∀v,v<N.os.length+(stM N i).length->∀p,p<N.os.length->cnt N.os.length (stM N i) v p<=1 ∨ ∃k,k<i/\cnt N.os.length (stM N i) v p<=wgt N (min k N.js.length) (thg N k) p
 u:∀v,v<N.os.length+(stM N i).length->(∃q∈stM N i,v=q.1∨v=q.2)∨(∃k,N.js.length<=k/\k<i/\v=stG N k) ∨ ∃k,i<=k/\k<N.js.length+N.m/\v∈stU N k
theorem uA {N:Net}(hN:bN N){i p:Nat}(hi:i<N.js.length+N.m)(I:Ti N i)(hp:p<N.os.length):ls ((stU N i).map λu=>cnt N.os.length (stM N i) u p)=wgt N (min i N.js.length) (thg N i) p:=by
 rw[iS hN hi,yo,oy,uB hp _ λu hu=>hV _ hu p,tS _ _ _ (CL _ _),zm];congr 2;refine zj λk hk=>?_;have hk:=za.mp (zi.mp hk).1;show cnt N.os.length (stM N i) (stG N k) p=_;rw[I.c k (by omega) p hp,zx (by omega)]
theorem qZ {N:Net}(hN:bN N){i:Nat}(hi:i<N.js.length):∃k,i+1<=k/\k<N.js.length+N.m/\stG N i∈stU N k:=by
 obtain⟨q,eq,ep,q1,q2⟩:=sV hN hi;refine⟨N.m+N.js.length - 1 - q.1,by omega,by have:=hN.m1;omega,?_⟩;rw[iS hN (by have:=hN.m1;omega)];have et:thg N (N.m+N.js.length - 1 - q.1)=q.1:=by unfold thg;omega
 rw[et];refine wr _ (Am.mpr ⟨i,zi.mpr ⟨za.mpr (by omega),?_⟩,rfl⟩);unfold inJ;rw[eq,beq_self_eq_true];rfl
theorem v_ {N:Net}(hN:bN N):∀i,i<=N.js.length+N.m->(∀i',i'<i->stOk N i')->Ti N i
 | 0,_,_=>by
  obtain⟨z1,z2⟩:=uU (N:=N);refine⟨by rw[z1,z2];rfl,by rw[z2];trivial,by rw[z2];rfl,λk h=>absurd h (A5 k),λk h=>absurd h (A5 k),λv hv p hp=>?_,λv hv=>?_⟩
  ·rw[z2]at hv ⊢;refine .inl ?_;rw[hV _ (show v<N.os.length from hv)];split <;> omega
  ·rw[z2]at hv;have hv:v<N.os.length:=hv;have ho:N.os.getD v 0<N.m+N.js.length:=hN.os _ (by rw[bi,bv hv];exact zc hv);refine .inr (.inr ⟨N.m+N.js.length - 1 - N.os.getD v 0,yz _,by omega,?_⟩);rw[iS hN (by omega),show thg N (N.m+N.js.length - 1 - N.os.getD v 0)=N.os.getD v 0 by unfold thg;omega];exact z5 _ (zi.mpr ⟨za.mpr hv,beq_self_eq_true _⟩)
 | i+1,hi,pre=>by
  have I:=v_ hN i (by omega) λi' h=>pre i' (by omega);have ok:=pre i (by omega);have us:=λp (hp:p<N.os.length)=>uA hN (i:=i) (by omega) I hp;obtain⟨hlt,_,_,_⟩:=wj hN (i:=i) (by omega) λi' h=>pre i' (by omega)
  have hlater:=qZ hN (i:=i);obtain⟨eR,eM⟩:=uV (N:=N) i;have eG:stG N i=(stJ N i).1:=rfl;have hl:(stR N i).length=N.os.length+(stM N i).length:=by rw[I.r,cb,bf]
  obtain⟨u,vs,hu⟩:=yE ok.1;have hsm:sm (λk=>(stU N k).length) (i+1)=sm (λk=>(stU N k).length) i+(vs.length+1):=by show _+(stU N i).length=_;rw[hu];rfl
  have ok2:juOk vs u (stR N i):=by have:=ok.2;rwa [hu]at this
  have hJ:stJ N i=juS vs u (stR N i) (stM N i):=by unfold stJ;rw[hu];rfl
  have hU:∀v,v∈stU N i->v=u∨v∈vs:=λv h=>by rw[hu]at h;exact wn.mp h
  rw[hu]at hlt us;have C:=xv vs I.r I.ok (hlt u (yW ..)) (λv h=>hlt v (yN _ h)) ok2;rw[<- hJ]at C;obtain⟨⟨X,e,el⟩,r,okJ,lt,c,b,hu'⟩:=C;rw[eG]at hlater;have cX:∀v,v<N.os.length+(stM N i).length->∀p,cnt N.os.length (stJ N i).2.2 v p=cnt N.os.length (stM N i) v p:=λv h p=>by rw[e,jC h]
  have cG:∀p,p<N.os.length->cnt N.os.length (stJ N i).2.2 (stJ N i).1 p=wgt N (min i N.js.length) (thg N i) p:=λp hp=>by
   rw[c,<- us p hp];rfl
  have lJ:(stJ N i).2.2.length=(stM N i).length+vs.length:=by rw[e,ms,el]
  have fin:∀v,v=(stJ N i).1∨(∃q∈(stJ N i).2.2,v=q.1∨v=q.2)->(∃q∈(stJ N i).2.2,v=q.1∨v=q.2)∨(∃k,N.js.length<=k/\k<i+1/\v=stG N k) ∨ ∃k,i+1<=k/\k<N.js.length+N.m/\v∈stU N k:=λv h=>by
   rcases h with h | h
   ·rcases pp i N.js.length with q | q
    ·obtain⟨k,k1,k2,k3⟩:=hlater q;exact .inr (.inr ⟨k,k1,k2,by rw[h];exact k3⟩)
    ·exact .inr (.inl ⟨i,q,by omega,h⟩)
   ·exact .inl h
  refine⟨by rw[eR,eM];exact r,by rw[eM];exact okJ,?_,λk hk=>?_,λk hk p hp=>?_,λv hv p hp=>?_,λv hv=>?_⟩
  ·rw[eM,lJ,hsm,<- I.l];omega
  ·rw[eM];rcases pp k i with q | q
   ·have:=I.lt k q;omega
   ·rw[show k=i by omega];exact lt
  ·rw[eM];rcases pp k i with q | q
   ·rw[cX _ (I.lt k q),I.c k q p hp]
   ·rw[show k=i by omega];exact cG p hp
  ·rw[eM]at hv ⊢;rcases pp v (N.os.length+(stM N i).length)with q | q
   ·rw[cX v q];rcases I.b v q p hp with h | ⟨k,hk,h⟩
    ·exact .inl h
    ·exact .inr ⟨k,by omega,h⟩
   ·exact .inr ⟨i,by omega,by rw[<- cG p hp];exact b v q hv p⟩
  ·rw[eM]at hv ⊢;rcases pp v (N.os.length+(stM N i).length)with q | q
   ·rcases I.u v q with⟨z,hz,h⟩ | ⟨k,k1,k2,h⟩ | ⟨k,k1,k2,h⟩
    ·exact .inl ⟨z,by rw[e];exact z5 _ hz,h⟩
    ·exact .inr (.inl ⟨k,k1,by omega,h⟩)
    ·rcases pp i k with s | s
     ·exact .inr (.inr ⟨k,s,k2,h⟩)
     ·rw[show k=i by omega]at h;exact fin v (hu' v ((hU v h).imp id .inl) hv)
   ·exact fin v (hu' v (.inr (.inr q)) hv)
theorem gQ (xs:List Nat){p:Nat}(h:xs.length<=p):xs.getD p 0=0:=by rw[bi,yS h];rfl
def colN (rows:List Nat)(g:Nat):Nat:=qt ((ym rows.length).filter λp=>(rows.getD p 0).testBit g)
def jB (many:Nat)(rows:List Nat):List Nat:=(ym many).map (colN rows)
theorem tE (many:Nat)(rows:List Nat):(jB many rows).length=many:=by unfold jB;rw[db,z6]
theorem tF {many:Nat}(rows:List Nat){g:Nat}(h:g<many):(jB many rows).getD g 0=colN rows g:=by
 unfold jB;rw[bi,lm,yH h];rfl
theorem lh (rows:List Nat)(g p:Nat):(colN rows g).testBit p=(rows.getD p 0).testBit g:=by
 unfold colN;rw[qr];have nd:((ym rows.length).filter λp=>(rows.getD p 0).testBit g).Nodup:=Fj _ List.nodup_range;by_cases m:p∈(ym rows.length).filter λp=>(rows.getD p 0).testBit g
 ·rw[Dj nd,if_pos m];rw[(zi.mp m).2];rfl
 ·rw[Dj nd,if_neg m];have:(rows.getD p 0).testBit g=false:=by
   by_cases lt:p<rows.length
   ·cases e:(rows.getD p 0).testBit g with
    | false=>rfl
    | true=>exact(m (zi.mpr ⟨za.mpr lt,e⟩)).elim
   ·rw[gQ rows (by omega)];exact Ap g
  rw[this];rfl
theorem pV {os:List Nat}{L:Nat}:∀K,(∀p,p<K->os.getD p 0<L)->sm (λt=>(usP os K t).length) L=K
 | 0,_=>by
  have:∀L,sm (λt=>(usP os 0 t).length) L=0:=λL=>by
   induction L with
   | zero=>rfl
   | succ L ih=>show sm _ L+0=0;rw[ih]
  exact this L
 | K+1,h=>by
  rw[eK (h:=λt=>(usP os K t).length+if t=os.getD K 0 then 1 else 0) λt _=>?_,iU,pV K λp hp=>h p (by omega),h9,if_pos (h K (by omega))];rw[km,ms];by_cases e:t=os.getD K 0
  ·rw[if_pos e,if_pos (show(os.getD K 0==t)=true from beq_iff_eq.mpr e.symm)];rfl
  ·rw[if_neg e,if_neg (show ¬(os.getD K 0==t)=true by rw[beq_iff_eq];exact λz=>e z.symm)];rfl
theorem qX {N:Net}(hN:bN N):∀K,K<=N.js.length->sm (λt=>((ym K).filter (inJ N t)).length) (N.js.length+N.m)=2*K
 | 0,_=>by
  have:∀L,sm (λt=>((ym 0).filter (inJ N t)).length) L=0:=λL=>by
   induction L with
   | zero=>rfl
   | succ L ih=>show sm _ L+0=0;rw[ih]
  exact this _
 | K+1,h=>by
  obtain⟨q,eq,ep,q1,q2⟩:=sV hN (k:=K) (by omega);rw[eK (h:=λt=>((ym K).filter (inJ N t)).length+((if t=q.1 then 1 else 0)+if t=q.2 then 1 else 0)) λt _=>?_,iU,iU,qX hN K (by omega),h9,h9,if_pos (by omega),if_pos (by omega)]
  ·omega
  rw[<- qW eq q1,zF,Aa,ms,AM,AX];split <;> rfl
theorem oK {f:Nat->Bool}{K:Nat}:∀n,(∀k,K<=k->k<K+n->f k=false)->(ym (K+n)).filter f=(ym K).filter f
 | 0,_=>rfl
 | n+1,h=>by
  rw[<- Dg,zF,Aa,oK n λk h1 h2=>h k h1 (by omega),AM,AX,h (K+n) (by omega) (by omega)];show _++[]=_;rw[zZ]
theorem wg {N:Net}(hN:bN N){k:Nat}(hk:k<N.js.length+N.m):(stU N k).length=(usO N.os (thg N k)).length+((ym N.js.length).filter (inJ N (thg N k))).length:=by
 rw[iS hN hk,ms,db];congr 2;obtain⟨n,hn⟩:∃n,N.js.length=min k N.js.length+n:=⟨N.js.length - min k N.js.length,by omega⟩
 have:=oK (f:=inJ N (thg N k)) (K:=min k N.js.length) n λj h1 h2=>by
  have hj:j<N.js.length:=by omega
  obtain⟨q,eq,ep,q1,q2⟩:=sV hN hj;have e:thg N k=N.m+N.js.length - 1 - k:=rfl;unfold inJ;rw[eq,beq_eq_false_iff_ne.mpr (show thg N k≠q.1 by omega),beq_eq_false_iff_ne.mpr (show thg N k≠q.2 by omega)];rfl
 rw[<- hn]at this;exact this.symm
theorem we {N:Net}(hN:bN N):sm (λk=>(stU N k).length) (N.js.length+N.m)=N.os.length+2*N.js.length:=by
 rw[eK (h:=λk=>(λt=>(usO N.os t).length+((ym N.js.length).filter (inJ N t)).length) (N.js.length+N.m - 1 - k)) λk hk=>?_,wm (λt=>(usO N.os t).length+((ym N.js.length).filter (inJ N t)).length),iU,qX hN _ (lw _)]
 ·have:=pV (os:=N.os) (L:=N.js.length+N.m) N.os.length λp hp=>by
   have:=hN.os (N.os.getD p 0) (by rw[bi,bv hp];exact zc hp);omega
  rw[show(λt=>(usO N.os t).length)=λt=>(usP N.os N.os.length t).length from rfl,this]
 ·rw[wg hN hk];have e:thg N k=N.js.length+N.m - 1 - k:=by unfold thg;omega
  rw[e]
abbrev gN (N:Net):List Nat:=N.os.map λo=>(bQ N).getD o 0
theorem uH (N:Net):(bo N).js=stM N (N.js.length+N.m):=by rw[jV];rfl
theorem uG (N:Net):(bo N).os=(ym N.m).map λt=>stG N (N.m+N.js.length - 1 - t):=wa N
theorem jR (N:Net):(bo N).m=N.os.length:=rfl
theorem ou (N:Net):(gN N).length=N.os.length:=db _
theorem vi {N:Net}{p:Nat}(hp:p<N.os.length):(gN N).getD p 0=(bQ N).getD (N.os.getD p 0) 0:=by
 unfold gN;have e:N.os.getD p 0=N.os[p]:=by rw[bi,bv hp];rfl
 rw[e,bi,lm,bv hp];rfl
theorem wJ {N:Net}(hN:bN N){p:Nat}(hp:p<N.os.length):N.os.getD p 0<N.m+N.js.length:=hN.os _ (by rw[bi,bv hp];exact zc hp)
theorem vY {N:Net}(hN:bN N)(hc:Cl N.m N.js){k p:Nat}(hk:k<N.js.length+N.m)(hp:p<N.os.length):wgt N (min k N.js.length) (thg N k) p<=1:=by
 have ht:thg N k<N.m+N.js.length - min k N.js.length:=by unfold thg;omega
 obtain⟨g,hg,h1⟩:=rG (iC hN) (thg N k) (by omega);have h2:=uX (f:=λt=>wgt N (min k N.js.length) t p*cnt N.m N.js t g) ht;rw[kg hN hp g _ (CL _ _)]at h2;have h3:=hc _ (wJ hN hp) g;have h2:wgt N (min k N.js.length) (thg N k) p*cnt N.m N.js (thg N k) g<=_:=h2;have h4:=Nat.mul_le_mul_left (wgt N (min k N.js.length) (thg N k) p) h1;omega
structure TuF (N:Net):Prop where
 net:bN (bo N)
 ol:(bo N).os.length=N.m
 jl:(bo N).js.length+N.m=N.os.length+N.js.length
 made:gN (bo N)=jB N.m (gN N)
 cl:Cl (bo N).m (bo N).js↔Cl N.m N.js
 use:∀i,i<(bo N).js.length+(bo N).m->stU (bo N) i≠[]
theorem uJ {N:Net}(hN:bN N)(ok:∀i,i<N.js.length+N.m->stOk N i)(h12:N.os.length<=12)(hj:N.js.length+N.os.length<=N.m+132):TuF N:=by
 have m1:=hN.m1;have m12:=hN.m12;have o1:=hN.o1;have I:=v_ hN _ (lw _) ok;have ejs:=uH N;have eos:=uG N;have hl:=I.l;rw[we hN]at hl;have jl:(bo N).js.length+N.m=N.os.length+N.js.length:=by rw[ejs];omega
 have ol:(bo N).os.length=N.m:=by rw[eos,db,z6]
 have oat:∀g,g<N.m->(bo N).os.getD g 0=stG N (N.m+N.js.length - 1 - g):=λg hg=>by
  rw[eos,bi,lm,yH hg];rfl
 have ok2:okJs (aO (bo N).m) (bo N).js:=by rw[jR,ejs];exact I.ok
 have ix:okIx (bo N).m (bo N).js:=by have:=cV ok2;rwa [bf]at this
 have cG:∀k,k<N.js.length+N.m->∀p,p<N.os.length->cnt (bo N).m (bo N).js (stG N k) p=wgt N (min k N.js.length) (thg N k) p:=λk hk p hp=>by rw[jR,ejs];exact I.c k hk p hp
 have lG:∀k,k<N.js.length+N.m->stG N k<(bo N).m+(bo N).js.length:=λk hk=>by rw[jR,ejs];exact I.lt k hk
 have cO:∀g,g<N.m->∀p,p<N.os.length->cnt (bo N).m (bo N).js (stG N (N.m+N.js.length - 1 - g)) p=cnt N.m N.js (N.os.getD p 0) g:=λg hg p hp=>by
  rw[cG _ (by omega) p hp,<- ux hN hp hg,zJ (by omega),show thg N (N.m+N.js.length - 1 - g)=g by unfold thg;omega]
 have net:bN (bo N):=by
  refine⟨o1,h12,by omega,ok2,by omega,by omega,λo ho=>?_⟩;rw[eos]at ho;obtain⟨t,ht,rfl⟩:=Am.mp ho;have ht:=za.mp ht;exact lG _ (by omega)
 refine⟨net,ol,jl,?_,⟨λh t ht g=>?_,λh v hv p=>?_⟩,λi hi=>?_⟩
 ·unfold gN jB;rw[eos,zm];refine zj λg hg=>?_;have hg:=za.mp hg;show(bQ (bo N)).getD (stG N (N.m+N.js.length - 1 - g)) 0=colN (gN N) g;apply AV;intro p;rw[show bQ (bo N)=(bo N).js.foldl aD (aO (bo N).m)from rfl,rF ix p _ (lG _ (by omega)),lh];rcases pp p N.os.length with q | q
  ·rw[vi q,show bQ N=N.js.foldl aD (aO N.m)from rfl,rF (iC hN) g _ (wJ hN q),cO g hg p q]
  ·rw[nI ix q _ (lG _ (by omega)),gQ _ (by rw[ou];exact q),Ap];rfl
 ·rcases pp g N.m with hg | hg
  ·have hk:N.m+N.js.length - 1 - t<N.js.length+N.m:=by omega
   have et:thg N (N.m+N.js.length - 1 - t)=t:=by unfold thg;omega
   obtain⟨p,hp,h1⟩:=rG ix _ (lG _ hk);rw[jR]at hp;have hw:=cG _ hk p hp;rw[et]at hw;rw[hw]at h1;have h2:=uX (f:=λt'=>wgt N (min (N.m+N.js.length - 1 - t) N.js.length) t' p*cnt N.m N.js t' g) (L:=N.m+N.js.length - min (N.m+N.js.length - 1 - t) N.js.length) (t:=t) (by omega);rw[kg hN hp g _ (CL _ _),<- cO g hg p hp]at h2;have h2:wgt N (min (N.m+N.js.length - 1 - t) N.js.length) t p*cnt N.m N.js t g<=_:=h2;have h3:=h _ (lG (N.m+N.js.length - 1 - g) (by omega)) p;have h4:=Nat.mul_le_mul_right (cnt N.m N.js t g) h1;omega
  ·rw[nI (iC hN) hg t ht];omega
 ·rcases pp p N.os.length with q | q
  ·rw[jR,ejs]at hv ⊢;rcases I.b v hv p q with z | ⟨k,hk,z⟩
   ·exact z
   ·have:=vY hN h hk q;omega
  ·rw[nI ix q v hv];omega
 ·have hv:thg (bo N) i<N.os.length+(stM N (N.js.length+N.m)).length:=by rw[<- ejs];unfold thg;rw[jR]at *;omega
  rw[iS net hi];intro z;obtain⟨z1,z2⟩:=List.append_eq_nil_iff.mp z;rcases I.u _ hv with⟨q,hq,h⟩ | ⟨k,k1,k2,h⟩ | ⟨k,k1,k2,h⟩
  ·rw[<- ejs]at hq;obtain⟨j,ej⟩:=DF hq;have lt:=(kt.mp ej).1;obtain⟨a,b⟩:=bY ix ej;have et:thg (bo N) i=(bo N).m+(bo N).js.length - 1 - i:=rfl;have:(bo N).js.length - 1 - j∈(ym (min i (bo N).js.length)).filter (inJ (bo N) (thg (bo N) i)):=by
    refine zi.mpr ⟨za.mpr (by omega),?_⟩;unfold inJ;rw[show(bo N).js.length - 1 - ((bo N).js.length - 1 - j)=j by omega,bi,ej];show(thg (bo N) i==q.1||thg (bo N) i==q.2)=true;rcases h with h | h
    ·rw[beq_iff_eq.mpr h];rfl
    ·rw[beq_iff_eq.mpr h,Bd]
   rw[List.map_eq_nil_iff]at z2;rw[z2]at this;cases this
  ·have:N.m+N.js.length - 1 - k∈usO (bo N).os (thg (bo N) i):=by
    refine zi.mpr ⟨za.mpr (by omega),?_⟩;rw[oat _ (by omega),show N.m+N.js.length - 1 - (N.m+N.js.length - 1 - k)=k by omega,h,beq_self_eq_true]
   rw[z1]at this;cases this
  ·omega
def bad (rs:List Nat)(js:List (Nat×Nat))(k:Nat):Bool:=decide ((cA rs js k).getD (js.getD k (0,0)).1 0=(cA rs js k).getD (js.getD k (0,0)).2 0)
def ff (A B:Net):Option Nat:=(ym (adN A B).length).find? (bad (bQ A) (adN A B))
theorem nh {js:List (Nat×Nat)}{k:Nat}{p:Nat×Nat}(h:js[k]? = some p):js.getD k (0,0)=p:=by rw[bi,h];rfl
theorem vA {A B:Net}{k:Nat}(h:ff A B=some k):∃p,(adN A B)[k]? = some p/\unl (bQ A) (adN A B) k/\(cA (bQ A) (adN A B) k).getD p.1 0=(cA (bQ A) (adN A B) k).getD p.2 0:=by
 unfold ff at h;obtain⟨h1,i,hi,rfl,h2⟩:=CA.mp h;rw[z6]at hi;rw[Bj]at h1 ⊢;refine⟨_,bv hi,λj p hj hp z=>?_,?_⟩
 ·have:=h2 j hj;rw[Bj]at this;unfold bad at this;rw[nh hp]at this;rw[decide_eq_true z]at this;cases this
 ·unfold bad at h1;rw[nh (bv hi)]at h1;exact of_decide_eq_true h1
theorem rq {A B:Net}(h:ff A B=none):unl (bQ A) (adN A B) (adN A B).length:=by
 intro i p hi hp z;unfold ff at h;have:=Ce.mp h i (za.mpr hi);unfold bad at this;rw[nh hp]at this;exact this (decide_eq_true z)
def linT (mk:List Nat)(r k:Nat):Nat:=(ym k).foldl (λh i=>if r.testBit i=true then h ^^^ mk.getD i 0 else h) 0
def lin (mk:List Nat)(r:Nat):Nat:=linT mk r mk.length
theorem fy (mk:List Nat)(r k:Nat):linT mk r (k+1)=if r.testBit k=true then linT mk r k ^^^ mk.getD k 0 else linT mk r k:=by
 unfold linT;rw[zF,zn];rfl
theorem oz (mk:List Nat)(a b:Nat):∀k,linT mk (a ^^^ b) k=linT mk a k ^^^ linT mk b k
 | 0=>by simp[linT]
 | k+1=>by
  rw[fy,fy,fy,oz mk a b k,Ab];cases a.testBit k <;> cases b.testBit k
  ·rfl
  ·simp[Bz]
  ·simp only[ER,if_true,zT,if_false];rw[Bz,Dx (linT mk b k),<- Bz]
  ·simp only[Bool.xor_self,zT,if_false,if_true];rw[Bz (linT mk a k) (mk.getD k 0),Dx (linT mk b k) (mk.getD k 0),<- Bz (mk.getD k 0),Nat.xor_self,Fi]
theorem oA (mk:List Nat)(i:Nat):∀k,linT mk (1 <<< i) k=if i<k then mk.getD i 0 else 0
 | 0=>by simp[linT]
 | k+1=>by
  have hb:(1 <<< i:Nat).testBit k=decide (i=k):=by rw[EI,DP,Ca]
  rw[fy,oA mk i k,hb];by_cases e:i=k
  ·subst e;rw[if_pos (by simp),if_neg (zu _),if_pos (AQ _),Fi]
  ·rw[if_neg (by simp[e])];by_cases z:i<k
   ·rw[if_pos z,if_pos (by omega)]
   ·rw[if_neg z,if_neg (by omega)]
theorem iG (X:List Nat)(p:Nat×Nat)(i:Nat):(aD X p).getD i 0=if i<X.length then X.getD i 0 else if i=X.length then X.getD p.1 0 ^^^ X.getD p.2 0 else 0:=by
 unfold aD;simp only[bi];by_cases h:i<X.length
 ·rw[yx h,if_pos h]
 ·rw[if_neg h,yK (by omega)];by_cases e:i=X.length
  ·subst e;simp
  ·rw[if_neg e,yS (by simp;omega)];rfl
theorem k9 {φ f:Nat->Nat}(hf:∀a b,f (a ^^^ b)=f a ^^^ f b):∀(js:List (Nat×Nat)) (X Y:List Nat),okIx Y.length js->(∀i,i<Y.length->φ i<X.length/\X.getD (φ i) 0=f (Y.getD i 0))->(∀k,φ (Y.length+k)=X.length+k) ->
  ∀i,i<Y.length+js.length->((js.map λp=>(φ p.1,φ p.2)).foldl aD X).getD (φ i) 0=f ((js.foldl aD Y).getD i 0)
 | [],X,Y,_,h,_,i,hi=>(h i (by simpa using hi)).2
 | p::js,X,Y,⟨h1,h2,h3⟩,h,hk,i,hi=>by
  rw[yy,y_,y_];refine k9 hf js (aD X (φ p.1,φ p.2)) (aD Y p) (by rw[bW];exact h3) (λj hj=>?_) (λk=>?_) i (by rw[bW];simp only[wS]at hi;omega)
  ·rw[bW]at hj;by_cases e:j=Y.length
   ·subst e;have:=hk 0;rw[Bh,Bh]at this;rw[this,bW,iG,iG,if_neg (zu _),if_pos rfl,if_neg (zu _),if_pos rfl];refine⟨AQ _,?_⟩;show X.getD (φ p.1) 0 ^^^ X.getD (φ p.2) 0=_;rw[(h p.1 (by omega)).2,(h p.2 (by omega)).2,hf]
   ·obtain⟨a,b⟩:=h j (by omega);rw[bW,iG,iG,if_pos a,if_pos (show j<Y.length by omega)];exact⟨by omega,b⟩
  ·rw[bW,bW];have:=hk (k+1);rw[show Y.length+1+k=Y.length+(k+1)by omega,this];omega
theorem vc (m i:Nat):(aO m).getD i 0=if i<m then 1 <<< i else 0:=by
 unfold aO;rw[bi,lm];by_cases h:i<m
 ·rw[yH h,if_pos h];rfl
 ·rw[yS (by simpa using h),if_neg h];rfl
theorem nu (φ:Nat->Nat):∀(js:List (Nat×Nat)) (X:List Nat),(js.map λp=>(min (φ p.1) (φ p.2),max (φ p.1) (φ p.2))).foldl aD X=(js.map λp=>(φ p.1,φ p.2)).foldl aD X
 | [],_=>rfl
 | p::js,X=>by
  rw[yy,yy,y_,y_,mI,nu φ js];rfl
def ph (A:Net)(i:Nat):Nat:=if i<A.os.length then A.os.getD i 0 else A.m+A.js.length+(i - A.os.length)
theorem pg {A B:Net}{i:Nat}(h:i<A.os.length+B.js.length):(thN A B).getD i 0=ph A i:=by
 unfold thN ph;rw[bi];by_cases z:i<A.os.length
 ·rw[yx z,if_pos z,<- bi]
 ·rw[yK (by omega),lm,yH (by omega),if_neg z];rfl
theorem xx {A B:Net}(hA:bN A)(hB:okIx B.m B.js)(hm:B.m=A.os.length){i:Nat}(hi:i<B.m+B.js.length):(bQ (bhN A B)).getD ((thN A B).getD i 0) 0=lin (A.os.map λo=>(bQ A).getD o 0) ((bQ B).getD i 0):=by
 have e:bQ (bhN A B)=(B.js.map λp=>(ph A p.1,ph A p.2)).foldl aD (bQ A):=by
  unfold bQ bhN;dsimp only;rw[zn];have e2:adN A B=B.js.map λp=>(min (ph A p.1) (ph A p.2),max (ph A p.1) (ph A p.2)):=by
   unfold adN;refine zj λp hp=>?_;obtain⟨j,hj,rfl⟩:=A6 hp;have z:=bY hB (bv hj);rw[pg (by omega),pg (by omega)]
  rw[e2,nu]
 rw[e,pg (by omega)];have rl:(bQ A).length=A.m+A.js.length:=by unfold bQ;rw[cb,bf]
 refine k9 (φ:=ph A) (f:=lin (A.os.map λo=>(bQ A).getD o 0)) (λa b=>oz _ a b _) B.js (bQ A) (aO B.m) (by rw[bf];exact hB) (λj hj=>?_) (λk=>?_) i (by rw[bf];exact hi)
 ·rw[bf]at hj;have hj':j<A.os.length:=by omega
  have ej:A.os.getD j 0=A.os[j]:=by rw[bi,bv hj'];rfl
  unfold ph;rw[if_pos hj',vc,if_pos hj,rl];refine⟨by rw[ej];exact hA.os _ (zc hj'),?_⟩;unfold lin;rw[oA,db,if_pos hj',bi (l:=Bi _ _),lm,bv hj',ej];rfl
 ·rw[bf,rl,hm];unfold ph;rw[if_neg (by omega)];omega
theorem xy {A B:Net}(hA:bN A)(hB:bN B)(hm:B.m=A.os.length)(hl:A.js.length+B.js.length<=132)(hu:unl (bQ A) (adN A B) (adN A B).length):bN (bhN A B):=by
 have al:(adN A B).length=B.js.length:=db ..;have rl:(bQ A).length=A.m+A.js.length:=sC A;have WA:=wq hA;have ixa:=vL hA (iC hB) hm;refine⟨hA.m1,hA.m12,?_,?_,?_,?_,λo ho=>?_⟩
 ·show(A.js++adN A B).length<=132;rw[ms,al];exact hl
 ·show okJs (aO A.m) (A.js++adN A B);refine qN λi p hp=>?_;rw[zn,bf];rcases pp i A.js.length with q | q
  ·rw[yx q]at hp;obtain⟨h1,h2⟩:=bY WA.ix hp;refine⟨h1,h2,?_⟩;have f1:=cY (js:=adN A B) (rows:=bQ A) (i:=p.1) (by omega);have f2:=cY (js:=adN A B) (rows:=bQ A) (i:=p.2) (by omega);show((adN A B).foldl aD (bQ A)).getD p.1 0≠((adN A B).foldl aD (bQ A)).getD p.2 0;rw[f1,f2];exact WA.ne i p hp
  ·rw[yK q]at hp;obtain⟨a1,a2⟩:=ixa _ p hp;have lt:=(kt.mp hp).1;have h3:=hu _ p lt hp;have hne:p.1≠p.2:=λz=>h3 (by rw[z]);have hle:p.1<=p.2:=by
    unfold adN at hp;rw[lm]at hp;obtain⟨z,_,rfl⟩:=wp.mp hp;dsimp only;omega
   refine⟨by omega,by omega,?_⟩;have e:∀t,t<A.m+A.js.length+(i - A.js.length)->((adN A B).foldl aD (A.js.foldl aD (aO A.m))).getD t 0=(cA (bQ A) (adN A B) (i - A.js.length)).getD t 0:=λt ht=>by
    unfold cA;conv=>lhs;rw[<- zU (i - A.js.length) (adN A B),zn]
    exact cY (by rw[cb,yZ];show t<(bQ A).length+_;omega)
   rw[e _ a1,e _ a2];exact h3
 ·show 1<=(B.os.map _).length;rw[db];exact hB.o1
 ·show(B.os.map _).length<=24;rw[db];exact hB.o24
 ·obtain⟨i,hi,rfl⟩:=Am.mp (show o∈B.os.map _ from ho);have h1:=hB.os i hi;have:=uO (B:=B) hA (i:=i) (by omega);show _<A.m+(A.js++adN A B).length;rw[ms,al];omega
theorem tI {A B:Net}(hA:bN A)(hB:okIx B.m B.js)(hm:B.m=A.os.length){ws:List Nat}(hw:ws.length=A.m){i:Nat}(hi:i<B.m+B.js.length):((bhN A B).js.foldl aD ws).getD ((thN A B).getD i 0) 0=(B.js.foldl aD (A.os.map λo=>(A.js.foldl aD ws).getD o 0)).getD i 0:=by
 have e:(bhN A B).js.foldl aD ws=(B.js.map λp=>(ph A p.1,ph A p.2)).foldl aD (A.js.foldl aD ws):=by
  unfold bhN;dsimp only;rw[zn];have e2:adN A B=B.js.map λp=>(min (ph A p.1) (ph A p.2),max (ph A p.1) (ph A p.2)):=by
   unfold adN;refine zj λp hp=>?_;obtain⟨j,hj,rfl⟩:=A6 hp;have z:=bY hB (bv hj);rw[pg (by omega),pg (by omega)]
  rw[e2,nu]
 rw[e,pg (by omega)];have rl:(A.js.foldl aD ws).length=A.m+A.js.length:=by rw[cb,hw]
 have yl:(A.os.map λo=>(A.js.foldl aD ws).getD o 0).length=B.m:=by rw[db,hm]
 refine k9 (φ:=ph A) (f:=id) (λa b=>rfl) B.js _ _ (by rw[yl];exact hB) (λj hj=>?_) (λk=>?_) i (by rw[yl];exact hi)
 ·rw[yl]at hj;have hj':j<A.os.length:=by omega
  have ej:A.os.getD j 0=A.os[j]:=by rw[bi,bv hj'];rfl
  unfold ph;rw[if_pos hj',rl];refine⟨by rw[ej];exact hA.os _ (zc hj'),?_⟩;rw[bi (l:=Bi _ _),lm,bv hj',ej];rfl
 ·rw[yl,rl,hm];unfold ph;rw[if_neg (by omega)];omega
theorem rM {A B:Net}(hA:bN A)(hB:bN B)(hm:B.m=A.os.length){ws:List Nat}(hw:ws.length=A.m):(bhN A B).os.map (λo=>((bhN A B).js.foldl aD ws).getD o 0)=B.os.map λo=>(B.js.foldl aD (A.os.map λo=>(A.js.foldl aD ws).getD o 0)).getD o 0:=by
 show(B.os.map _).map _=_;rw[zm];exact zj λo ho=>tI hA (iC hB) hm hw (hB.os o ho)
theorem rN {A B:Net}(hA:bN A)(hB:bN B)(hm:B.m=A.os.length):gN (bhN A B)=(gN B).map (lin (gN A)):=by
 show(B.os.map _).map _=_;unfold gN;rw[zm,zm];exact zj λo ho=>xx hA (iC hB) hm (hB.os o ho)
def bx (f:Nat->Bool):Nat->Bool
 | 0=>false
 | k+1=>bx f k ^^ f k
theorem iM {f g:Nat->Bool}:∀ {k:Nat},(∀i,i<k->f i=g i)->bx f k=bx g k
 | 0,_=>rfl
 | k+1,h=>by
  show(bx f k ^^ f k)=(bx g k ^^ g k)
  rw[iM λi hi=>h i (by omega),h k (by omega)]
theorem xw:∀k,bx (λ_=>false) k=false
 | 0=>rfl
 | k+1=>by show(bx _ k ^^ false)=false;rw[xw k];rfl
theorem kY (mk:List Nat)(r g:Nat):∀k,(linT mk r k).testBit g=bx (λi=>r.testBit i&&(mk.getD i 0).testBit g) k
 | 0=>by show(0:Nat).testBit g=false;exact Ap g
 | k+1=>by
  show _=(bx _ k ^^ _)
  rw[<- kY mk r g k,fy];show _=(_ ^^ (r.testBit k&&_))
  cases r.testBit k with
  | false=>rw[if_neg (by decide),ES,ER]
  | true=>rw[if_pos rfl,Ab,Bool.true_and]
theorem si {n m:Nat}{WA WB:List Nat}(hn:WA.length=n):(jB m WA).map (lin (jB n WB))=jB m (WB.map (lin WA)):=by
 unfold jB;rw[zm];refine zj λg hg=>?_;show lin (jB n WB) (colN WA g)=colN (WB.map (lin WA)) g;apply AV;intro p;unfold lin;rw[kY,tE,lh];rw[iM (g:=λi=>(WA.getD i 0).testBit g&&(WB.getD p 0).testBit i) λi hi=>by rw[lh,tF _ hi,lh]];rcases pp p WB.length with q | q
 ·have e:(WB.map λr=>linT WA r WA.length).getD p 0=linT WA (WB.getD p 0) WA.length:=by
   rw[bi,lm,bv q,bi,bv q];rfl
  show _=((WB.map λr=>linT WA r WA.length).getD p 0).testBit g;rw[e,kY,hn];exact iM λi _=>Bool.and_comm _ _
 ·rw[gQ (WB.map λr=>linT WA r WA.length) (p:=p) (by rw[db];exact q),Ap,gQ WB q];rw[iM (g:=λ_=>false) λi _=>by rw[Ap,BU],xw]
noncomputable def behD (A B:Net):D :=
 if B.m≠A.os.length then .non
 else if 132<A.js.length+B.js.length then .non
 else match ff A B with
  | some _=>.non
  | none=>netD (bhN A B)
noncomputable def tdD (N:Net):D :=
 if ¬(N.os.length<=12/\N.js.length+N.os.length<=N.m+132)then .non
 else match fstT N with
  | some _=>.non
  | none=>netD (bo N)
theorem mD {A B:Net}(hA:bN A)(hB:bN B):behD A B = .non∨(behD A B=netD (bhN A B)/\bN (bhN A B)/\B.m=A.os.length):=by
 unfold behD;by_cases hm:B.m≠A.os.length
 ·rw[if_pos hm];exact .inl rfl
 ·rw[if_neg hm];by_cases hl:132<A.js.length+B.js.length
  ·rw[if_pos hl];exact .inl rfl
  ·rw[if_neg hl];cases hf:ff A B with
   | some k=>exact .inl rfl
   | none=>exact .inr ⟨rfl,xy hA hB (B2.mp hm) (by omega) (rq hf),B2.mp hm⟩
theorem kD {N:Net}(hN:bN N):tdD N = .non∨(tdD N=netD (bo N)/\TuF N):=by
 unfold tdD;by_cases hs:N.os.length<=12/\N.js.length+N.os.length<=N.m+132
 ·rw[if_neg (not_not_intro hs)];cases hf:fstT N with
  | some i=>exact .inl rfl
  | none=>exact .inr ⟨rfl,uJ hN (oH hf) hs.1 hs.2⟩
 ·rw[if_pos hs];exact .inl rfl
theorem sT {A B:Net}(hA:bN A)(hB:bN B)(hm:B.m=A.os.length)(FA:TuF A)(FB:TuF B)(FW:TuF (bhN A B)):gN (bhN (bo B) (bo A))=gN (bo (bhN A B))/\(bhN (bo B) (bo A)).js.length=(bo (bhN A B)).js.length:=by
 have e1:(bo A).m=(bo B).os.length:=by rw[FB.ol,hm];rfl
 constructor
 ·rw[rN FB.net FA.net e1,FA.made,FB.made,FW.made,rN hA hB hm,show(bhN A B).m=A.m from rfl];exact si (by rw[ou,hm])
 ·have h1:=FA.jl;have h2:=FB.jl;have h3:=FW.jl;have e2:(bhN (bo B) (bo A)).js.length=(bo B).js.length+(bo A).js.length:=by
   show((bo B).js++adN (bo B) (bo A)).length=_;rw[ms];congr 1;exact db _
  have e3:(bhN A B).js.length=A.js.length+B.js.length:=by
   show(A.js++adN A B).length=_;rw[ms];congr 1;exact db _
  have e4:(bhN A B).os.length=B.os.length:=db _;have e5:(bhN A B).m=A.m:=rfl;omega
theorem nR {κ:Type} [DecidableEq κ](k k':κ)(d:D):∀(kvs:List (κ×D)),valD (putD kvs k d) k'=if k'=k then some d else valD kvs k':=by
 have rep:∀kvs:List (κ×D),(kvs.any λkv=>decide (kv.1=k))=true->valD (kvs.map λkv=>if kv.1=k then(kv.1,d)else kv) k'=if k'=k then some d else valD kvs k':=by
  intro kvs;induction kvs with
  | nil=>intro h;cases h
  | cons p r ih =>
   intro h;rw[yy];by_cases e:p.1=k
   ·rw[if_pos e];by_cases e':k'=k
    ·rw[if_pos e'];simp[valD,zp,e,e']
    ·rw[if_neg e'];have ne:¬p.1=k':=λz=>e' (z.symm.trans e);have tail:∀r:List (κ×D),valD (r.map λkv=>if kv.1=k then(kv.1,d)else kv) k'=valD r k':=by
      intro r;induction r with
      | nil=>rfl
      | cons q r ih =>
       rw[yy];by_cases eq:q.1=k
       ·have nq:¬q.1=k':=λz=>e' (z.symm.trans eq);rw[if_pos eq];unfold valD at ih ⊢;rw[ze (by simpa using nq),ze (by simpa using nq)];exact ih
       ·rw[if_neg eq];by_cases nq:q.1=k'
        ·unfold valD;rw[AC (by simpa using nq),AC (by simpa using nq)]
        ·unfold valD at ih ⊢;rw[ze (by simpa using nq),ze (by simpa using nq)];exact ih
     have t:=tail r;unfold valD at t ⊢;rw[ze (by simpa using ne),ze (by simpa using ne)];exact t
   ·rw[if_neg e];have h':(r.any λkv=>decide (kv.1=k))=true:=by simpa [e] using h
    have ih':=ih h';by_cases ek:p.1=k'
    ·have nk:¬k'=k:=λz=>e (ek.trans z);rw[if_neg nk];unfold valD;rw[AC (by simpa using ek),AC (by simpa using ek)]
    ·unfold valD at ih' ⊢;rw[ze (by simpa using ek),ze (by simpa using ek)];exact ih'
 intro kvs;unfold putD;split
 ·rename_i h;exact rep kvs h
 ·rename_i h;have hn:∀kv∈kvs,¬kv.1=k:=λkv hkv e=>h (Ex.mpr ⟨kv,hkv,decide_eq_true e⟩);unfold valD;rw[List.find?_append];by_cases e':k'=k
  ·rw[if_pos e'];have:(kvs.find? λkv=>decide (kv.1=k'))=none:=Ce.mpr λkv hkv=>by rw[e'];simpa using hn kv hkv
   rw[this];simp[zp,e']
  ·rw[if_neg e'];have:([(k,d)].find? λkv=>decide (kv.1=k'))=none:=by rw[ze (by simpa using λz:k=k'=>e' z.symm)];rfl
   rw[this];cases (kvs.find? λkv=>decide (kv.1=k')) <;> rfl
def vO:ASp:=λss q=>∃A B:Net,ss=[.vl (netD A),.vl (netD B)]/\bN A/\bN B/\q (.d (behD A B)) [.vl (netD A),.vl (netD B)]
def SLTd:ASp:=λss q=>∃N:Net,ss=[.vl (netD N)]/\bN N/\q (.d (tdD N)) [.vl (netD N)]
def rX:ASp:=λss q=>∃n m cl:Nat,ss=[.tp n,nv m,nv cl]/\n<=100000000000/\1<=m/\m<=12/\∀(N:Net) (n':Nat),bN N->N.m=m->N.os.length<=12->N.js.length<=12->n'<=n+1000->q (.d (netD N)) [.tp n',nv m,nv cl]
section
variable {P:wl}{w:yF}{K:ac}{mg:Str->Option bd}{base:Heap}
def XF (K:ac)(mg:Str->Option bd):Prop:=∃gA0 v6 v4 gA4 gA1 f_Nought f_Loose:Addr,mg "TooMany" = some (.ref gA0)/\mg "Nought" = some (.ref v6)/\mg "JoinError" = some (.ref v4)/\mg "NoFit" = some (.ref gA4)/\mg "Loose" = some (.ref gA1)/\zB K gA0 bmV "ValueError.__new__" = true/\jH K v6 f_Nought "at" "Nought.__init__" cF ["self", "at"]/\jP K v4/\zB K gA4 bmV "ValueError.__new__" = true/\jH K gA1 f_Loose "thing" "Loose.__init__" dP ["self", "thing"]/\fA K v4=true/\zg K (.ref gA0) (.ref v4)=some true/\zg K (.ref gA1) (.ref v4)=some true/\zg K (.ref v6) (.ref v4)=some true/\zg K (.ref gA4) (.ref v4)=some true
theorem XF.mk {K:ac}{mg:Str->Option bd}{h:Heap}{gA0 v6 v4 gA4 gA1 f_Nought f_Loose:Addr}{gD6 kV_Nought doc_Nought pm_Nought cdv_Nought ct_Nought:bd}{od_Nought an_Nought:Option Addr}{osl_Nought:Array (Option bd)}{gD7 kV_Loose doc_Loose pm_Loose cdv_Loose ct_Loose:bd}{od_Loose an_Loose:Option Addr}{osl_Loose:Array (Option bd)}(KX:K.In h)(G:h.Ns yk mg)(f0:yB K yk "TooMany" = some (some (.ref gA0)))(f1:yB K yk "Nought" = some (some (.ref v6)))(f2:yB K yk "JoinError" = some (some (.ref v4)))(f3:yB K yk "NoFit" = some (some (.ref gA4)))(f4:yB K yk "Loose" = some (some (.ref gA1)))(f5:zB K gA0 bmV "ValueError.__new__" = true)(f6_0:Av K (.ref v6) "__init__" = some (some (.ref f_Nought)))(f6_1:K.lookup f_Nought=some ⟨gD6,od_Nought,.func (zN "__init__" "Nought.__init__" (eU cF) (cD cF) (aM cF) .none kV_Nought doc_Nought pm_Nought an_Nought cdv_Nought ct_Nought),osl_Nought⟩)(f6_2:Ag K cdv_Nought "Nought.__init__" = true)(f6_3:zQ K (.ref f_Nought)=true)(f6_4:il K v6 f_Nought=true)(f6_5:Ed K (.ref f_Nought)=some (.type "function"))(f6_6:Av K (.ref v6) "__setattr__" = some (some (.builtin "object.__setattr__")))(f6_7:Av K (.ref v6) "at" = some none)(f7_0:PySem.W.specialIn K (.ref v4) "__getattribute__" = some (some (.builtin "type.__getattribute__")))(f7_1:PySem.W.readsIn K v4 (.type "type")=true)(f7_2:PySem.W.findCls K (.ref v4) (.type "type") "__init__" = some (.val (.builtin "ValueError.__init__")))(f8:zB K gA4 bmV "ValueError.__new__" = true)(f9_0:Av K (.ref gA1) "__init__" = some (some (.ref f_Loose)))(f9_1:K.lookup f_Loose=some ⟨gD7,od_Loose,.func (zN "__init__" "Loose.__init__" (eU dP) (cD dP) (aM dP) .none kV_Loose doc_Loose pm_Loose an_Loose cdv_Loose ct_Loose),osl_Loose⟩)(f9_2:Ag K cdv_Loose "Loose.__init__" = true)(f9_3:zQ K (.ref f_Loose)=true)(f9_4:il K gA1 f_Loose=true)(f9_5:Ed K (.ref f_Loose)=some (.type "function"))(f9_6:Av K (.ref gA1) "__setattr__" = some (some (.builtin "object.__setattr__")))(f9_7:Av K (.ref gA1) "thing" = some none)(f10:zB K v4 bmV "ValueError.__new__" = true)(f11:zg K (.ref gA0) (.ref v4)=some true)(f12:zg K (.ref gA1) (.ref v4)=some true)(f13:zg K (.ref v6) (.ref v4)=some true)(f14:zg K (.ref gA4) (.ref v4)=some true):XF K mg:=⟨gA0,v6,v4,gA4,gA1,f_Nought,f_Loose,Ao KX G f0,Ao KX G f1,Ao KX G f2,Ao KX G f3,Ao KX G f4,f5,oE f6_0 f6_1 f6_2 f6_3 f6_4 f6_5 f6_6 f6_7 (λ_ _ _ _ _ _ us hl=>match us,hl with | [_,_],_=>rfl),⟨f7_0,f7_1,f7_2⟩,f8,oE f9_0 f9_1 f9_2 f9_3 f9_4 f9_5 f9_6 f9_7 (λ_ _ _ _ _ _ us hl=>match us,hl with | [_,_],_=>rfl),rz f10,f11,f12,f13,f14⟩
theorem kT {gA0 v6 v4 gA1:Addr}(m_TooMany:mg "TooMany" = some (.ref gA0))(m_Loose:mg "Loose" = some (.ref gA1))(m_Nought:mg "Nought" = some (.ref v6))(m_JoinError:mg "JoinError" = some (.ref v4))(ea_JoinError:fA K v4=true)(s_TooMany_JoinError:zg K (.ref gA0) (.ref v4)=some true)(s_Loose_JoinError:zg K (.ref gA1) (.ref v4)=some true)(s_Nought_JoinError:zg K (.ref v6) (.ref v4)=some true)(dn:DefN K mg "_law_turned" fo ["_law_net"])(B:BI mg)(gD4:OkN P w K mg base 3 "turned_net" ["net"] (spA K nN))(gC3:OkX P w K mg base 1 "turned_net" ["net"] gA0 none (spA K rV))(gC6:OkX P w K mg base 4 "turned_net" ["net"] gA1 (some "thing") (spA K rW))(gC4:OkX P w K mg base 4 "turned_net" ["net"] v6 (some "at") (spA K rS)):OkN P w K mg base 5 "_law_turned" ["_law_net"] (spA K SLTd):=by
 refine dn.aok2 (k:=4) cw (λj=>j==0) [.un] SLTd rfl (λf cdv A outer s H E hr=>have hu:=cR hr;⟨_,(aJ (bg (i:=1) cw.nd rfl (by first | exact Or.inl rfl | exact Or.inr rfl) d_)
  (aJ (pf (pf (pf (qC (aW (bg (i:=1) cw.nd rfl (by first | exact Or.inl rfl | exact Or.inr rfl) (bL gD4 (hr.mono (by decide)) (aj (pv 0) ar)))))
  (g5 gC3 (hr.mono (by decide)) rfl rfl rfl rfl (aj (pv 0) ar) g8 (λod=>(hI rfl m_JoinError ea_JoinError s_TooMany_JoinError (λa =>
  (aW (bg (i:=1) cw.nd rfl (by first | exact Or.inl rfl | exact Or.inr rfl) d_)))))))
  (g5 gC6 (hr.mono (by decide)) rfl rfl rfl rfl (aj (pv 0) ar) g8 (λod=>(hI rfl m_JoinError ea_JoinError s_Loose_JoinError (λa =>
  (aW (bg (i:=1) cw.nd rfl (by first | exact Or.inl rfl | exact Or.inr rfl) d_)))))))
  (g5 gC4 (hr.mono (by decide)) rfl rfl rfl rfl (aj (pv 0) ar) g8 (λod=>(hI rfl m_JoinError ea_JoinError s_Nought_JoinError (λa =>
  (aW (bg (i:=1) cw.nd rfl (by first | exact Or.inl rfl | exact Or.inr rfl) d_)))))))
  (aW (cv (pv 1))))),(az (aZ cB rfl)
  (az (h8 (h8 (h8 (aZ (aL (aa af aq)) rfl)
  (fJ (aa af aq)
  (eE (aZ cB rfl))))
  (fJ (aa af aq)
  (eE (aZ cB rfl))))
  (fJ (aa af aq)
  (eE (aZ cB rfl))))
  (bV af)))⟩) ?_
 rintro ss q ⟨N,rfl,hN,hq⟩;refine⟨rfl,rfl,?_⟩;refine cutS (λρ=>ρ=[.vl (netD N),.vl .non]) (λM hM=>hM _ rfl) ?_;rintro _ rfl;unfold tdD at hq;by_cases hs:N.os.length<=12/\N.js.length+N.os.length<=N.m+132
 ·rw[if_neg (not_not_intro hs)]at hq;split at hq
  ·rename_i i hf;obtain⟨hi,pre,hno⟩:=s_ hf;by_cases hE:stU N i=[]
   ·exact .inl (.inr ⟨rfl,N,i,rfl,hN,hs.1,hs.2,hi,pre,hE,hq⟩)
   ·exact .inr ⟨rfl,N,i,rfl,hN,hs.1,hs.2,hi,pre,hE,hno,hq⟩
  ·rename_i hf;exact .inl (.inl (.inl ⟨rfl,N,rfl,hN,hs.1,hs.2,uL (oH hf),hq⟩))
 ·rw[if_pos hs]at hq;exact .inl (.inl (.inr ⟨rfl,N,rfl,hN,hs,hq⟩))
theorem kU {gA0 v6 v4 gA4:Addr}(m_NoFit:mg "NoFit" = some (.ref gA4))(m_TooMany:mg "TooMany" = some (.ref gA0))(m_Nought:mg "Nought" = some (.ref v6))(m_JoinError:mg "JoinError" = some (.ref v4))(ea_JoinError:fA K v4=true)(s_NoFit_JoinError:zg K (.ref gA4) (.ref v4)=some true)(s_TooMany_JoinError:zg K (.ref gA0) (.ref v4)=some true)(s_Nought_JoinError:zg K (.ref v6) (.ref v4)=some true)(dn:DefN K mg "_law_behind" fq ["_law_net", "_law_other"])(B:BI mg)(gD8:OkN P w K mg base 4 "behind" ["net", "other"] (spA K vQ))(gD2:OkX P w K mg base 1 "behind" ["net", "other"] gA4 none (spA K vS))(gC8:OkX P w K mg base 2 "behind" ["net", "other"] gA0 none (spA K vR))(gD0:OkX P w K mg base 4 "behind" ["net", "other"] v6 (some "at") (spA K vP)):OkN P w K mg base 5 "_law_behind" ["_law_net", "_law_other"] (spA K vO):=by
 refine dn.aok2 (k:=4) cx (λj=>j==0||j==1) [.un] vO rfl (λf cdv A outer s H E hr=>have hu:=cR hr;⟨_,(aJ (bg (i:=2) cx.nd rfl (by first | exact Or.inl rfl | exact Or.inr rfl) d_)
  (aJ (pf (pf (pf (qC (aW (bg (i:=2) cx.nd rfl (by first | exact Or.inl rfl | exact Or.inr rfl) (bL gD8 (hr.mono (by decide)) (aj (pv 0) (aj (pv 1) ar))))))
  (g5 gD2 (hr.mono (by decide)) rfl rfl rfl rfl (aj (pv 0) (aj (pv 1) ar)) g8 (λod=>(hI rfl m_JoinError ea_JoinError s_NoFit_JoinError (λa =>
  (aW (bg (i:=2) cx.nd rfl (by first | exact Or.inl rfl | exact Or.inr rfl) d_)))))))
  (g5 gC8 (hr.mono (by decide)) rfl rfl rfl rfl (aj (pv 0) (aj (pv 1) ar)) g8 (λod=>(hI rfl m_JoinError ea_JoinError s_TooMany_JoinError (λa =>
  (aW (bg (i:=2) cx.nd rfl (by first | exact Or.inl rfl | exact Or.inr rfl) d_)))))))
  (g5 gD0 (hr.mono (by decide)) rfl rfl rfl rfl (aj (pv 0) (aj (pv 1) ar)) g8 (λod=>(hI rfl m_JoinError ea_JoinError s_Nought_JoinError (λa =>
  (aW (bg (i:=2) cx.nd rfl (by first | exact Or.inl rfl | exact Or.inr rfl) d_)))))))
  (aW (cv (pv 2))))),(az (aZ cB rfl)
  (az (h8 (h8 (h8 (aZ (aL (aa af (aa af aq))) rfl)
  (fJ (aa af (aa af aq))
  (eE (aZ cB rfl))))
  (fJ (aa af (aa af aq))
  (eE (aZ cB rfl))))
  (fJ (aa af (aa af aq))
  (eE (aZ cB rfl))))
  (bV af)))⟩) ?_
 rintro ss q ⟨A,B,rfl,hA,hB,hq⟩;refine⟨rfl,rfl,?_⟩;refine cutS (λρ=>ρ=[.vl (netD A),.vl (netD B),.vl .non]) (λM hM=>hM _ rfl) ?_;rintro _ rfl;unfold behD at hq;by_cases hm:B.m≠A.os.length
 ·rw[if_pos hm]at hq;exact .inl (.inl (.inr ⟨rfl,A,B,rfl,hm,hq⟩))
 ·rw[if_neg hm]at hq;have hm:=B2.mp hm;by_cases hl:132<A.js.length+B.js.length
  ·rw[if_pos hl]at hq;exact .inl (.inr ⟨rfl,A,B,rfl,hA,hB,hm,hl,hq⟩)
  ·rw[if_neg hl]at hq;split at hq
   ·rename_i k hf;obtain⟨p,h1,h2,h3⟩:=vA hf;exact .inr ⟨rfl,A,B,k,p,rfl,hA,hB,hm,by omega,h1,h2,h3,hq⟩
   ·rename_i hf;exact .inl (.inl (.inl ⟨rfl,A,B,rfl,hA,hB,hm,by omega,rq hf,hq⟩))
theorem jj (dn:DefN K mg "_law_net_used" cm ["_law_tape_here", "_law_many", "_law_clean"])(B:BI mg)(gA7:OkN P w K mg base 1 "_law_draw" ["_law_tape_here", "_law_many"] (spA K tO)):OkN P w K mg base 2 "_law_net_used" ["_law_tape_here", "_law_many", "_law_clean"] (spA K rX):=by
 refine dn.aok2 (k:=1) bz (λj=>j==0||j==1||j==2) [.un,.un,.un,.un,.un,.un,.un] rX rfl (λf cdv A outer s H E hr=>have hu:=cR hr;⟨_,(aJ (bg (i:=3) bz.nd rfl (by first | exact Or.inl rfl | exact Or.inr rfl) (g7 ["_law_k"] [] rfl (Blk.of (aM cm) cW) (di rfl B.range_ (aj (pv 1) ar)) (λ_ _ _ _ nd=>(aK (i:=0) nd rfl (by first | exact Or.inl rfl | exact Or.inr rfl))) (λ_ _ _ _=>eO) (λ_ _ _ _=>(bE ub bt (pv 0)))))
  (aJ (bg (i:=4) bz.nd rfl (by first | exact Or.inl rfl | exact Or.inr rfl) (lM ar))
  (aJ (ia zR rfl (di rfl B.range_ (aj (bL gA7 (hr.mono (by decide)) (aj (pv 0) (aj bt ar))) ar)) (aK (i:=5) bz.nd rfl (by first | exact Or.inl rfl | exact Or.inr rfl))
  (aJ (bg (i:=6) bz.nd rfl (by first | exact Or.inl rfl | exact Or.inr rfl) (bL gA7 (hr.mono (by decide)) (aj (pv 0) (aj (aS (aP K) rfl B.len_ bC (aj (pv 3) ar)) ar))))
  (aJ (bg (i:=7) bz.nd rfl (by first | exact Or.inl rfl | exact Or.inr rfl) (bL gA7 (hr.mono (by decide)) (aj (pv 0) (aj (aS (aP K) rfl B.len_ bC (aj (pv 3) ar)) ar))))
  (aW (gi (PW.pt (n5 (br (ib K hr.units) (bK (aT K) (pv 3) (pv 6) (λ_ _=>rfl)) (bK (aT K) (pv 3) (pv 7) (λ_ _=>rfl)) (bM _)) (mO (PW.pt (jK (br (jf K hr.units) (pv 2) bt (bM _)) (h_ (br (jf K hr.units) (bE wL (bK (aT K) (pv 3) (pv 6) (λ_ _=>rfl)) (bK (aT K) (pv 3) (pv 7) (λ_ _=>rfl))) bt (bM _))))))))
  (aJ (bX (da K wT wP wE bO (pv 4) (aj (lL (aj (aS (mq rfl) rfl B.min_ uq (aj (pv 6) (aj (pv 7) ar))) (aj (aS (mr rfl) rfl B.max_ ur (aj (pv 6) (aj (pv 7) ar))) ar))) ar)))
  (aW (bX (da K wT wP wE bO (pv 3) (aj (bE t_ (bK (aT K) (pv 3) (pv 6) (λ_ _=>rfl)) (bK (aT K) (pv 3) (pv 7) (λ_ _=>rfl))) ar)))))
  cM)))))
  (aJ (bg (i:=8) bz.nd rfl (by first | exact Or.inl rfl | exact Or.inr rfl) sN)
  (aJ (ia zR rfl (fu K (pv 4)) (bJ K (n:=2) rfl (aI (aK (i:=6) bz.nd rfl (by first | exact Or.inl rfl | exact Or.inr rfl)) (aI (aK (i:=7) bz.nd rfl (by first | exact Or.inl rfl | exact Or.inr rfl)) bI)))
  (aJ (i8 hu (pv 8) (pv 6) qI rfl)
  (aW (i8 hu (pv 8) (pv 7) qI rfl))))
  (aJ (kL (i:=9) ["_law_thing"] [8] bz.nd rfl (by first | exact Or.inl rfl | exact Or.inr rfl) rfl (Blk.of (aM cm) cW) (di rfl B.range_ (aj (aS (aP K) rfl B.len_ bC (aj (pv 3) ar)) ar)) (λ_ _ _ _ nd=>(aK (i:=0) nd rfl (by first | exact Or.inl rfl | exact Or.inr rfl))) (λ_ _ _ _=>(u5 (wA (qJ hu (pv 0) (pv 1))))) (λ_ _ _ _=>(pv 0)))
  (aJ (bg (i:=9) bz.nd rfl (by first | exact Or.inl rfl | exact Or.inr rfl) (bE (mR K) (pv 9) (g7 ["_law_turn"] [0,3] rfl (Blk.of (aM cm) cW) (di rfl B.range_ (aj (bL gA7 (hr.mono (by decide)) (aj (pv 0) (aj bt ar))) ar)) (λ_ _ _ _ nd=>(aK (i:=0) nd rfl (by first | exact Or.inl rfl | exact Or.inr rfl))) (λ_ _ _ _=>eO) (λ_ _ _ _=>(bL gA7 (hr.mono (by decide)) (aj (pv 1) (aj (aS (aP K) rfl B.len_ bC (aj (pv 2) ar)) ar)))))))
  (aW (cv (lL (aj (pv 1) (aj (cc (de K) rfl B.tuple_ fP (aj (pv 4) ar)) (aj (cc (de K) rfl B.tuple_ fP (aj (gB (gA K) (pv 9) i9 (g6 bt)) ar)) ar))))))))))))),(az (aZ (dw (dg (aa af aq)) (aA rfl) dN (aG mS be af)) rfl)
  (az (aZ (kA aq) rfl)
  (az (dc (pin:=(λ_=>false)) (dg (aa (aL (aa af (aa be aq))) aq)) (aA rfl)
  (az (aZ (aL (aa af (aa (bc aX (aa af aq)) aq))) rfl)
  (az (aZ (aL (aa af (aa (bc aX (aa af aq)) aq))) rfl)
  (cp (kx (aY (aG ie (aG bu af af) (aG bu af af))) (dX (aY (aG jg af be)) (aY (aG jg (aG bj (aG bu af af) (aG bu af af)) be))))
  (az (cq (dC af (aa (iN (aa (bc oQ (aa af (aa af aq))) (aa (bc oR (aa af (aa af aq))) aq))) aq)))
  (cq (dC af (aa (aG bj (aG bu af af) (aG bu af af)) aq))))
  aV))))
  (az (aZ su rfl)
  (az (dc (pin:=(λj=>j==4)) (dO af) (bw (aw (aA rfl) (aw (aA rfl) ba (λ_ _ _=>aQ)) (λ_ _ _=>aQ)))
  (az (nX lC af af)
  (nX lC af af)))
  (az (kF (dw (dg (aa (bc aX (aa af aq)) aq)) (aA rfl) (aY (o5 af af)) af) rfl)
  (az (aZ (aG mT af (dw (dg (aa (aL (aa af (aa be aq))) aq)) (aA rfl) dN (aL (aa af (aa (bc aX (aa af aq)) aq))))) rfl)
  (bV (iN (aa af (aa (bc dA (aa af aq)) (aa (bc dA (aa (kz af ky (fm be)) aq)) aq))))))))))))⟩) ?_
 rintro ss q ⟨n,m,cl,rfl,hn,m1,m12,hq⟩;refine⟨rfl,rfl,?_⟩;have dI:∀ {i:Int},D.depth (.int i)<=60:=λ{i}=>by simp[D.depth]
 refine cutS (λρ=>ρ=[.tp n,nv m,nv cl,.ow (natsD (aO m)),.un,.un,.un,.un,.un,.un]) (λM hM=>?_) ?_
 ·refine⟨⟨by omega,by omega⟩,by rw[cz];omega,mf (λk=>.int (1 <<< k:Nat)) trivial (λk acc N hk hN=>?_) ?_⟩
  ·rw[Ct];refine⟨⟨by omega,by omega,by decide⟩,?_⟩;show N (acc++[.int ((1:Int)*2^((k:Int).toNat))]) _;rw[qk];exact hN
  ·have e:((ym ((m:Nat):Int).toNat).map λk=>D.int (1 <<< k:Nat))=natsD (aO m):=by
    rw[show((m:Nat):Int).toNat=m by omega];unfold aO natsD;rw[zm];rfl
   rw[e];exact hM _ rfl
 rintro _ rfl;refine cutS (λρ=>ρ=[.tp n,nv m,nv cl,.ow (natsD (aO m)),.ow (([]:List (Nat×Nat)).map L2.pairD),.un,.un,.un,.un,.un]) (λM hM=>⟨yz _,hM _ rfl⟩) ?_;rintro _ rfl;refine cutS (λρ=>∃js n' s5 s6 s7,okJs (aO m) js/\js.length<=12/\n'<=n+100/\ρ=[.tp n',nv m,nv cl,.ow (natsD (js.foldl aD (aO m))),.ow (js.map L2.pairD),s5,s6,s7,.un,.un]) (λM hM=>⟨rfl,n,13,rfl,by omega,Dv.small (by decide) (by decide),λcnt hcnt=>⟨⟨by omega,by omega⟩,?_⟩⟩) ?_
 ·refine oJ (λk ρ=>∃js n' s5 s6 s7,ρ=[.tp n',nv m,nv cl,.ow (natsD (js.foldl aD (aO m))),.ow (js.map L2.pairD),s5,s6,s7,.un,.un]/\okJs (aO m) js/\js.length<=k/\n'<=n+1+2*k) (λ_ _ _=>trivial) ?_ (λρ ⟨js,n',s5,s6,s7,e,hok,hl,hn'⟩=>hM ρ ⟨js,n',s5,s6,s7,hok,by omega,by omega,e⟩) ⟨[],n+1,.un,.un,.un,rfl,trivial,yz _,by omega⟩;rintro k _ M2 hk ⟨js,n',s5,s6,s7,rfl,hok,hl,hn'⟩ hM2;have hk':k<13:=by omega
  have hL:(js.foldl aD (aO m)).length=m+js.length:=by rw[cb,bf]
  rw[Ct];refine cutS (λρ=>∃a,a<m+js.length/\ρ=[.tp (n'+1),nv m,nv cl,.ow (natsD (js.foldl aD (aO m))),.ow (js.map L2.pairD),nv k,nv a,s7,.un,.un]) (λM3 hM3=>⟨rfl,n',_,rfl,by omega,Dv.small ?_ ?_,λa ha=>?_⟩) ?_
  ·rw[aN,hL];omega
  ·rw[aN,hL];omega
  ·rw[aN,hL]at ha;exact hM3 _ ⟨a,by omega,rfl⟩
  rintro _ ⟨a,ha,rfl⟩;refine cutS (λρ=>∃b,b<m+js.length/\ρ=[.tp (n'+2),nv m,nv cl,.ow (natsD (js.foldl aD (aO m))),.ow (js.map L2.pairD),nv k,nv a,nv b,.un,.un]) (λM3 hM3=>⟨rfl,n'+1,_,rfl,by omega,Dv.small ?_ ?_,λb hb=>?_⟩) ?_
  ·rw[aN,hL];omega
  ·rw[aN,hL];omega
  ·rw[aN,hL]at hb;exact hM3 _ ⟨b,by omega,rfl⟩
  rintro _ ⟨b,hb,rfl⟩;have skip:=hM2 _ ⟨js,n'+2,nv k,nv a,nv b,rfl,hok,by omega,by omega⟩;refine bb rfl (by omega) (bb rfl (by omega) (dv rfl rfl dI rfl (ite2 (λhne=>dv rfl rfl dI rfl (ite2 (λ_=>?_) λ_=>bb rfl (by omega) (bb rfl (by omega) (dv rfl rfl dI rfl (ite2 (λ_=>?_) λ_=>skip))))) λ_=>skip)));all_goals
   have hne':(js.foldl aD (aO m)).getD a 0≠(js.foldl aD (aO m)).getD b 0:=λe=>by
    rw[e]at hne;simp[eqD]at hne
   refine⟨by simp,by rw[db];omega,bb rfl (by omega) (bb rfl (by omega) ⟨by rw[aN,hL];omega,hM2 _ ⟨js++[(min a b,max a b)],n'+2,nv k,nv a,nv b,?_,?_,?_,by omega⟩⟩)⟩
   ·rw[zn,y_,C4,mI,cg,yo,yy,Ba];show _=[_,_,_,_,Sv.ow (_++[D.tup [.int ((min a b:Nat):Int),.int ((max a b:Nat):Int)]]),_,_,_,_,_]
    rw[<- minI,<- maxI,<- xorD];rfl
   ·have hab:a≠b:=λe=>hne' (by rw[e]);refine jk hok (by show min a b<max a b;omega) (by rw[bf];show max a b<_;omega) ?_;show(js.foldl aD (aO m)).getD (min a b) 0≠(js.foldl aD (aO m)).getD (max a b) 0;rcases AF a b with h | h
    ·rw[zx h,BC h];exact hne'
    ·rw[zJ h,BP h];exact hne'.symm
   ·rw[ms,yr];omega
 rintro _ ⟨js,n',s5,s6,s7,hok,hjl,hn',rfl⟩;have hL:(js.foldl aD (aO m)).length=m+js.length:=by rw[cb,bf]
 have hix:=cV hok;rw[bf]at hix;refine cutS (λρ=>ρ=[.tp n',nv m,nv cl,.ow (natsD (js.foldl aD (aO m))),.ow (js.map L2.pairD),s5,s6,s7,.dk [],.un]) (λM hM=>hM _ rfl) ?_;rintro _ rfl;refine cutS (λρ=>∃kvs s6 s7,(∀t:Nat,(valD kvs (.inl (t:Int))).isSome=true->∃p∈js,t=p.1∨t=p.2)/\ρ=[.tp n',nv m,nv cl,.ow (natsD (js.foldl aD (aO m))),.ow (js.map L2.pairD),s5,s6,s7,.dk kvs,.un]) (λM hM=>?_) ?_
 ·refine⟨rfl,iK L2.pairD (λk ρ=>∃kvs s6 s7,kvs.length<=2*k/\(∀t:Nat,(valD kvs (.inl (t:Int))).isSome=true->∃p∈js,t=p.1∨t=p.2)/\ρ=[.tp n',nv m,nv cl,.ow (natsD (js.foldl aD (aO m))),.ow (js.map L2.pairD),s5,s6,s7,.dk kvs,.un]) (λk ρ ⟨kvs,s6,s7,_,_,e⟩=>by rw[e];rfl) ?_ (λρ ⟨kvs,s6,s7,_,hv,e⟩=>hM ρ ⟨kvs,s6,s7,hv,e⟩) ⟨[],s6,s7,yz _,(λt h=>by cases h),rfl⟩⟩;rintro k p _ M2 hp ⟨kvs,s6,s7,hl,hv,rfl⟩ hM2;have hk:=(kt.mp hp).1;refine uF (d1:=nD p.1) (d2:=nD p.2) ?_;have l1:=n6 kvs (.inl ((p.1:Nat):Int)) (.bl true);have l2:=n6 (putD kvs (.inl ((p.1:Nat):Int)) (.bl true)) (.inl ((p.2:Nat):Int)) (.bl true);refine⟨by omega,by omega,hM2 _ ⟨_,_,_,by omega,λt ht=>?_,rfl⟩⟩;by_cases h2:t=p.2
  ·exact⟨p,yp hp,.inr h2⟩
  by_cases h1:t=p.1
  ·exact⟨p,yp hp,.inl h1⟩
  refine hv t ?_;rw[nR,if_neg (λz=>by injection z with z;omega),nR,if_neg (λz=>by injection z with z;omega)]at ht;exact ht
 rintro _ ⟨kvs,s6,s7,hv,rfl⟩;have er:rngD 0 (((natsD (js.foldl aD (aO m))).length:Nat):Int).toNat=(ym (m+js.length)).map nD:=by
  rw[aN,hL,show((m+js.length:Nat):Int).toNat=m+js.length by omega];exact zj λx _=>congrArg D.int (by show(0:Int)+(x:Int)=_;omega)
 refine cutS (λρ=>∃L:List Nat,(∀t∈L,t<m+js.length)/\m+js.length - 1∈L/\L.length<=52/\ρ=[.tp n',nv m,nv cl,.ow (natsD (js.foldl aD (aO m))),.ow (js.map L2.pairD),s5,s6,s7,.dk kvs,.ow (natsD L)]) (λM hM=>?_) ?_
 ·refine⟨⟨by omega,by rw[aN,hL];omega⟩,by rw[cz,aN,hL];omega,?_⟩;show fW _ _ _ _ _ _ _ (rngD 0 (((natsD (js.foldl aD (aO m))).length:Nat):Int).toNat) [] _;rw[er];refine rE nD (λ(t:Nat)=>!(valD kvs (.inl (t:Int))).isSome) nD trivial (λt acc N2 ht hN2=>?_) ?_
  ·cases h:(valD kvs (.inl (t:Int))).isSome <;> rw[h]at hN2
   ·show if(!(valD kvs (.inl (t:Int))).isSome)=true then _ else _
    rw[h];exact hN2
   ·show if(!(valD kvs (.inl (t:Int))).isSome)=true then _ else _
    rw[h];exact hN2
  refine hM _ ⟨(ym (m+js.length)).filter λ(t:Nat)=>!(valD kvs (.inl (t:Int))).isSome,λt ht=>za.mp (zi.mp ht).1,zi.mpr ⟨za.mpr (by omega),?_⟩,yt (Dz _ _) (by rw[z6];omega),rfl⟩;cases h:(valD kvs (.inl ((m+js.length - 1:Nat):Int))).isSome with
  | false=>rfl
  | true =>
   obtain⟨p,hp,h⟩:=hv _ h;obtain⟨j,ej⟩:=DF hp;have lt:=(kt.mp ej).1;obtain⟨a,b⟩:=bY hix ej;omega
 rintro _ ⟨L,hLl,hLm,hLn,rfl⟩;refine cutS (λρ=>∃os n2,(∀o∈os,o<m+js.length)/\1<=os.length/\n2<=n+200/\ρ=[.tp n2,nv m,nv cl,.ow (natsD (js.foldl aD (aO m))),.ow (js.map L2.pairD),s5,s6,s7,.dk kvs,.ow (natsD os)]) (λM hM=>?_) ?_
 ·refine⟨rfl,n',3,rfl,by omega,Dv.small (by decide) (by decide),λoc hoc=>⟨⟨by omega,by omega⟩,by rw[cz];omega,?_⟩⟩;refine eC (λk acc ρ=>∃os,acc=natsD os/\os.length=k/\(∀o∈os,o<m+js.length)/\ρ=[.tp (n'+1+k),nv m,nv cl,.ow (natsD (js.foldl aD (aO m))),.ow (js.map L2.pairD),s5,s6,s7,.dk kvs,.ow (natsD L)]) (λ_ _ _ _ _=>trivial) ?_ ?_ _ ⟨[],rfl,rfl,λ_ h=>(nomatch h),rfl⟩
  ·rintro k d acc _ N hk ⟨os,rfl,ho,hos,rfl⟩ hN;obtain⟨lt,rfl⟩:=iI hk;refine⟨rfl,n'+1+k,_,rfl,by omega,Dv.small ?_ ?_,λo ho'=>?_⟩
   ·rw[aN,hL];omega
   ·rw[aN,hL];omega
   rw[aN,hL]at ho';refine hN _ _ ⟨os++[o],by rw[cg],by rw[ms,ho];rfl,λx hx=>?_,rfl⟩;rcases zL.mp hx with h | h
   ·exact hos x h
   ·rw[y7.mp h];omega
  ·rintro acc _ ⟨os,rfl,ho,hos,rfl⟩;rw[cz]at ho;refine⟨by rw[aN,aN];omega,hM _ ⟨L++os,n'+1+os.length,λo h=>?_,?_,by omega,?_⟩⟩
   ·rcases zL.mp h with h | h
    ·exact hLl o h
    ·exact hos o h
   ·have:=List.length_pos_of_mem hLm;rw[ms];omega
   ·rw[lS,cz,ho];rfl
 rintro _ ⟨os,n2,hos,ho1,hn2,rfl⟩;have e12:L2.cutD (natsD os) none (some ((12:Nat):Int))=natsD (os.take 12):=by
  rw[rD];unfold natsD;rw[EZ]
 show(3<=1000000)/\q (.d (.tup [nD m,.tup (js.map L2.pairD),.tup (L2.cutD (natsD os) none (some ((12:Nat):Int)))])) _;rw[e12];refine⟨by omega,hq ⟨m,js,os.take 12⟩ n2 ⟨m1,m12,by show js.length<=132;omega,hok,?_,?_,λo ho=>hos o (List.mem_of_mem_take ho)⟩ rfl ?_ hjl (by omega)⟩
 ·show 1<=(os.take 12).length;rw[yZ];omega
 ·show(os.take 12).length<=24;rw[yZ];omega
 ·show(os.take 12).length<=12;rw[yZ];omega
end
theorem rR {tt:AT}{A B:AS}{e:lz}{ρ:En}(h:∀k:Bool->En->Prop,k true ρ->tt ρ k)(hb:A e ρ):aIfS tt A B e ρ:=by
 unfold aIfS;exact h _ (by simpa using hb)
section
variable {P:wl}{w:yF}{K:ac}{mg:Str->Option bd}{base:Heap}
theorem wM (dn:DefN K mg "law" sA ["_law_script"])(B:BI mg)(gD5:OkN P w K mg base 1 "_law_tape" ["_law_script"] (spA K vM))(gA7:OkN P w K mg base 1 "_law_draw" ["_law_tape_here", "_law_many"] (spA K tO))(gC2:OkN P w K mg base 2 "_law_net_used" ["_law_tape_here", "_law_many", "_law_clean"] (spA K rX))(gC7:OkN P w K mg base 5 "_law_behind" ["_law_net", "_law_other"] (spA K vO))(gB8:OkN P w K mg base 5 "_law_turned" ["_law_net"] (spA K SLTd))(gB1:OkN P w K mg base 3 "words_of" ["net", "words"] (spA K lu))(gD3:OkN P w K mg base 4 "made_by" ["net"] (spA K nO)):OkN P w K mg base 6 "law" ["_law_script"] (spA K SLaw):=by
 refine dn.aok2 (k:=5) e_ (λj=>j==0) [.un,.un,.un,.un,.un,.un,.un,.un,.un,.un,.un] SLaw rfl (λf cdv A outer s H E hr=>have hu:=cR hr;⟨_,(aJ (bg (i:=1) e_.nd rfl (by first | exact Or.inl rfl | exact Or.inr rfl) (bL gD5 (hr.mono (by decide)) (aj (pv 0) ar)))
  (aJ (ia zR rfl (di rfl B.range_ (aj bt ar)) (aK (i:=2) e_.nd rfl (by first | exact Or.inl rfl | exact Or.inr rfl))
  (aJ (bg (i:=3) e_.nd rfl (by first | exact Or.inl rfl | exact Or.inr rfl) (bL gA7 (hr.mono (by decide)) (aj (pv 1) (aj bt ar))))
  (aJ (bg (i:=4) e_.nd rfl (by first | exact Or.inl rfl | exact Or.inr rfl) (bL gC2 (hr.mono (by decide)) (aj (pv 1) (aj (bE cf bt (bL gA7 (hr.mono (by decide)) (aj (pv 1) (aj bt ar)))) (aj (pv 3) ar)))))
  (aJ (bg (i:=5) e_.nd rfl (by first | exact Or.inl rfl | exact Or.inr rfl) (bL gC2 (hr.mono (by decide)) (aj (pv 1) (aj (aS (aP K) rfl B.len_ bC (aj (bK (aT K) (pv 4) bt (λ_ _=>rfl)) ar)) (aj (pv 3) ar)))))
  (aJ (bg (i:=6) e_.nd rfl (by first | exact Or.inl rfl | exact Or.inr rfl) (bL gC7 (hr.mono (by decide)) (aj (pv 4) (aj (pv 5) ar))))
  (aW (gi (br jd (pv 6) d_ (bM _))
  (aJ (kL (i:=7) ["_law_k"] [1] e_.nd rfl (by first | exact Or.inl rfl | exact Or.inr rfl) rfl (Blk.of (aM sA) uf) (di rfl B.range_ (aj (bK (aT K) (pv 4) bt (λ_ _=>rfl)) ar)) (λ_ _ _ _ nd=>(aK (i:=0) nd rfl (by first | exact Or.inl rfl | exact Or.inr rfl))) (λ_ _ _ _=>eO) (λ_ _ _ _=>(bL gA7 (hr.mono (by decide)) (aj (pv 1) (aj (bE om bt bt) ar)))))
  (aJ (gi (br (ib K hr.units) (bL gB1 (hr.mono (by decide)) (aj (pv 6) (aj (pv 7) ar))) (bL gB1 (hr.mono (by decide)) (aj (pv 5) (aj (bL gB1 (hr.mono (by decide)) (aj (pv 4) (aj (pv 7) ar))) ar))) (bM _))
  (aW (cv qI))
  cM)
  (aJ (bg (i:=8) e_.nd rfl (by first | exact Or.inl rfl | exact Or.inr rfl) (bL gB8 (hr.mono (by decide)) (aj (pv 4) ar)))
  (aJ (bg (i:=9) e_.nd rfl (by first | exact Or.inl rfl | exact Or.inr rfl) (bL gB8 (hr.mono (by decide)) (aj (pv 5) ar)))
  (aJ (bg (i:=10) e_.nd rfl (by first | exact Or.inl rfl | exact Or.inr rfl) (bL gB8 (hr.mono (by decide)) (aj (pv 6) ar)))
  (aW (gi (PW.pt (n5 (br jd (pv 8) d_ (bM _)) (n5 (br jd (pv 9) d_ (bM _)) (mO (br jd (pv 10) d_ (bM _))))))
  (aJ (bg (i:=11) e_.nd rfl (by first | exact Or.inl rfl | exact Or.inr rfl) (bL gC7 (hr.mono (by decide)) (aj (pv 9) (aj (pv 8) ar))))
  (aW (gi (br jd (pv 11) d_ (bM _))
  (aW (gi (PW.pt (jK (br (ib K hr.units) (bL gD3 (hr.mono (by decide)) (aj (pv 11) ar)) (bL gD3 (hr.mono (by decide)) (aj (pv 10) ar)) (bM _)) (h_ (br (ib K hr.units) (aS (aP K) rfl B.len_ bC (aj (bK (aT K) (pv 11) bt (λ_ _=>rfl)) ar)) (aS (aP K) rfl B.len_ bC (aj (bK (aT K) (pv 10) bt (λ_ _=>rfl)) ar)) (bM _)))))
  (aW (cv qI))
  cM))
  cM)))
  cM)))))))
  cM)))))))
  (aW (cv qI)))),(az (aZ (aL (aa af aq)) rfl)
  (az (dc (pin:=(λ_=>false)) (dg (aa be aq)) (aA rfl)
  (az (aZ (aL (aa af (aa be aq))) rfl)
  (az (aZ (aL (aa af (aa (aG bj be (aL (aa af (aa be aq)))) (aa af aq)))) rfl)
  (az (aZ (aL (aa af (aa (bc aX (aa (aG bu af be) aq)) (aa af aq)))) rfl)
  (az (aZ (aL (aa af (aa af aq))) rfl)
  (cp (aY (aG gG af cB))
  (az (kF (dw (dg (aa (aG bu af be) aq)) (aA rfl) dN (aL (aa af (aa (aG mS be be) aq)))) rfl)
  (az (cp (aY (aG ie (aL (aa af (aa af aq))) (aL (aa af (aa (aL (aa af (aa af aq))) aq)))))
  (bV lC)
  aV)
  (az (aZ (aL (aa af aq)) rfl)
  (az (aZ (aL (aa af aq)) rfl)
  (az (aZ (aL (aa af aq)) rfl)
  (cp (kx (aY (aG gG af cB)) (kx (aY (aG gG af cB)) (aY (aG gG af cB))))
  (az (aZ (aL (aa af (aa af aq))) rfl)
  (cp (aY (aG gG af cB))
  (cp (dX (aY (aG ie (aL (aa af aq)) (aL (aa af aq)))) (aY (aG ie (bc aX (aa (aG bu af be) aq)) (bc aX (aa (aG bu af be) aq)))))
  (bV lC)
  aV)
  aV))
  aV))))))
  aV))))))
  (bV lC)))⟩) ?_
 rintro ss q ⟨ns,hl,rfl,hq⟩;refine⟨rfl,rfl,rfl,ns,rfl,?_⟩;dsimp only[stS,pt,back,R.frz];have dI:∀ {i:Int},D.depth (.int i)<=60:=λ{i}=>by simp[D.depth]
 refine cutS (λρ=>∃s1 s2 s3 s4 s5 s6 s7 s8 s9 s10 s11,ρ=[.sc ns,s1,s2,s3,s4,s5,s6,s7,s8,s9,s10,s11]) (λM hM=>⟨⟨by omega,by omega⟩,?_⟩) ?_
 ·refine oJ (λk ρ=>∃n s2 s3 s4 s5 s6 s7 s8 s9 s10 s11,n<=5000*k/\ρ=[.sc ns,.tp n,s2,s3,s4,s5,s6,s7,s8,s9,s10,s11]) (λ_ _ _=>trivial) ?_ (λρ ⟨n,s2,s3,s4,s5,s6,s7,s8,s9,s10,s11,_,e⟩=>hM ρ ⟨_,s2,s3,s4,s5,s6,s7,s8,s9,s10,s11,e⟩) ⟨0,.un,.un,.un,.un,.un,.un,.un,.un,.un,.un,by omega,rfl⟩;rintro k _ M1 hk ⟨n,s2,s3,s4,s5,s6,s7,s8,s9,s10,s11,hn,rfl⟩ hM1;have hk3:k<3:=hk;rw[Ct];refine cutS (λρ=>∃cl:Nat,ρ=[.sc ns,.tp (n+1),nv k,nv cl,s4,s5,s6,s7,s8,s9,s10,s11]) (λM2 hM2=>⟨rfl,n,2,rfl,by omega,Dv.small (by decide) (by decide),λr hr=>hM2 _ ⟨r,rfl⟩⟩) ?_;rintro _ ⟨cl,rfl⟩;refine cutS (λρ=>∃A n1,bN A/\A.os.length<=12/\A.js.length<=12/\n1<=5000*k+1100/\ρ=[.sc ns,.tp n1,nv k,nv cl,.vl (netD A),s5,s6,s7,s8,s9,s10,s11]) (λM2 hM2=>⟨rfl,n+1,6,rfl,by omega,Dv.small (by decide) (by decide),λr hr=>⟨rfl,n+2,1+r,cl,?_,by omega,by omega,by omega,λN n1 h1 h2 h3 h4 h5=>hM2 _ ⟨N,n1,h1,h3,h4,by omega,rfl⟩⟩⟩) ?_
  ·rw[<- xV (show 1+(r:Int)=((1+r:Nat):Int)by omega)];rfl
  rintro _ ⟨A,n1,hA,hAo,hAj,hn1,rfl⟩;have a1:=hA.o1;refine cutS (λρ=>∃B n2,bN B/\B.m=A.os.length/\B.os.length<=12/\B.js.length<=12/\n2<=5000*k+2200/\ρ=[.sc ns,.tp n2,nv k,nv cl,.vl (netD A),.vl (netD B),s6,s7,s8,s9,s10,s11]) (λM2 hM2=>pO (i:=2) (d:=.tup (natsD A.os)) rfl rfl ⟨rfl,n1,A.os.length,cl,?_,by omega,by omega,by omega,λN n2 h1 h2 h3 h4 h5=>hM2 _ ⟨N,n2,h1,h2,h3,h4,by omega,rfl⟩⟩) ?_
  ·rw[aN];rfl
  rintro _ ⟨B,n2,hB,hm,hBo,hBj,hn2,rfl⟩;refine cutS (λρ=>ρ=[.sc ns,.tp n2,nv k,nv cl,.vl (netD A),.vl (netD B),.vl (behD A B),s7,s8,s9,s10,s11]) (λM2 hM2=>⟨rfl,A,B,rfl,hA,hB,hM2 _ rfl⟩) ?_;rintro _ rfl;rcases mD hA hB with e | ⟨e,hW,_⟩
  ·rw[e];exact hM1 _ ⟨n2,_,_,_,_,_,_,_,_,_,_,by omega,rfl⟩
  rw[e];refine rR (λ_ hk=>hk) ?_;have lW:(bhN A B).js.length=A.js.length+B.js.length:=by
   show(A.js++adN A B).length=_;rw[ms];congr 1;exact db _
  have mW:(bhN A B).m=A.m:=rfl;have m12:=hA.m12;have o24:=hW.o24;refine cutS (λρ=>∃ws n3,ws.length=A.m/\n3<=5000*k+2300/\ρ=[.sc ns,.tp n3,nv k,nv cl,.vl (netD A),.vl (netD B),.vl (netD (bhN A B)),.ow (natsD ws),s8,s9,s10,s11]) (λM2 hM2=>?_) ?_
  ·refine pO (i:=0) (d:=nD A.m) rfl rfl ⟨⟨by omega,by omega⟩,by rw[cz];omega,?_⟩;refine eC (λj acc ρ=>∃ws,acc=natsD ws/\ws.length=j/\ρ=[.sc ns,.tp (n2+j),nv k,nv cl,.vl (netD A),.vl (netD B),.vl (netD (bhN A B)),s7,s8,s9,s10,s11]) (λ_ _ _ _ _=>trivial) ?_ ?_ _ ⟨[],rfl,rfl,rfl⟩
   ·rintro j d acc _ N hj ⟨ws,rfl,hw,rfl⟩ hN;obtain⟨lt,rfl⟩:=iI hj;refine⟨⟨by decide,by decide,by decide⟩,rfl,n2+j,_,rfl,by omega,Dv.small (by decide) (by decide),λo ho=>hN _ _ ⟨ws++[o],by rw[cg],by rw[ms,hw];rfl,rfl⟩⟩
   ·rintro acc _ ⟨ws,rfl,hw,rfl⟩;rw[cz]at hw;refine hM2 _ ⟨ws,n2+ws.length,by omega,by omega,?_⟩;rw[cz,hw];rfl
  rintro _ ⟨ws,n3,hw,hn3,rfl⟩;have ewl:(A.os.map λo=>(A.js.foldl aD ws).getD o 0).length=B.m:=by rw[db,hm]
  refine cutS (λρ=>ρ=[.sc ns,.tp n3,nv k,nv cl,.vl (netD A),.vl (netD B),.vl (netD (bhN A B)),.ow (natsD ws),s8,s9,s10,s11]) (λM2 hM2=>?_) ?_
  ·refine⟨rfl,bhN A B,ws,_,rfl,.inl rfl,by rw[hw];exact iC hW,by omega,by omega,by rw[hw];exact hW.os,?_⟩;refine⟨rfl,A,ws,_,rfl,.inl rfl,by rw[hw];exact iC hA,by omega,by omega,by rw[hw];exact hA.os,?_⟩;refine⟨rfl,B,_,_,rfl,.inr rfl,by rw[ewl];exact iC hB,by rw[ewl];omega,by omega,by rw[ewl];exact hB.os,?_⟩;rw[rM hA hB hm hw];exact dv (b:=true) rfl rfl (jy _) (eP _) (hM2 _ rfl)
  rintro _ rfl;refine cutS (λρ=>ρ=[.sc ns,.tp n3,nv k,nv cl,.vl (netD A),.vl (netD B),.vl (netD (bhN A B)),.ow (natsD ws),.vl (tdD A),s9,s10,s11]) (λM2 hM2=>⟨rfl,A,rfl,hA,hM2 _ rfl⟩) ?_;rintro _ rfl;refine cutS (λρ=>ρ=[.sc ns,.tp n3,nv k,nv cl,.vl (netD A),.vl (netD B),.vl (netD (bhN A B)),.ow (natsD ws),.vl (tdD A),.vl (tdD B),s10,s11]) (λM2 hM2=>⟨rfl,B,rfl,hB,hM2 _ rfl⟩) ?_;rintro _ rfl;refine cutS (λρ=>ρ=[.sc ns,.tp n3,nv k,nv cl,.vl (netD A),.vl (netD B),.vl (netD (bhN A B)),.ow (natsD ws),.vl (tdD A),.vl (tdD B),.vl (tdD (bhN A B)),s11]) (λM2 hM2=>⟨rfl,bhN A B,rfl,hW,hM2 _ rfl⟩) ?_;rintro _ rfl;have skip:=λs11=>hM1 [.sc ns,.tp n3,nv k,nv cl,.vl (netD A),.vl (netD B),.vl (netD (bhN A B)),.ow (natsD ws),.vl (tdD A),.vl (tdD B),.vl (tdD (bhN A B)),s11] ⟨n3,_,_,_,_,_,_,_,_,_,_,by omega,rfl⟩;rcases kD hA with eA | ⟨eA,FA⟩
  ·rw[eA]at skip ⊢;exact skip _
  rcases kD hB with eB | ⟨eB,FB⟩
  ·rw[eA,eB]at skip ⊢;exact skip _
  rcases kD hW with eW | ⟨eW,FW⟩
  ·rw[eA,eB,eW]at skip ⊢;exact skip _
  rw[eA,eB,eW]at skip ⊢;obtain⟨md,ln⟩:=sT hA hB hm FA FB FW;have hFA:=FA.net;have hFB:=FB.net;have hFW:=FW.net;refine rR (λ_ hk=>hk) ?_;refine cutS (λρ=>ρ=[.sc ns,.tp n3,nv k,nv cl,.vl (netD A),.vl (netD B),.vl (netD (bhN A B)),.ow (natsD ws),.vl (netD (bo A)),.vl (netD (bo B)),.vl (netD (bo (bhN A B))),.vl (behD (bo B) (bo A))]) (λM2 hM2=>⟨rfl,bo B,bo A,rfl,hFB,hFA,hM2 _ rfl⟩) ?_;rintro _ rfl;rcases mD hFB hFA with eF | ⟨eF,hF,_⟩
  ·rw[eF];exact skip _
  rw[eF];have f1:=hF.m12;have f2:=hF.jl;have f3:=hF.o24;have g1:=hFW.m12;have g2:=hFW.jl;have g3:=hFW.o24;refine⟨rfl,bhN (bo B) (bo A),rfl,iC hF,by omega,by omega,hF.os,rfl,bo (bhN A B),rfl,iC hFW,by omega,by omega,hFW.os,?_⟩;rw[show(bhN (bo B) (bo A)).os.map (λo=>(bQ (bhN (bo B) (bo A))).getD o 0)=gN (bhN (bo B) (bo A))from rfl,md];refine dv (b:=true) rfl rfl (jy _) (eP _) (pO (i:=1) (d:=.tup ((bhN (bo B) (bo A)).js.map L2.pairD)) rfl rfl (pO (i:=1) (d:=.tup ((bo (bhN A B)).js.map L2.pairD)) rfl rfl (dv (b:=true) rfl rfl dI ?_ (skip _))));rw[db,db,ln];exact eP _
 rintro _ ⟨s1,s2,s3,s4,s5,s6,s7,s8,s9,s10,s11,rfl⟩;exact hq _
abbrev DS (K:ac)(mg:Str->Option bd):Prop:=DefN K mg "joined" kI ["one", "other"]/\DefN K mg "own_rows" fL ["many"]/\DefN K mg "joining" iY ["one", "other"]/\DefN K mg "all_words" gh ["net", "words"]/\DefN K mg "words_of" fK ["net", "words"]/\DefN K mg "rows_of" iW ["net"]/\DefN K mg "made_by" iX ["net"]/\DefN K mg "behind" eL ["net", "other"]/\DefN K mg "refuse_too_many" cy ["many", "joins", "outs"]/\DefN K mg "refuse_nought" cS ["rows", "added"]/\DefN K mg "numbers_from" dY ["first", "joins"]/\DefN K mg "renumbered" dR ["joins", "things"]/\DefN K mg "turned_net" b_ ["net"]/\DefN K mg "out_uses" fM ["net"]/\DefN K mg "joined_uses" cT ["thing", "uses", "rows", "made"]/\DefN K mg "_law_tape" gY ["_law_script"]/\DefN K mg "_law_draw" gZ ["_law_tape_here", "_law_many"]/\DefN K mg "_law_net_used" cm ["_law_tape_here", "_law_many", "_law_clean"]/\DefN K mg "_law_behind" fq ["_law_net", "_law_other"]/\DefN K mg "_law_turned" fo ["_law_net"]/\DefN K mg "law" sA ["_law_script"]/\(∃u,mg "MOST_GIVENS" = some u/\RelV (.int 12) u)/\(∃u,mg "MOST_JOINS" = some u/\RelV (.int 132) u)/\(∃u,mg "MOST_OUTS" = some u/\RelV (.int 24) u)
theorem fin (ds:DS K mg)(xf:XF K mg)(B:BI mg):OkN P w K mg base 6 "law" ["_law_script"] (uW K):=by
 obtain⟨a0,a1,a2,a3,a4,a5,a6,a7,a8,a9,b0,b1,b2,b3,b4,b5,b6,b7,b8,b9,c0,c1,c2,c3⟩:=ds;obtain⟨gA0,v6,v4,gA4,gA1,f_Nought,f_Loose,m_TooMany,m_Nought,m_JoinError,m_NoFit,m_Loose,e_TooMany,in_Nought,bs_JoinError,e_NoFit,in_Loose,ea_JoinError,s_TooMany_JoinError,s_Loose_JoinError,s_Nought_JoinError,s_NoFit_JoinError⟩:=xf
 exact
 have c4:=mY b5 B
 have c5:=mZ b6 B
 have c6:=qL a0 B
 have c7:=mV a1 B
 have c8:=lP a3 B c6
 have c9:=mU a4 B c8
 have d0:=pw a2 B
 have d1:=pj a5 B c8 c7
 have d2:=pq a6 B c9 c7
 have d3:=gJ a8 B c1 c2 c3
 have d4:=dH m_TooMany e_TooMany a8 B c1 c2 c3
 have d5:=jh b0 B
 have d6:=kS b1 B d0
 have d7:=iA a9 B c6
 have d8:=ef m_Nought m_JoinError in_Nought bs_JoinError a9 B c6
 have d9:=iz m_NoFit e_NoFit a7 B
 have e0:=gH m_TooMany e_TooMany a7 B d4
 have e1:=g9 m_Nought m_JoinError in_Nought bs_JoinError a7 B d3 d6 d5 d1 d8
 have e2:=qM a7 B d3 d6 d7 d5 d1
 have e3:=mX b3 B
 have e4:=jL b4 B d0 c6
 have e5:=kR b2 B e3 c7 e4 c1 c2
 have e6:=fx m_Loose m_JoinError in_Loose bs_JoinError b4 B d0 c6
 have e7:=fj m_Nought m_JoinError in_Nought bs_JoinError b4 B d0 c6
 have e8:=fi m_TooMany e_TooMany b2 B c1 c2
 have e9:=fV m_Loose m_JoinError in_Loose bs_JoinError b2 B e3 c7 e4 e6 c1 c2
 have f0:=fw m_Nought m_JoinError in_Nought bs_JoinError b2 B e3 c7 e4 e7 c1 c2
 have f1:=kT m_TooMany m_Loose m_Nought m_JoinError ea_JoinError s_TooMany_JoinError s_Loose_JoinError s_Nought_JoinError b9 B e5 e8 e9 f0
 have f2:=kU m_NoFit m_TooMany m_Nought m_JoinError ea_JoinError s_NoFit_JoinError s_TooMany_JoinError s_Nought_JoinError b8 B e2 d9 e0 e1
 have f3:=jj b7 B c5
 have f4:=wM c0 B c4 c5 f3 f2 f1 c9 d2
 wU f4
end
end K46
namespace PySem.W.Fast
def tw16198561256605771020:=()
def tw6018120641454106191:=()
def tw18402529519224359974:=()
def tw2901393244185202581:=()
def tw6656651404524717995:=()
def tw4290827364242122103:=()
def tw449563687173772741:=()
def tw17370818802119299316:=()
def tw14804217902181010098:=()
def tw3121083643225782133:=()
def tw1394011772211111735:=()
def tw10196870921515786557:=()
def tw14703608605843385873:=()
def tw3656046349171137482:=()
def tw9612954116952929313:=()
def tw12184745576968127724:=()
def tw13860871267349023908:=()
def tw6016093933517137612:=()
def tw10958594122180913389:=()
def tw17640496825299986502:=()
def tw6051094723324796106:=()
def tw16336574684118341696:=()
def tw2554679595097430212:=()
def tw734368034054835355:=()
def tw10392459752680020287:=()
def tw14563949053383943474:=()
def tw16896318212676217805:=()
def tw14397061254609545534:=()
def tw1020059851774950630:=()
def tw3601774462265029515:=()
def tw7552843839089688343:=()
def tw14573972899501241008:=()
def tw10101784441152136759:=()
def tw6670459782296866394:=()
def tw6723125420646299794:=()
def tw5400385385538444064:=()
def tw13640662870303104212:=()
def tw12665455508107840742:=()
def tw2872117604369670651:=()
def tw816553766431275809:=()
def tw5563681843935420140:=()
def tw863995125211734582:=()
def tw11893624572831841579:=()
def tw12241094527600226069:=()
def tw9583314516572049214:=()
def tw5338431535575801845:=()
def tw11349890705853196487:=()
def tw8214364068901223549:=()
def tw2748511357842554947:=()
def tw8777704021764006211:=()
def tw11140063604928250278:=()
def tw13046037483562755200:=()
def tw15551138221104451394:=()
def tw8929888335992504528:=()
def tw13298197389377537059:=()
def tw12878500878355432315:=()
def tw12565597269181162983:=()
def tw9361664288276799668:=()
def tw13572061791226912697:=()
def tw8380739753257124204:=()
def tw4098213373816088057:=()
def tw10523033905701638580:=()
def tw5016771177848069883:=()
def tw4479948847485935923:=()
def tw5705323456272385682:=()
def tw4731219385297560560:=()
def tw8346394172305090145:=()
def tw379080111552410147:=()
def tw9004476017369937946:=()
def tw13582614574043458786:=()
def tw8459929465764521208:=()
def tw15298663838576720415:=()
def tw13003460457552818777:=()
def tw11354416544694987320:=()
def tw17059146571716105980:=()
def tw14844596554825886152:=()
def tw15100175991365041151:=()
def tw9529178900246153902:=()
def tw5309596059744334491:=()
def tw2806124695346614462:=()
def tw17006705600399408208:=()
def tw1363747203515441278:=()
def tw16953034324004751256:=()
def tw890834327312456826:=()
def tw12114672326939829354:=()
def tw13523164425548164051:=()
def tw2640740639472171683:=()
def tw9053524366598414957:=()
def tw15213067499782606537:=()
def tw2688369078929592977:=()
def tw14236077121484209757:=()
def tw7008730280040323224:=()
def tw10181412621901821255:=()
def tw13242220328006166760:=()
def tw16348334772533455247:=()
def tw4770836992544855070:=()
def tw16486322243117176176:=()
def tw12582133131274772388:=()
def tw11887707597619534435:=()
def tw4889778709185176073:=()
def tw2620720743116622044:=()
def tw18342539610194688261:=()
def tw5635411323775252308:=()
def tw17748142333765684689:=()
def tw11787923800504979464:=()
def tw8478127682315792215:=()
def tw12629362046977121175:=()
def tw6496313706476055810:=()
def tw5950655481814920361:=()
def tw8840722464673424925:=()
def tw1406924988828487253:=()
def tw8179778634160281216:=()
def tw17294237216795180080:=()
def tw17043317926603446768:=()
def tw13095727085343194420:=()
def tw12386074961215301111:=()
def tw14029630799164610405:=()
def tw15177227765568972994:=()
def tw69672708597210162:=()
def tw14498900240359307539:=()
def tw17186084338047273741:=()
def tw4893711809730455715:=()
def tw460156558308005181:=()
def tw6770420506270506024:=()
def tw6351139268722862325:=()
def tw3628454068211138381:=()
def tw4948112840202672972:=()
def tw5272912805690969213:=()
def tw7116985213416940348:=()
def tw9523884755258557801:=()
def tw17819212688698490085:=()
def tw10842457333695459631:=()
def tw4954636101641901749:=()
def tw11804025338781809011:=()
def tw1556559808615210108:=()
def tw1204947135310694071:=()
def tw6414221869550821997:=()
def tw10616115812255044335:=()
def tw2910738306307829421:=()
def tw9560528466421734585:=()
def tw3247770377937537786:=()
def tw4902497515904541966:=()
def tw977122930566528028:=()
def tw10552071637325791290:=()
def tw1177932514583552082:=()
def tw9800189108255271456:=()
def tw15022264329034536879:=()
def tw13269771138602003166:=()
def tw13688758385184320565:=()
def tw10255850766941904368:=()
def tw2264223825413303493:=()
def tw11630348079035091440:=()
def tw17264799373385592892:=()
def tw8481940101630927017:=()
def tw3941278271289025638:=()
def tw17861925813781046531:=()
def tw8203964054767897621:=()
def tw814382211905186465:=()
def tw13941232740964692670:=()
def tw12843078732095628860:=()
def tw12562318031704760320:=()
def tw11938287970110990826:=()
def tw3933948606145881805:=()
def tw12758079987347143358:=()
def tw4733311396839345965:=()
def tw15828503863979754242:=()
def tw5033575535620988846:=()
def tw3955123103182868125:=()
def tw14816721109940950391:=()
def tw2892646103267635401:=()
def tw10100005101095869747:=()
def tw3096557279513050005:=()
def tw6894250594815401002:=()
def tw4194409417923959721:=()
def tw2049263720930671606:=()
def tw9264609210864815383:=()
def tw11400285893775042955:=()
def tw15515503723134771436:=()
def tw8490235878814569632:=()
def tw4138275704633122595:=()
def tw14406277122148075976:=()
def tw8921671045875106370:=()
def tw7026452755455351859:=()
def tw6365395574156346778:=()
def tw7606366076706110786:=()
def tw7747597900753778270:=()
def tw12303800656713093103:=()
def tw14043038284059336717:=()
def tw1195691235914679738:=()
def tw3789755018179175900:=()
def tw12470238923357181200:=()
def tw2399266354469436148:=()
def tw9649071658681105353:=()
def tw11694711005506928181:=()
def tw9896877115983812175:=()
def tw16297512453093094699:=()
def tw7886961724198074247:=()
def tw13403308603434598300:=()
def tw17530715618336103925:=()
def tw1668284384396480872:=()
def tw3235712586626844601:=()
def tw14915511020235047352:=()
def tw15529451085478308695:=()
def tw6838839529051214592:=()
def tw3996474728390826782:=()
def tw5315490467043105036:=()
def tw8447864801925670434:=()
def tw4832761678271916298:=()
def tw1990725317662336056:=()
def tw17391715256604930067:=()
def tw9030477803359173555:=()
def tw2818545646950106676:=()
def tw1025071787990718441:=()
def tw16515804380784308900:=()
end PySem.W.Fast
open PySem PySem.W PyProof.Rows
set_option maxRecDepth 100000 in
set_option maxHeartbeats 0 in
theorem PySem.Challenge.cw_fewjoins_k46_whole_turned_behind_one_ano_holds : PySem.Challenge.rw_fewjoins_k46_whole_turned_behind_one_ano.Holds := by
 w_on;o_law;k_head;(case hw=>w_witness2)
 k_fill
 refine L2.se (l:=PySem.Challenge.rw_fewjoins_k46_whole_turned_behind_one_ano) (n:=63) (k:=6) (x := "_law_script") (CX:=L2.CX0) (sp:=L2.uW) rfl (by decide) rfl ⟨rfl,by decide,by decide,rfl⟩ (λw h Y=>PySem.W.kIn_of Y) ?F ?S ?C;case S=>exact λK H a ns hl hO hS=>⟨a,ns,rfl,hS,hl,λ_=>rfl⟩
 case C=>exact λH s e s' h=>h
 case F =>
  intro w mg fa h KX G hmg;have ds:K46.DS (L2.KOf KX) mg:=by
   dsimp only[L2.KOf];refine' ⟨?_,?_,?_,?_,?_,?_,?_,?_,?_,?_,?_,?_,?_,?_,?_,?_,?_,?_,?_,?_,?_,?_,?_,?_⟩
   iterate 21
    refine' L2.xr KX G ?a ?l ?c ?k ?u
    (case a=>k_is);(case l=>k_is);(case c=>k_is);(case k=>k_is)
    (case u=>first | exact(λ_ _ _ _ _ _ us hl=>match us,hl with | [_],_=>rfl) | exact(λ_ _ _ _ _ _ us hl=>match us,hl with | [_,_],_=>rfl) | exact(λ_ _ _ _ _ _ us hl=>match us,hl with | [_,_,_],_=>rfl) | exact(λ_ _ _ _ _ _ us hl=>match us,hl with | [_,_,_,_],_=>rfl))
   iterate 3
    refine' ⟨_,Ao KX G ?a,?b⟩
    (case a=>k_is);(case b=>exact⟨_,rfl⟩)
  have B:L2.BI mg:=by
   refine' L2.x5 KX G ?_ ?_ ?_ ?_ ?_ ?_ ?_ ?_ ?_ ?_ ?_ ?_ ?_ ?_ ?_ ?_ ?_ ?_ ?_ ?_ ?_;all_goals k_is
  have xf:K46.XF (L2.KOf KX) mg:=by
   dsimp only[L2.KOf];refine' K46.XF.mk KX G ?f0 ?f1 ?f2 ?f3 ?f4 ?f5 ?f6_0 ?f6_1 ?f6_2 ?f6_3 ?f6_4 ?f6_5 ?f6_6 ?f6_7 ?f7_0 ?f7_1 ?f7_2 ?f8 ?f9_0 ?f9_1 ?f9_2 ?f9_3 ?f9_4 ?f9_5 ?f9_6 ?f9_7 ?f10 ?f11 ?f12 ?f13 ?f14
   (case f0=>k_is);(case f1=>k_is);(case f2=>k_is);(case f3=>k_is);(case f4=>k_is);(case f5=>k_exc);(case f6_0=>k_is);(case f6_1=>k_is);(case f6_2=>k_is);(case f6_3=>k_is);(case f6_4=>kernel_rfl);(case f6_5=>k_is);(case f6_6=>k_is);(case f6_7=>k_is);(case f7_0=>k_is);(case f7_1=>k_is);(case f7_2=>k_is);(case f8=>k_exc);(case f9_0=>k_is);(case f9_1=>k_is);(case f9_2=>k_is);(case f9_3=>k_is);(case f9_4=>kernel_rfl);(case f9_5=>k_is);(case f9_6=>k_is);(case f9_7=>k_is);(case f10=>k_exc);(case f11=>k_is);(case f12=>k_is);(case f13=>k_is);(case f14=>k_is)
  have gD9:=ds.2.2.2.2.2.2.2.2.2.2.2.2.2.2.2.2.2.2.2.2.1;refine L2.vn gD9 hmg λbase=>?_;exact K46.fin ds xf B
#print axioms PySem.Challenge.cw_fewjoins_k46_whole_turned_behind_one_ano_holds

