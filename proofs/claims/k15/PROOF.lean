import PyProof.Rows.All
import Wide.All
import OpenK.AllK
import Wide.FinOn
import Lean
import PyProof.EqAt
import PyProof.EqKinds
import PyProof.TupleCall
import PyProof.NeKinds
import PyProof.ListMulAny
import PyProof.Rows.CallKwBuiltin
import PyProof.MinMaxWalk
import PyProof.SeqI3
import PyProof.Rows.TupAdd
import PyProof.MeetsDict
import PyProof.DictList
import PyProof.ZipIter
import PyProof.Rows.ZipGen
import PyProof.ListRange
import PyProof.TupleOfStr
import PyProof.Rows.FStr
import PyProof.Rows.StrJoin2
import PyProof.Rows.Range3
import PyProof.EnumMake
import PyProof.EnumFor
import PyProof.EnumStmt
import KE.KUnpackStar
import KE.KDictList
import PyProof.Rows.SortWalk
import KE.RegKIsAll
import PyProof.NsDelKeeps
import PyProof.Rows.CountFlat
import KE.KRevIter
import PyProof.Draws
import PyProof.ExcInit
import PyProof.InstStoreFacts
import PyProof.DictCompW
import PyProof.DictIter
import PyProof.DictWalks
import PyProof.Rows.SetFrom
import PyProof.SetRoads
import KE.KDictOf
import PyProof.Rows.SortShellK
import PySem.Challenge.RW_fewjoins_k15_tidied
set_option Elab.async false
set_option linter.all false
set_option maxRecDepth 100000
namespace L2
open PySem PySem.Spec PyProof.Rows
abbrev Key:=Sum Int Str
def keyIs:Key→Value→Bool
 | .inl k,v=>Value.isInt k v
 | .inr x,v=>Value.isStrOf x v
def keyH (w:World):Key→Int
 | .inl k=>hashInt k
 | .inr x=>hashStr w x
theorem keyIs_shape:∀ {k:Key} {v:Value},keyIs k v = true→(∃ i t,k = Sum.inl i∧v = Value.int i t) ∨ (∃ x t,k = Sum.inr x∧v = Value.str x t)
 | .inl i,v,h=>by
  obtain ⟨t,e⟩:=Value.isInt_shape (k:=i) (v:=v) h
  exact .inl ⟨i,t,rfl,e⟩
 | .inr x,v,h=>by
  obtain ⟨t,e⟩:=Value.isStrOf_shape (x:=x) (v:=v) h
  exact .inr ⟨x,t,rfl,e⟩
theorem keyIs_int (i:Int) (t:Tok):keyIs (.inl i) (.int i t) = true:=by simp [keyIs,Value.isInt]
theorem keyIs_str (x:Str) (t:Tok):keyIs (.inr x) (.str x t) = true:=by simp [keyIs,Value.isStrOf]
theorem key_ll (a b:Int):decide ((Sum.inl a:Key) = Sum.inl b) = (a == b):=by
 by_cases e:a = b
 ·subst e; simp
 ·have h:¬ (Sum.inl a:Key) = Sum.inl b:=fun q=>e (Sum.inl.inj q)
  rw [decide_eq_false h]
  exact (beq_eq_false_iff_ne.mpr e).symm
theorem key_rr (a b:Str):decide ((Sum.inr a:Key) = Sum.inr b) = decide (a = b):=by
 by_cases e:a = b
 ·subst e; simp
 ·have h:¬ (Sum.inr a:Key) = Sum.inr b:=fun q=>e (Sum.inr.inj q)
  rw [decide_eq_false h,decide_eq_false e]
theorem key_lr (a:Int) (b:Str):decide ((Sum.inl a:Key) = Sum.inr b) = false:=decide_eq_false (fun q=>nomatch q)
theorem key_rl (a:Str) (b:Int):decide ((Sum.inr a:Key) = Sum.inl b) = false:=decide_eq_false (fun q=>nomatch q)
def mixKind (prog:Program) (w:World):PySem.KeyKind prog w Key where
 is:=keyIs
 hash:=keyH w
 inj:=fun v a b ha hb=>by
  rcases keyIs_shape ha with ⟨i,t,rfl,rfl⟩ | ⟨x,t,rfl,rfl⟩
  ·rcases keyIs_shape hb with ⟨j,u,rfl,e⟩ | ⟨y,u,rfl,e⟩
   ·injection e with e1 _; rw [e1]
   ·exact nomatch e
  ·rcases keyIs_shape hb with ⟨j,u,rfl,e⟩ | ⟨y,u,rfl,e⟩
   ·exact nomatch e
   ·injection e with e1 _; rw [e1]
 byValue:=fun k v h=>by
  rcases keyIs_shape h with ⟨i,t,rfl,rfl⟩ | ⟨x,t,rfl,rfl⟩ <;> rfl
 pyHash:=fun hv h=>by
  rcases keyIs_shape hv with ⟨i,t,rfl,rfl⟩ | ⟨x,t,rfl,rfl⟩
  ·exact wpAny_pyHash_int h
  ·exact wpAny_pyHash_str h
 eqBool:=fun hu hv h=>by
  rcases keyIs_shape hu with ⟨i,t,rfl,rfl⟩ | ⟨x,t,rfl,rfl⟩
  ·rcases keyIs_shape hv with ⟨j,u,rfl,rfl⟩ | ⟨y,u,rfl,rfl⟩
   ·rw [key_ll] at h; exact wpAny_eqBool_int h
   ·rw [key_lr] at h; exact SeqAt.EqAt.int_str i t y u _ _ _ _ h
  ·rcases keyIs_shape hv with ⟨j,u,rfl,rfl⟩ | ⟨y,u,rfl,rfl⟩
   ·rw [key_rl] at h; exact SeqAt.EqAt.str_int x t j u _ _ _ _ h
   ·rw [key_rr] at h; exact wpAny_eqBool_str h
 «strs»:=fun k x t v h=>by
  rcases keyIs_shape h with ⟨i,u,rfl,e⟩ | ⟨y,u,rfl,e⟩
  ·exact nomatch e
  ·injection e with e1 _
   subst e1
   cases v <;> rfl
theorem mixKind_int (prog:Program) (w:World) (i:Int) (t:Tok):(mixKind prog w).is (.inl i) (.int i t) = true:=keyIs_int i t
theorem mixKind_str (prog:Program) (w:World) (x:Str) (t:Tok):(mixKind prog w).is (.inr x) (.str x t) = true:=keyIs_str x t
inductive V where
 | non | bl (b:Bool) | int (i:Int) | str (x:Str) | byt (b:Array UInt8) | flt (b:UInt64) | ref (a:Addr) | ty (n:String)
 deriving DecidableEq
def RelV:V→Value→Prop
 | .non,u=>u = Value.none
 | .bl b,u=>u = Value.bool b
 | .int i,u=>∃ t,u = Value.int i t
 | .str x,u=>∃ t,u = Value.str x t
 | .byt b,u=>∃ t,u = Value.bytes b t
 | .flt b,u=>∃ t,u = Value.float b t
 | .ref a,u=>u = Value.ref a
 | .ty n,u=>u = Value.type n
abbrev Vals:List V→List Value→Prop:=Paired RelV
theorem Vals.length {xs:List V} {us:List Value} (r:Vals xs us):xs.length = us.length:=Paired.length r
theorem Vals.get:∀ {xs:List V} {us:List Value} {i:Nat} {x:V},Vals xs us→xs[i]? = some x→∃ u,us[i]? = some u∧RelV x u
 | _,_,_,_,.nil,e=>by simp at e
 | _,_,0,_,.cons r _,e=>by simp at e; subst e; exact ⟨_,rfl,r⟩
 | _,_,i + 1,x,.cons _ t,e=>by
  obtain ⟨u,h1,h2⟩:=Vals.get (i:=i) (x:=x) t (by simpa using e)
  exact ⟨u,by simpa using h1,h2⟩
theorem Vals.set {x:V} {u:Value} (r:RelV x u):∀ {xs:List V} {us:List Value} (i:Nat),Vals xs us→Vals (xs.set i x) (us.set i u)
 | _,_,_,.nil=>.nil
 | _,_,0,.cons _ t=>.cons r t
 | _,_,i + 1,.cons q t=>.cons q (Vals.set r i t)
theorem Vals.append:∀ {xs ys:List V} {us ws:List Value},Vals xs us→Vals ys ws→Vals (xs ++ ys) (us ++ ws)
 | _,_,_,_,.nil,s=>s
 | _,_,_,_,.cons r t,s=>.cons r (Vals.append t s)
theorem Vals.take:∀ {xs:List V} {us:List Value} (n:Nat),Vals xs us→Vals (xs.take n) (us.take n)
 | _,_,0,_=>.nil
 | _,_,_ + 1,.nil=>.nil
 | _,_,n + 1,.cons r t=>.cons r (Vals.take n t)
theorem Vals.drop:∀ {xs:List V} {us:List Value} (n:Nat),Vals xs us→Vals (xs.drop n) (us.drop n)
 | _,_,0,r=>r
 | _,_,_ + 1,.nil=>.nil
 | _,_,n + 1,.cons _ t=>Vals.drop n t
def RelO:Option V→Option Value→Prop
 | some v,some u=>RelV v u
 | none,none=>True
 | _,_=>False
def KV {κ:Type}:List (κ × V)→List (κ × Value)→Prop:=Paired fun (p:κ × V) (q:κ × Value)=>p.1 = q.1∧RelV p.2 q.2
def kV:Key→V
 | .inl i=>.int i
 | .inr x=>.str x
inductive HO where
 | lst (xs:List V)
 | tup (xs:List V)
 | dK (kvs:List (Key × V)) | dT (kvs:List (List Key × V))
 | set (S:Int→Bool) (n:Nat)
 | ins (C dx:Addr) (fs:List (Str × V))
 | own (x:Addr)
 | xd (fs:List (Str × V))
 | met (f x:Addr)
 | rng (lo hi:Int)
 | frz (o:Obj) (u:HO)
 | tbl (ps:Array Value)
 | ext (φ:Heap→Prop)
abbrev Hp:=Addr→Option HO
def upd (H:Hp) (a:Addr) (o:HO):Hp:=fun b=>if b = a then some o else H b
theorem upd_same {H:Hp} {a:Addr} {o:HO}:upd H a o a = some o:=by unfold upd; rw [if_pos rfl]
theorem upd_ne {H:Hp} {a b:Addr} {o:HO} (h:b ≠ a):upd H a o b = H b:=by unfold upd; rw [if_neg h]
theorem upd_upd {H:Hp} {a:Addr} {o u:HO}:upd (upd H a o) a u = upd H a u:=by
 funext b; unfold upd; split <;> rfl
theorem ne_of {H:Hp} {a b:Addr} {o u:HO} (h:H a = some o) (h':H b = some u) (d:o ≠ u):a ≠ b:=by
 intro e; subst e; rw [h] at h'; exact d (Option.some.inj h')
theorem ne_of_none {H:Hp} {a b:Addr} {o:HO} (h:H a = some o) (h':H b = none):a ≠ b:=by
 intro e; subst e; rw [h] at h'; cases h'
section
variable (P:Program) (w:World)
def ObjOk (H:Hp) (h:Heap) (a:Addr):HO→Prop
 | .lst xs=>xs.length ≤ sizeLine∧∃ (its:List Value) (n:Nat),Vals xs its∧h.get? a = some { cls:=.type "list",data:=.seq its.toArray n }
 | .tup xs=>xs.length ≤ sizeLine∧∃ its:List Value,Vals xs its∧IsTup h a its.toArray
 | .dK kvs=>kvs.length ≤ sizeLine∧(a == sysModules) = false∧∃ vs,KV kvs vs∧h.DictOf (mixKind P w) a vs
 | .dT kvs=>kvs.length ≤ sizeLine∧(a == sysModules) = false∧∃ xs:List (List Key × Addr × Value),
   Paired (fun (p:List Key × V) (q:List Key × Addr × Value)=>p.1 = q.1∧H q.2.1 = some (.tup (p.1.map kV))∧RelV p.2 q.2.2) kvs xs ∧
   ∃ o es ep,h.get? a = some o∧o.ExactDict∧o.data = .dict es ep∧es.toList = xs.map (entryOfKey (tupleKind (mixKind P w)))∧(xs.map (·.1)).Nodup
 | .set S n=>h.SetOf (intKind P w) a S n
 | .ins C dx fs=>H dx = some (.own a)∧fs.length ≤ 1000∧dx ≠ a∧h.get? a = some (PySem.W.instObj C dx) ∧
   ∃ mA,h.Ns1 dx mA∧(∀ f,RelO (fs.lookup f) (mA f))∧PySem.Within mA (fs.map (·.1))
 | .own _=>∃ o,h.get? a = some o
 | .xd fs=>∃ mA,h.Ns1 a mA∧∀ f,RelO (fs.lookup f) (mA f)
 | .rng lo hi=>∃ t u v,h.get? a = some { cls:=.type "range",data:=.fields #[.int lo t,.int hi u,.int 1 v] }
 | .frz o u=>h.get? a = some o∧ObjOk H h a u
 | .tbl ps=>h.get? a = some { cls:=.none,data:=.fields ps }
 | .met f x=>h.get? a = some (PySem.W.methodObj (.ref f) (.ref x))
 | .ext φ=>φ h∧(∃ o,h.get? a = some o)∧∀ h1 h2:Heap,φ h1→(∀ o,h1.get? a = some o→h2.get? a = some o)→φ h2
def HOk (H:Hp) (h:Heap):Prop:=∀ a o,H a = some o→ObjOk P w H h a o
end
section
variable {P:Program} {w:World} {H H':Hp} {h h':Heap} {a:Addr} {o:HO}
theorem ObjOk.lt (x:ObjOk P w H h a o):a < h.objs.size:=by
 cases o with
 | lst xs=>obtain ⟨_,_,_,_,e⟩:=x; exact Heap.lt_size e
 | tup xs=>obtain ⟨_,_,_,p⟩:=x; exact p.lt
 | dK kvs=>obtain ⟨_,_,_,_,o,_,_,e,_⟩:=x; exact Heap.lt_size e
 | dT kvs=>obtain ⟨_,_,_,_,o,_,_,e,_⟩:=x; exact Heap.lt_size e
 | set S n=>obtain ⟨o,_,_,_,e,_⟩:=x; exact Heap.lt_size e
 | ins C dx fs=>obtain ⟨_,_,_,e,_⟩:=x; exact Heap.lt_size e
 | own y=>obtain ⟨_,e⟩:=x; exact Heap.lt_size e
 | xd fs=>obtain ⟨_,⟨_,_,_,e,_⟩,_⟩:=x; exact Heap.lt_size e
 | rng lo hi=>obtain ⟨_,_,_,e⟩:=x; exact Heap.lt_size e
 | frz ob u=>obtain ⟨e,_⟩:=x; exact Heap.lt_size e
 | tbl ps=>exact Heap.lt_size (show h.get? a = some _ from x)
 | met f y=>exact Heap.lt_size (show h.get? a = some _ from x)
 | ext φ=>obtain ⟨_,⟨_,e⟩,_⟩:=x; exact Heap.lt_size e
theorem Paired.mapP {α β:Type} {F G:α→β→Prop}:∀ {l₁:List α} {l₂:List β},Paired F l₁ l₂→(∀ a b,F a b→G a b)→Paired G l₁ l₂
 | _,_,.nil,_=>.nil
 | _,_,.cons r t,f=>.cons (f _ _ r) (Paired.mapP t f)
theorem ObjOk.stay (x:ObjOk P w H h a o) (k:∀ b u,(b = a ∨ H b = some (.own a))→h.get? b = some u→h'.get? b = some u)
  (ho:∀ b,H b = some (.own a)→H' b = some (.own a)) (ht:∀ b xs,H b = some (.tup xs)→H' b = some (.tup xs)):ObjOk P w H' h' a o:=by
 induction o with
 | lst xs=>obtain ⟨z,its,n,r,e⟩:=x; exact ⟨z,its,n,r,k _ _ (.inl rfl) e⟩
 | tup xs=>obtain ⟨z,its,r,ob,e,c⟩:=x; exact ⟨z,its,r,ob,k _ _ (.inl rfl) e,c⟩
 | dK kvs=>obtain ⟨z,y,vs,r,ob,es,ep,e,c⟩:=x; exact ⟨z,y,vs,r,ob,es,ep,k _ _ (.inl rfl) e,c⟩
 | dT kvs =>
  obtain ⟨z,y,xs,r,ob,es,ep,e,c⟩:=x
  exact ⟨z,y,xs,Paired.mapP r fun p q z=>⟨z.1,ht _ _ z.2.1,z.2.2⟩,ob,es,ep,k _ _ (.inl rfl) e,c⟩
 | set S n=>obtain ⟨ob,es,ep,t,e,c⟩:=x; exact ⟨ob,es,ep,t,k _ _ (.inl rfl) e,c⟩
 | ins C dx fs =>
  obtain ⟨d,z,ne,e,mA,⟨od,es,ep,e2,c⟩,r⟩:=x
  exact ⟨ho _ d,z,ne,k _ _ (.inl rfl) e,mA,⟨od,es,ep,k _ _ (.inr d) e2,c⟩,r⟩
 | own y=>obtain ⟨ob,e⟩:=x; exact ⟨ob,k _ _ (.inl rfl) e⟩
 | xd fs=>obtain ⟨mA,⟨od,es,ep,e,c⟩,r⟩:=x; exact ⟨mA,⟨od,es,ep,k _ _ (.inl rfl) e,c⟩,r⟩
 | rng lo hi=>obtain ⟨t,u,v,e⟩:=x; exact ⟨t,u,v,k _ _ (.inl rfl) e⟩
 | frz ob u ih=>obtain ⟨e,q⟩:=x; exact ⟨k _ _ (.inl rfl) e,ih q⟩
 | tbl ps =>
  have e:h.get? a = some { cls:=.none,data:=.fields ps }:=x
  show h'.get? a = some { cls:=.none,data:=.fields ps }
  exact k a _ (.inl rfl) e
 | met f y =>
  have e:h.get? a = some (PySem.W.methodObj (.ref f) (.ref y)):=x
  show h'.get? a = some (PySem.W.methodObj (.ref f) (.ref y))
  exact k a _ (.inl rfl) e
 | ext φ=>obtain ⟨p,⟨o,e⟩,st⟩:=x; exact ⟨st _ _ p fun o q=>k _ _ (.inl rfl) q,⟨o,k _ _ (.inl rfl) e⟩,st⟩
theorem HOk.lt (x:HOk P w H h) (e:H a = some o):a < h.objs.size:=(x a o e).lt
theorem HOk.fresh (x:HOk P w H h) (e:h.objs.size ≤ a):H a = none:=by
 cases q:H a with
 | none=>rfl
 | some u=>exact absurd (Nat.lt_of_lt_of_le (x.lt q) e) (Nat.lt_irrefl _)
theorem HOk.kept (x:HOk P w H h) (k:∀ b u,h.get? b = some u→h'.get? b = some u):HOk P w H h':=fun a o e =>
 (x a o e).stay (fun b u _ q=>k b u q) (fun _ q=>q) fun _ _ q=>q
theorem HOk.laid (x:HOk P w H h) (k:∀ b u,h.get? b = some u→h'.get? b = some u) (hp:h.objs.size ≤ a) (new:ObjOk P w (upd H a o) h' a o):HOk P w (upd H a o) h':=fun b u e=>by
 have hn:=x.fresh hp
 by_cases hb:b = a
 ·subst hb; rw [upd_same] at e; cases e; exact new
 ·rw [upd_ne hb] at e
  exact (x b u e).stay (fun c v _ q=>k c v q) (fun c q=>by rw [upd_ne (ne_of_none q hn)]; exact q) fun c xs q=>by rw [upd_ne (ne_of_none q hn)]; exact q
end
def Rd (H:Hp) (a:Addr) (u:HO):Prop:=H a = some u ∨ ∃ o,H a = some (.frz o u)
theorem Rd.of {H:Hp} {a:Addr} {u:HO} (h:H a = some u):Rd H a u:=.inl h
theorem Rd.ok {P:Program} {w:World} {H:Hp} {h:Heap} {a:Addr} {u:HO} (r:Rd H a u) (x:HOk P w H h):ObjOk P w H h a u:=by
 rcases r with r | ⟨o,r⟩
 ·exact x a u r
 ·obtain ⟨_,q⟩:=x a _ r
  exact q
def Mut:Option HO→Prop
 | some (.lst _)=>True
 | some (.dK _)=>True
 | some (.dT _)=>True
 | some (.set _ _)=>True
 | some (.ins _ _ _)=>True
 | some (.ext _)=>True
 | _=>False
section
variable {P:Program} {w:World} {H:Hp} {h h':Heap} {x e:Addr} {o':HO}
theorem HOk.write (ok:HOk P w H h) (mu:Mut (H x)) (he:e = x ∨ H e = some (.own x)) (k:∀ b u,b ≠ e→h.get? b = some u→h'.get? b = some u) (heo:∃ u,h'.get? e = some u)
  (new:ObjOk P w (upd H x o') h' x o'):HOk P w (upd H x o') h':=fun b u q=>by
 have nown:∀ c y,H c = some (.own y)→c ≠ x:=fun c y r z=>by subst z; rw [r] at mu; exact mu
 have ntup:∀ c xs,H c = some (.tup xs)→c ≠ x:=fun c xs r z=>by subst z; rw [r] at mu; exact mu
 by_cases hb:b = x
 ·subst hb; rw [upd_same] at q; cases q; exact new
 ·rw [upd_ne hb] at q
  by_cases hbe:b = e
  ·have q':H b = some (.own x):=by
    rcases he with z | z
    ·exact absurd (hbe.trans z) hb
    ·rw [hbe]; exact z
   rw [q] at q'; cases q'
   obtain ⟨v,hv⟩:=heo
   exact ⟨v,by rw [hbe]; exact hv⟩
  ·refine (ok b u q).stay (fun c v hc r=>k c v ?_ r) (fun c r=>by rw [upd_ne (nown c b r)]; exact r) fun c xs r=>by rw [upd_ne (ntup c xs r)]; exact r
   rcases hc with rfl | hc
   ·exact hbe
   ·rintro rfl
    rcases he with z | z
    ·exact nown c b hc z
    ·rw [hc] at z; cases z; exact hb rfl
end
structure Un (fs ex:List Addr) (H H':Hp) (h h':Heap):Prop where
 keep:∀ b o,h.get? b = some o→H b = none→b ∉ fs→b ∉ ex→h'.get? b = some o
 slot:∀ b o,h.get? b = some o→H b = none→b ∈ fs→b ∉ ex→∃ sl,h'.get? b = some { o with slots:=sl }
 free:∀ b o,h.get? b = some o→H b = none→b ∉ ex→H' b = none
 there:∀ b o,h.get? b = some o→b ∉ ex→∃ o',h'.get? b = some o'
 tups:∀ b xs,H b = some (.tup xs)→H' b = some (.tup xs)
 frzs:∀ b o u,H b = some (.frz o u)→H' b = some (.frz o u)
 tbls:∀ b ps,H b = some (.tbl ps)→∃ more,H' b = some (.tbl (ps ++ more))
section
variable {fs fs' ex ex':List Addr} {H H1 H2:Hp} {h h1 h2 h':Heap} {a x e:Addr} {o:HO}
theorem Un.any (u:Un fs ex H H1 h h1) {b:Addr} {ob:Obj} (q:h.get? b = some ob) (n:H b = none) (hx:b ∉ ex):∃ sl,h1.get? b = some { ob with slots:=sl }:=by
 by_cases hb:b ∈ fs
 ·exact u.slot b ob q n hb hx
 ·exact ⟨ob.slots,u.keep b ob q n hb hx⟩
theorem Un.trans (a:Un fs ex H H1 h h1) (b:Un fs ex H1 H2 h1 h2):Un fs ex H H2 h h2 where
 keep:=fun c ob q n hc hx=>b.keep c ob (a.keep c ob q n hc hx) (a.free c ob q n hx) hc hx
 slot:=fun c ob q n hc hx=>by
  obtain ⟨sl,e1⟩:=a.slot c ob q n hc hx
  obtain ⟨sl',e2⟩:=b.slot c _ e1 (a.free c ob q n hx) hc hx
  exact ⟨sl',e2⟩
 free:=fun c ob q n hx=>by
  obtain ⟨o',e1⟩:=a.there c ob q hx
  exact b.free c o' e1 (a.free c ob q n hx) hx
 there:=fun c ob q hx=>by
  obtain ⟨o',e1⟩:=a.there c ob q hx
  exact b.there c o' e1 hx
 tups:=fun c xs q=>b.tups c xs (a.tups c xs q)
 frzs:=fun c ob xs q=>b.frzs c ob xs (a.frzs c ob xs q)
 tbls:=fun c ps q=>by
  obtain ⟨m1,e1⟩:=a.tbls c ps q
  obtain ⟨m2,e2⟩:=b.tbls c _ e1
  exact ⟨m1 ++ m2,by rw [e2,Array.append_assoc]⟩
theorem Un.kept (k:∀ b u,h.get? b = some u→h'.get? b = some u):Un fs ex H H h h' :=
 ⟨fun b ob q _ _ _=>k b ob q,fun b ob q _ _ _=>⟨ob.slots,k b ob q⟩,fun _ _ _ n _=>n,fun b ob q _=>⟨ob,k b ob q⟩,fun _ _ q=>q,fun _ _ _ q=>q,fun _ ps q=>⟨#[],by rw [q]; simp⟩⟩
theorem Un.refl:Un fs ex H H h h:=Un.kept fun _ _ q=>q
theorem Un.laid (k:∀ b u,h.get? b = some u→h'.get? b = some u) (hp:h.objs.size ≤ a) (hn:H a = none):Un fs ex H (upd H a o) h h' where
 keep:=fun b u q _ _ _=>k b u q
 slot:=fun b u q _ _ _=>⟨u.slots,k b u q⟩
 free:=fun b u q n _=>by rw [upd_ne (Nat.ne_of_lt (Nat.lt_of_lt_of_le (Heap.lt_size q) hp))]; exact n
 there:=fun b u q _=>⟨u,k b u q⟩
 tups:=fun b xs q=>by rw [upd_ne (ne_of_none q hn)]; exact q
 frzs:=fun b u xs q=>by rw [upd_ne (ne_of_none q hn)]; exact q
 tbls:=fun b ps q=>⟨#[],by rw [upd_ne (ne_of_none q hn),q]; simp⟩
theorem Un.write (mu:Mut (H x)) (he:e = x ∨ H e = some (.own x)) (k:∀ b u,b ≠ e→h.get? b = some u→h'.get? b = some u) (heo:∃ u,h'.get? e = some u):Un fs ex H (upd H x o) h h':=by
 have hx:∀ b,H b = none→b ≠ x:=fun b n z=>by subst z; rw [n] at mu; exact mu
 have hb:∀ b,H b = none→b ≠ e:=fun b n z=>by
  subst z
  rcases he with r | r
  ·exact hx b n r
  ·rw [n] at r; cases r
 have hm:∀ b u,H b = some u→¬ Mut (some u)→b ≠ x:=fun b u q nm z=>by subst z; rw [q] at mu; exact nm mu
 refine ⟨fun b u q n _ _=>k b u (hb b n) q,fun b u q n _ _=>⟨u.slots,k b u (hb b n) q⟩,fun b u q n _=>by rw [upd_ne (hx b n)]; exact n,fun b u q _=>?_,
  fun b xs q=>by rw [upd_ne (hm b _ q fun z=>z)]; exact q,fun b u xs q=>by rw [upd_ne (hm b _ q fun z=>z)]; exact q,fun b ps q=>⟨#[],by rw [upd_ne (hm b _ q fun z=>z),q]; simp⟩⟩
 by_cases hbe:b = e
 ·subst hbe; exact heo
 ·exact ⟨u,k b u hbe q⟩
theorem Un.mono (u:Un fs ex H H1 h h1) (hs:∀ b ∈ fs,b ∈ fs') (hx:∀ b ∈ ex,b ∈ ex'):Un fs' ex' H H1 h h1 :=
 ⟨fun b ob q n hb he=>u.keep b ob q n (fun z=>hb (hs b z)) fun z=>he (hx b z),fun _ _ q n _ he=>u.any q n fun z=>he (hx _ z),fun b ob q n he=>u.free b ob q n fun z=>he (hx b z),fun b ob q he=>u.there b ob q fun z=>he (hx b z),u.tups,u.frzs,u.tbls⟩
end
def trk (h:Heap) (H:Hp):List Addr:=(List.range h.objs.size).filter fun a=>(H a).isSome
def hidT (h:Heap) (H:Hp):Heap:=PySem.W.hideAll h (trk h H)
theorem hidT_size (h:Heap) (H:Hp):(hidT h H).objs.size = h.objs.size:=PySem.W.hideAll_size _ _
theorem hidT_get {h:Heap} {H:Hp} {b:Addr} {o:Obj} (e:h.get? b = some o) (n:H b = none):(hidT h H).get? b = some o :=
 PySem.W.hideAll_get _ e fun hm=>by
  have q:(H b).isSome = true:=(List.mem_filter.mp hm).2
  rw [n] at q; simp at q
theorem of_hidT {h:Heap} {H:Hp} {b:Addr} {o:Obj} (e:(hidT h H).get? b = some o):h.get? b = some o∧H b = none:=by
 have e':h.get? b = some o:=PySem.W.of_hideAll (trk h H) e
 refine ⟨e',?_⟩
 cases q:H b with
 | none=>rfl
 | some x =>
  have hm:b ∈ trk h H:=List.mem_filter.mpr ⟨List.mem_range.mpr (Heap.lt_size e'),by simp [q]⟩
  have z:(hidT h H).get? b = none:=PySem.W.hideAll_none (trk h H) hm
  rw [z] at e; cases e
def allNews (g h:Heap) (L:Addr):List (Addr × Obj):=(List.range h.objs.size).filterMap fun a=>if a = L ∨ (g.get? a).isSome = true then none else (h.get? a).map fun o=>(a,o)
def rest (g h:Heap) (L d:Addr):List (Addr × Obj):=(allNews g h L).filter fun p=>decide (p.1 ≠ d)
structure Mod (K:PySem.W.Frag) (mg:Str→Option Value) (base:Heap):Prop where
 kin:K.In base
 glob:base.Ns mainGlobals mg
 blt:∃ mb,base.Ns builtinsNs mb∧∀ x:Str,x ≠ "__name__" → mb x = bootBuiltins x
 nolimit:base.NoLimit
structure Cx where
 prog:Program
 w:World
 K:PySem.W.Frag
 mg:Str→Option Value
 base:Heap
 A:Around
 N:List Str
 s₀:Shared
 H₀:Hp
 env:Env
 outer:List Env
 stack:List Env
 ex:List Addr
 fn:Str→Bool
 calm:Bool
 pn:List (Addr × Obj)
 xe:Value→Shared→Prop
def frs (l:List Env):List Addr:=l.filterMap (·.frame)
abbrev Cx.fs (X:Cx):List Addr:=frs X.outer
def Vis (sc:Scope) (x:Str):Prop:=sc.names.lookup x = some .local ∨ sc.names.lookup x = some .cell ∨ sc.names.lookup x = some .free
def Loc (sc:Scope) (x:Str):Prop:=sc.names.lookup x = some .local ∨ sc.names.lookup x = some .cell
def Look (env:Env) (h:Heap) (m:Str→Option Value) (x:Str) (u:Value):Prop :=
 (env.kindOf x = some .local∧m x = some u) ∨ ((env.kindOf x = some .cell ∨ env.kindOf x = some .free)∧∃ c,env.cells.lookup x = some c∧h.IsCell c (some u))
structure Cx.Ok (X:Cx):Prop where
 mod:Mod X.K X.mg X.base
 kind:X.env.scope.kind = .function
 glob:X.env.globals = mainGlobals
 blt:X.env.builtins = builtinsNs
 above:X.s₀.heap.objs.size ≤ X.env.locals
 inj:∀ x y c,X.env.cells.lookup x = some c→X.env.cells.lookup y = some c→x = y
 has:∀ x,(X.env.kindOf x = some .cell ∨ X.env.kindOf x = some .free)→∃ c,X.env.cells.lookup x = some c
 cab:∀ x c,X.fn x = true→X.env.cells.lookup x = some c→X.s₀.heap.objs.size ≤ c
 hd:X.calm = true→X.A.handled = none
 frames:X.A.frames = some X.stack
 stk:X.stack = X.outer ∨ (X.stack = X.env :: X.outer∧X.env.frame = some X.env.locals)
 exf:∀ b ∈ X.ex,b ≠ X.env.locals∧∀ x c,X.env.cells.lookup x = some c→c ≠ b
 bs:∀ b o,X.base.get? b = some o→X.s₀.heap.get? b = some o∧X.H₀ b = none
 bsz:X.base.objs.size ≤ X.s₀.heap.objs.size
 noex:∀ b o,X.base.get? b = some o→b ∉ X.ex
 exfs:∀ b ∈ X.ex,b ∉ X.fs
 funs:X.s₀.heap.FunFrames X.base X.outer
 frf:∀ b ∈ X.fs,X.H₀ b = none
structure Inv (X:Cx) (pins:List (Addr × Obj)) (σ:List (Option V)) (H:Hp) (s:Shared):Prop where
 ok:X.Ok
 os:s.os = X.s₀.os
 bare:AllBare s.gens
 base:Un X.fs X.ex X.H₀ H X.s₀.heap s.heap
 loc:∃ m,s.heap.Ns X.env.locals m∧∀ (i:Nat) (x:Str) (v:V),X.N[i]? = some x→σ[i]? = some (some v)→Vis X.env.scope x→∃ u,RelV v u∧Look X.env s.heap m x u
 cell:∀ x c,X.env.cells.lookup x = some c→∃ v,s.heap.IsCell c v
 free:H X.env.locals = none
 freeC:∀ x c,X.env.cells.lookup x = some c→H c = none
 pin:∀ p ∈ X.pn ++ pins,s.heap.get? p.1 = some p.2∧H p.1 = none∧p.1 ≠ X.env.locals∧p.1 ∉ X.fs∧∀ v,p.2.data ≠ .cell v
 hok:HOk X.prog X.w H s.heap
 len:σ.length = X.N.length
section
variable {X:Cx} {pins:List (Addr × Obj)} {σ:List (Option V)} {H H':Hp} {s:Shared} {h':Heap}
theorem Cx.Ok.nofr (ok:X.Ok) {b:Addr} {o:Obj} (e:X.base.get? b = some o):b ∉ X.fs:=fun hb=>by
 have:=(ok.funs.mem hb).1
 rw [e] at this; cases this
theorem Inv.bs (I:Inv X pins σ H s):∀ b o,X.base.get? b = some o→s.heap.get? b = some o∧H b = none:=fun b o e =>
 ⟨I.base.keep b o (I.ok.bs b o e).1 (I.ok.bs b o e).2 (I.ok.nofr e) (I.ok.noex b o e),I.base.free b o (I.ok.bs b o e).1 (I.ok.bs b o e).2 (I.ok.noex b o e)⟩
theorem Inv.bk (I:Inv X pins σ H s):∀ b o,X.base.get? b = some o→s.heap.get? b = some o:=fun b o e=>(I.bs b o e).1
theorem Inv.mod (I:Inv X pins σ H s):Mod X.K X.mg X.base:=I.ok.mod
theorem Inv.kIn (I:Inv X pins σ H s):X.K.In s.heap:=I.ok.mod.kin.keeps I.bk
theorem Inv.nolimit (I:Inv X pins σ H s):s.heap.NoLimit:=I.ok.mod.nolimit.keeps I.bk
theorem Inv.fr (I:Inv X pins σ H s):∃ m,Fr X.base X.env.locals s.heap m :=
 let ⟨m,hn,_⟩:=I.loc
 ⟨m,hn,I.bk,Nat.le_trans I.ok.bsz I.ok.above⟩
theorem Inv.lt (I:Inv X pins σ H s):X.env.locals < s.heap.objs.size:=let ⟨_,hn,_⟩:=I.loc; hn.lt
theorem Inv.sz (I:Inv X pins σ H s):X.s₀.heap.objs.size ≤ s.heap.objs.size:=Nat.le_trans I.ok.above (Nat.le_of_lt I.lt)
theorem Inv.nofs (I:Inv X pins σ H s) {a:Addr} (h:s.heap.objs.size ≤ a):a ∉ X.fs:=fun hb=>by
 obtain ⟨_,o,ho,_⟩:=I.ok.funs.mem hb
 exact absurd (Nat.lt_of_lt_of_le (Heap.lt_size ho) (Nat.le_trans I.sz h)) (Nat.lt_irrefl _)
theorem Inv.cne (I:Inv X pins σ H s):∀ x c,X.env.cells.lookup x = some c→c ≠ X.env.locals:=fun x c e z=>by
 obtain ⟨v,o,ho,hd⟩:=I.cell x c e
 obtain ⟨m,⟨o',es,ep,ho',hd',_⟩,_⟩:=I.loc
 rw [z,ho'] at ho; cases ho; rw [hd'] at hd; cases hd
theorem Inv.funs (I:Inv X pins σ H s):s.heap.FunFrames X.base X.outer:=by
 have all:∀ (l:List Env),(∀ b ∈ frs l,b ∈ X.fs)→X.s₀.heap.FunFrames X.base l→s.heap.FunFrames X.base l:=by
  intro l
  induction l with
  | nil=>intro _ _; trivial
  | cons env r ih =>
   intro hs hl
   obtain ⟨hk,⟨L,o,hf,hn,ho,hd⟩,hr⟩:=hl
   have hL:L ∈ X.fs:=hs L (by unfold frs; rw [List.filterMap_cons,hf]; exact List.mem_cons_self)
   obtain ⟨sl,e⟩:=I.base.slot L o ho (I.ok.frf L hL) hL fun z=>I.ok.exfs L z hL
   exact ⟨hk,⟨L,_,hf,hn,e,hd⟩,ih (fun b hb=>hs b (by unfold frs; rw [List.filterMap_cons,hf]; exact List.mem_cons_of_mem _ hb)) hr⟩
 exact all X.outer (fun _ hb=>hb) I.ok.funs
theorem Inv.stack (I:Inv X pins σ H s):s.heap.FunFrames X.base X.stack:=by
 rcases I.ok.stk with e | ⟨e,hf⟩
 ·rw [e]; exact I.funs
 ·rw [e]
  obtain ⟨m,hn,_⟩:=I.loc
  refine .cons (by rw [I.ok.kind]; decide) hf hn ?_ I.funs
  exact Heap.get?_none_of_le (Nat.le_trans I.ok.bsz I.ok.above)
theorem Inv.stkSub (I:Inv X pins σ H s):∀ b ∈ frs X.stack,b ∈ X.env.locals :: X.fs:=fun b hb=>by
 rcases I.ok.stk with e | ⟨e,hf⟩
 ·rw [e] at hb; exact List.mem_cons_of_mem _ hb
 ·rw [e] at hb
  unfold frs at hb
  rw [List.filterMap_cons,hf] at hb
  exact hb
theorem Inv.stkFree (I:Inv X pins σ H s):∀ b ∈ frs X.stack,H b = none:=fun b hb=>by
 rcases List.mem_cons.mp (I.stkSub b hb) with e | hb
 ·rw [e]; exact I.free
 ·obtain ⟨_,o,ho,_⟩:=I.ok.funs.mem hb
  exact I.base.free b o ho (I.ok.frf b hb) fun z=>I.ok.exfs b z hb
theorem Inv.step {g':Array GenState} {t':Nat} {d':Drawn} {ch:List Addr} (I:Inv X pins σ H s)
  (hch:∀ b ∈ ch,(b ∈ X.ex ∨ X.s₀.heap.objs.size ≤ b)∧b ≠ X.env.locals∧(∀ x c,X.env.cells.lookup x = some c→c ≠ b)∧∀ p ∈ X.pn ++ pins,p.1 ≠ b)
  (keep:∀ b o,b ≠ X.env.locals→b ∉ X.fs→b ∉ ch→s.heap.get? b = some o→H b = none→h'.get? b = some o)
  (slot:∀ b o,b ≠ X.env.locals→b ∈ X.fs→b ∉ ch→s.heap.get? b = some o→H b = none→∃ sl,h'.get? b = some { o with slots:=sl }) (free:∀ b o,b ∉ ch→s.heap.get? b = some o→H b = none→H' b = none)
  (there:∀ b o,b ∉ ch→s.heap.get? b = some o→∃ o',h'.get? b = some o')
  (tups:∀ b xs,H b = some (.tup xs)→H' b = some (.tup xs)) (frzs:∀ b o u,H b = some (.frz o u)→H' b = some (.frz o u)) (tbls:∀ b ps,H b = some (.tbl ps)→∃ more,H' b = some (.tbl (ps ++ more)))
  (ns:∀ m,s.heap.Ns X.env.locals m→h'.Ns X.env.locals m) (hok:HOk X.prog X.w H' h') (hg:AllBare g') :
  Inv X pins σ H' { s with heap:=h',gens:=g',drawn:=d',toks:=t' }:=by
 have neL:∀ b o,X.s₀.heap.get? b = some o→b ≠ X.env.locals:=fun b o e=>Nat.ne_of_lt (Nat.lt_of_lt_of_le (Heap.lt_size e) I.ok.above)
 have neC:∀ b o,X.s₀.heap.get? b = some o→b ∉ X.ex→b ∉ ch:=fun b o e hx hb=>by
  rcases (hch b hb).1 with z | z
  ·exact hx z
  ·exact absurd (Nat.lt_of_lt_of_le (Heap.lt_size e) z) (Nat.lt_irrefl _)
 have cellK:∀ x c,X.env.cells.lookup x = some c→∀ v,s.heap.IsCell c v→h'.IsCell c v:=fun x c e v ⟨o,ho,hd⟩=>by
  have nch:c ∉ ch:=fun z=>(hch c z).2.2.1 x c e rfl
  by_cases hc:c ∈ X.fs
  ·obtain ⟨sl,q⟩:=slot c o (I.cne x c e) hc nch ho (I.freeC x c e)
   exact ⟨_,q,hd⟩
  ·exact ⟨o,keep c o (I.cne x c e) hc nch ho (I.freeC x c e),hd⟩
 refine ⟨I.ok,I.os,hg,⟨fun b o e n hb hx=>?_,fun b o e n hb hx=>?_,fun b o e n hx=>?_,fun b o e hx=>?_,fun b xs e=>tups b xs (I.base.tups b xs e),fun b o xs e=>frzs b o xs (I.base.frzs b o xs e),fun b ps e=>?_⟩,?_,fun x c e=>?_,?_,fun x c e=>?_,fun p hp=>?_,hok,I.len⟩
 ·exact keep b o (neL b o e) hb (neC b o e hx) (I.base.keep b o e n hb hx) (I.base.free b o e n hx)
 ·obtain ⟨sl,e1⟩:=I.base.slot b o e n hb hx
  obtain ⟨sl',e2⟩:=slot b _ (neL b o e) hb (neC b o e hx) e1 (I.base.free b o e n hx)
  exact ⟨sl',e2⟩
 ·obtain ⟨o',e1⟩:=I.base.there b o e hx
  exact free b o' (neC b o e hx) e1 (I.base.free b o e n hx)
 ·obtain ⟨o',e1⟩:=I.base.there b o e hx
  exact there b o' (neC b o e hx) e1
 ·obtain ⟨m1,e1⟩:=I.base.tbls b ps e
  obtain ⟨m2,e2⟩:=tbls b _ e1
  exact ⟨m1 ++ m2,by rw [e2,Array.append_assoc]⟩
 ·obtain ⟨m,hn,hl⟩:=I.loc
  refine ⟨m,ns m hn,fun i x v e1 e2 e3=>?_⟩
  obtain ⟨u,r,l⟩:=hl i x v e1 e2 e3
  refine ⟨u,r,?_⟩
  rcases l with l | ⟨k,c,e,z⟩
  ·exact .inl l
  ·exact .inr ⟨k,c,e,cellK x c e _ z⟩
 ·obtain ⟨v,z⟩:=I.cell x c e
  exact ⟨v,cellK x c e v z⟩
 ·obtain ⟨m,⟨o,_,_,ho,_⟩,_⟩:=I.loc
  exact free _ o (fun z=>(hch _ z).2.1 rfl) ho I.free
 ·obtain ⟨v,o,ho,hd⟩:=I.cell x c e
  exact free c o (fun z=>(hch c z).2.2.1 x c e rfl) ho (I.freeC x c e)
 ·obtain ⟨e,n,ne,nf,d⟩:=I.pin p hp
  have nch:p.1 ∉ ch:=fun z=>(hch p.1 z).2.2.2 p hp rfl
  exact ⟨keep p.1 p.2 ne nf nch e n,free p.1 p.2 nch e n,ne,nf,d⟩
theorem Inv.un {t':Nat} (I:Inv X pins σ H s) (u:Un X.fs [] H H' s.heap h') (hok:HOk X.prog X.w H' h'):Inv X pins σ H' { s with heap:=h',toks:=t' }:=by
 obtain ⟨m,⟨o,es,ep,ho,r⟩,_⟩:=id I.loc
 obtain ⟨sl,hL⟩:=u.any ho I.free (by simp)
 exact I.step (g':=s.gens) (d':=s.drawn) (ch:=[]) (fun _ z=>nomatch z) (fun b o _ hb _ e n=>u.keep b o e n hb (by simp)) (fun b o _ hb _ e n=>u.slot b o e n hb (by simp)) (fun b o _ e n=>u.free b o e n (by simp)) (fun b o _ e=>u.there b o e (by simp)) u.tups u.frzs u.tbls (fun m' hm=>by
  obtain ⟨o',es',ep',ho',r'⟩:=hm
  rw [ho] at ho'; cases ho'
  exact ⟨_,es',ep',hL,r'⟩) hok I.bare
theorem Inv.call {g':Array GenState} {t':Nat} {d':Drawn} {ch:List Addr} (I:Inv X pins σ H s) (u:Un (frs X.stack) ch H H' s.heap h') (hok:HOk X.prog X.w H' h') (hg:AllBare g')
  (hch:∀ b ∈ ch,(b ∈ X.ex ∨ X.s₀.heap.objs.size ≤ b)∧b ≠ X.env.locals∧(∀ x c,X.env.cells.lookup x = some c→c ≠ b)∧∀ p ∈ X.pn ++ pins,p.1 ≠ b) :
  Inv X pins σ H' { s with heap:=h',gens:=g',drawn:=d',toks:=t' }:=by
 obtain ⟨m,⟨o,es,ep,ho,r⟩,_⟩:=id I.loc
 obtain ⟨sl,hL⟩:=u.any ho I.free fun z=>(hch _ z).2.1 rfl
 exact I.step (ch:=ch) hch (fun b o hL hb hc e n=>u.keep b o e n (fun z=>(List.mem_cons.mp (I.stkSub b z)).elim hL hb) hc) (fun b o _ _ hc e n=>u.any e n hc) (fun b o hc e n=>u.free b o e n hc) (fun b o hc e=>u.there b o e hc) u.tups u.frzs u.tbls (fun m' hm=>by
  obtain ⟨o',es',ep',ho',r'⟩:=hm
  rw [ho] at ho'; cases ho'
  exact ⟨_,es',ep',hL,r'⟩) hok hg
theorem Inv.turned {t':Nat} {it:Addr} (I:Inv X pins σ H s) (k:∀ b o,b ≠ it→s.heap.get? b = some o→h'.get? b = some o) (hn:H it = none) (hL:it ≠ X.env.locals)
  (h1:it ∈ X.ex ∨ X.s₀.heap.objs.size ≤ it) (h2:∀ x c,X.env.cells.lookup x = some c→c ≠ it) (h3:∀ p ∈ X.pn ++ pins,p.1 ≠ it):Inv X pins σ H { s with heap:=h',toks:=t' }:=by
 have nit:∀ b u,H b = some u→b ≠ it:=fun b u e z=>by rw [z,hn] at e; cases e
 refine I.step (g':=s.gens) (d':=s.drawn) (ch:=[it]) (fun b hb=>?_) (fun b o _ _ hc e _=>k b o (fun z=>hc (by simp [z])) e) (fun b o _ _ hc e _=>⟨o.slots,k b o (fun z=>hc (by simp [z])) e⟩) (fun _ _ _ _ n=>n)
  (fun b o hc e=>⟨o,k b o (fun z=>hc (by simp [z])) e⟩) (fun _ _ e=>e) (fun _ _ _ e=>e) (fun b ps e=>⟨#[],by rw [e]; simp⟩) (fun m hm=>?_) (fun b u e=>?_) I.bare
 ·have e:b = it:=by simpa using hb
  subst e
  exact ⟨h1,hL,h2,h3⟩
 ·obtain ⟨o,es,ep,ho,r⟩:=hm
  exact ⟨o,es,ep,k _ o (Ne.symm hL) ho,r⟩
 ·refine (I.hok b u e).stay (fun c v hc q=>k c v ?_ q) (fun _ q=>q) fun _ _ q=>q
  rcases hc with z | z
  ·rw [z]; exact nit b u e
  ·exact nit c _ z
theorem Inv.tok (I:Inv X pins σ H s) (t:Nat):Inv X pins σ H { s with toks:=t }:=I.un (h':=s.heap) (t':=t) Un.refl I.hok
theorem Inv.kept {t':Nat} (I:Inv X pins σ H s) (k:∀ b u,s.heap.get? b = some u→h'.get? b = some u):Inv X pins σ H { s with heap:=h',toks:=t' }:=I.un (Un.kept k) (I.hok.kept k)
theorem Inv.laid {a:Addr} {o:HO} {t':Nat} (I:Inv X pins σ H s) (k:∀ b u,s.heap.get? b = some u→h'.get? b = some u) (hp:s.heap.objs.size ≤ a) (new:ObjOk X.prog X.w (upd H a o) h' a o) :
  Inv X pins σ (upd H a o) { s with heap:=h',toks:=t' }:=I.un (Un.laid k hp (I.hok.fresh hp)) (I.hok.laid k hp new)
theorem Inv.write {x e:Addr} {o:HO} {t':Nat} (I:Inv X pins σ H s) (mu:Mut (H x)) (he:e = x ∨ H e = some (.own x)) (k:∀ b u,b ≠ e→s.heap.get? b = some u→h'.get? b = some u) (heo:∃ u,h'.get? e = some u)
  (new:ObjOk X.prog X.w (upd H x o) h' x o):Inv X pins σ (upd H x o) { s with heap:=h',toks:=t' }:=I.un (Un.write mu he k heo) (I.hok.write mu he k heo new)
theorem Inv.weak {σ':List (Option V)} (I:Inv X pins σ H s) (hl:σ'.length = σ.length) (w:∀ (i:Nat) v,σ'[i]? = some (some v)→σ[i]? = some (some v)):Inv X pins σ' H s :=
 ⟨I.ok,I.os,I.bare,I.base,let ⟨m,hn,hl'⟩:=I.loc; ⟨m,hn,fun i x v e1 e2 e3=>hl' i x v e1 (w i v e2) e3⟩,I.cell,I.free,I.freeC,I.pin,I.hok,hl.trans I.len⟩
theorem Inv.pins_of {pins':List (Addr × Obj)} (I:Inv X pins σ H s) (h:∀ p ∈ pins',s.heap.get? p.1 = some p.2∧H p.1 = none∧p.1 ≠ X.env.locals∧p.1 ∉ X.fs∧∀ v,p.2.data ≠ .cell v):Inv X pins' σ H s :=
 ⟨I.ok,I.os,I.bare,I.base,I.loc,I.cell,I.free,I.freeC,fun p hp=>(List.mem_append.mp hp).elim (fun z=>I.pin p (List.mem_append_left _ z)) (h p),I.hok,I.len⟩
theorem nodup_ix {N:List Str} (hN:N.Nodup) {i j:Nat} {x:Str} (a:N[i]? = some x) (b:N[j]? = some x):i = j:=by
 obtain ⟨h1,e1⟩:=List.getElem?_eq_some_iff.mp a
 obtain ⟨h2,e2⟩:=List.getElem?_eq_some_iff.mp b
 exact (List.getElem_inj hN).mp (e1.trans e2.symm)
theorem store_ok2 {M:Model} {A:Around} {E:Value→Shared→Prop} {i:Nat} {x:Str} {v:V} {u:Value} {Q:Unit→Shared→Prop} (I:Inv X pins σ H s) (hN:X.N.Nodup) (hi:X.N[i]? = some x) (hx:Loc X.env.scope x) (r:RelV v u)
  (h:∀ s',Inv X pins (σ.set i (some v)) H s'→(∃ a,Heap.SameBut a s.heap s'.heap∧(a = X.env.locals ∨ X.env.cells.lookup x = some a))→Q () s') (hf:X.fn x = true ∨ X.env.scope.names.lookup x = some .local:=by first | exact .inl rfl | exact .inr rfl | assumption):wpAny M A (storeName X.env x u) Q E s:=by
 obtain ⟨m,hn,hl⟩:=id I.loc
 have hcls:(X.env.scope.kind == .class || (X.env.scope.kind == .module && X.env.locals != X.env.globals)) = false:=by rw [I.ok.kind]; rfl
 have hiσ:i < σ.length:=by rw [I.len]; exact (List.getElem?_eq_some_iff.mp hi).1
 have cne:=I.cne
 have tracked:∀ {a:Addr} {h':Heap},(∃ o,s.heap.get? a = some o∧H a = none)→Heap.SameBut a s.heap h'→HOk X.prog X.w H h':=fun {a h'} ha hs b ob e=>by
  obtain ⟨_,_,hfree⟩:=ha
  refine (I.hok b ob e).stay (fun c w' hc q=>(hs.2 c ?_).trans q) (fun _ q=>q) fun _ _ q=>q
  rintro rfl
  rcases hc with rfl | hc
  ·rw [hfree] at e; cases e
  ·rw [hfree] at hc; cases hc
 rcases hx with hk | hk
 ·refine wpAny_storeName_local hk hn (fun h' hn' hs=>?_) hcls
  obtain ⟨oL,_,_,hoL,_⟩:=id hn
  refine h _ ⟨I.ok,I.os,I.bare,⟨fun b o e n hb hx=>?_,fun b o e n hb hx=>?_,I.base.free,fun b o e hx=>?_,I.base.tups,I.base.frzs,I.base.tbls⟩,⟨_,hn',fun j y v' e1 e2 e3=>?_⟩,fun y c e=>?_,I.free,I.freeC,fun p hp=>?_,tracked ⟨oL,hoL,I.free⟩ hs,by simpa using I.len⟩ ⟨_,hs,.inl rfl⟩
  ·exact (hs.2 b (Nat.ne_of_lt (Nat.lt_of_lt_of_le (Heap.lt_size e) I.ok.above))).trans (I.base.keep b o e n hb hx)
  ·obtain ⟨sl,e1⟩:=I.base.slot b o e n hb hx
   exact ⟨sl,(hs.2 b (Nat.ne_of_lt (Nat.lt_of_lt_of_le (Heap.lt_size e) I.ok.above))).trans e1⟩
  ·obtain ⟨o',e1⟩:=I.base.there b o e hx
   exact ⟨o',(hs.2 b (Nat.ne_of_lt (Nat.lt_of_lt_of_le (Heap.lt_size e) I.ok.above))).trans e1⟩
  ·by_cases hj:j = i
   ·subst hj
    rw [hi] at e1; cases e1
    rw [List.getElem?_set_self hiσ] at e2
    cases e2
    exact ⟨u,r,.inl ⟨hk,by simp⟩⟩
   ·rw [List.getElem?_set_ne (Ne.symm hj)] at e2
    obtain ⟨u',r',q⟩:=hl j y v' e1 e2 e3
    refine ⟨u',r',?_⟩
    rcases q with ⟨k,e⟩ | ⟨k,c,e,z⟩
    ·refine .inl ⟨k,?_⟩
     have:y ≠ x:=fun e=>hj (nodup_ix hN e1 (e ▸ hi))
     simp [this,e]
    ·exact .inr ⟨k,c,e,z.sameBut hs (cne y c e)⟩
  ·obtain ⟨w',z⟩:=I.cell y c e
   exact ⟨w',z.sameBut hs (cne y c e)⟩
  ·obtain ⟨e,n,ne,nf,d⟩:=I.pin p hp
   exact ⟨(hs.2 p.1 ne).trans e,n,ne,nf,d⟩
 ·have hfn:X.fn x = true:=by
   rcases hf with z | z
   ·exact z
   ·rw [z] at hk; cases hk
  obtain ⟨c,hc⟩:=I.ok.has x (.inl hk)
  obtain ⟨w',z⟩:=I.cell x c hc
  refine wpAny_storeName_cell I.ok.kind hk hc z (fun h' hc' hs=>?_)
  obtain ⟨oc,hoc,hocd⟩:=id z
  refine h { s with heap:=h' } ⟨I.ok,I.os,I.bare,⟨fun b o e n hb hx=>?_,fun b o e n hb hx=>?_,I.base.free,fun b o e hx=>?_,I.base.tups,I.base.frzs,I.base.tbls⟩,⟨m,hn.sameBut hs (Ne.symm (cne x c hc)),fun j y v' e1 e2 e3=>?_⟩,fun y c' e=>?_,I.free,I.freeC,fun p hp=>?_,tracked ⟨oc,hoc,I.freeC x c hc⟩ hs,by simpa using I.len⟩ ⟨c,hs,.inr hc⟩
  ·exact (hs.2 b (Nat.ne_of_lt (Nat.lt_of_lt_of_le (Heap.lt_size e) (I.ok.cab x c hfn hc)))).trans (I.base.keep b o e n hb hx)
  ·obtain ⟨sl,e1⟩:=I.base.slot b o e n hb hx
   exact ⟨sl,(hs.2 b (Nat.ne_of_lt (Nat.lt_of_lt_of_le (Heap.lt_size e) (I.ok.cab x c hfn hc)))).trans e1⟩
  ·obtain ⟨o',e1⟩:=I.base.there b o e hx
   exact ⟨o',(hs.2 b (Nat.ne_of_lt (Nat.lt_of_lt_of_le (Heap.lt_size e) (I.ok.cab x c hfn hc)))).trans e1⟩
  ·by_cases hj:j = i
   ·subst hj
    rw [hi] at e1; cases e1
    rw [List.getElem?_set_self hiσ] at e2
    cases e2
    exact ⟨u,r,.inr ⟨.inl hk,c,hc,hc'⟩⟩
   ·rw [List.getElem?_set_ne (Ne.symm hj)] at e2
    obtain ⟨u',r',q⟩:=hl j y v' e1 e2 e3
    refine ⟨u',r',?_⟩
    rcases q with q | ⟨k,c',e,z'⟩
    ·exact .inl q
    ·refine .inr ⟨k,c',e,z'.sameBut hs ?_⟩
     rintro rfl
     exact hj (nodup_ix hN e1 (I.ok.inj _ _ _ e hc ▸ hi))
  ·by_cases hcc:c' = c
   ·subst hcc; exact ⟨_,hc'⟩
   ·obtain ⟨w2,z2⟩:=I.cell y c' e
    exact ⟨w2,z2.sameBut hs hcc⟩
  ·obtain ⟨e,n,ne,nf,d⟩:=I.pin p hp
   refine ⟨(hs.2 p.1 ?_).trans e,n,ne,nf,d⟩
   intro q
   rw [q,hoc] at e
   have q':oc = p.2:=Option.some.inj e
   exact d w' (by rw [← q']; exact hocd)
theorem store_ok {M:Model} {A:Around} {E:Value→Shared→Prop} {i:Nat} {x:Str} {v:V} {u:Value} {Q:Unit→Shared→Prop} (I:Inv X pins σ H s) (hN:X.N.Nodup) (hi:X.N[i]? = some x) (hx:Loc X.env.scope x) (r:RelV v u)
  (h:∀ s',Inv X pins (σ.set i (some v)) H s'→Q () s') (hf:X.fn x = true ∨ X.env.scope.names.lookup x = some .local:=by first | exact .inl rfl | exact .inr rfl | assumption):wpAny M A (storeName X.env x u) Q E s :=
 store_ok2 I hN hi hx r (fun s' I' _=>h s' I') hf
theorem Inv.call' {s':Shared} {ch:List Addr} (I:Inv X pins σ H s) (ho:s'.os = s.os) (u:Un (frs X.stack) ch H H' s.heap s'.heap) (hok:HOk X.prog X.w H' s'.heap) (hg:AllBare s'.gens)
  (hch:∀ b ∈ ch,(b ∈ X.ex ∨ X.s₀.heap.objs.size ≤ b)∧b ≠ X.env.locals∧(∀ x c,X.env.cells.lookup x = some c→c ≠ b)∧∀ p ∈ X.pn ++ pins,p.1 ≠ b):Inv X pins σ H' s':=by
 obtain ⟨h',g',d',t',o'⟩:=s'
 have e:o' = s.os:=ho
 subst e
 exact I.call (g':=g') (t':=t') (d':=d') u hok hg hch
end
abbrev XK:=Value→Option Addr→Hp→Prop
abbrev St:=List (Option V)
abbrev VK:=V→Hp→Prop
abbrev TE:=St→Hp→VK→Prop
abbrev TT:=St→Hp→(Bool→Hp→Prop)→Prop
abbrev TA:=St→Hp→(List V→Hp→Prop)→Prop
structure Ends where
 nx:St→Hp→Prop
 rt:VK
 bk:St→Hp→Prop:=fun _ _=>False
 ct:St→Hp→Prop:=fun _ _=>False
abbrev TS:=Ends→St→Hp→Prop
def EP (X:Cx) (pins:List (Addr × Obj)) (σ:St) (Q:VK) (u:Value) (s':Shared):Prop:=∃ v H',Inv X pins σ H' s'∧RelV v u∧Q v H'
def TP (X:Cx) (pins:List (Addr × Obj)) (σ:St) (Q:Bool→Hp→Prop) (b:Bool) (s':Shared):Prop:=∃ H',Inv X pins σ H' s'∧Q b H'
def AP (X:Cx) (pins:List (Addr × Obj)) (σ:St) (Q:List V→Hp→Prop) (us:List Value) (s':Shared):Prop:=∃ vs H',Inv X pins σ H' s'∧Vals vs us∧Q vs H'
def SP (X:Cx) (pins:List (Addr × Obj)) (D:Ends) (f:Flow) (s':Shared):Prop :=
 match f with
 | .next=>∃ σ' H',Inv X pins σ' H' s'∧D.nx σ' H'
 | .brk=>∃ σ' H',Inv X pins σ' H' s'∧D.bk σ' H'
 | .cont=>∃ σ' H',Inv X pins σ' H' s'∧D.ct σ' H'
 | .ret u=>∃ v σ' H',Inv X pins σ' H' s'∧RelV v u∧D.rt v H'
def PE (X:Cx) (e:Expr) (t:TE):Prop :=
 ∀ (pins:List (Addr × Obj)) (s:Shared) (σ:St) (H:Hp) (Q:VK),Inv X pins σ H s→t σ H Q→wpAny (model X.prog X.w) X.A (eval e X.env) (EP X pins σ Q) X.xe s
def PT (X:Cx) (e:Expr) (t:TT):Prop :=
 ∀ (pins:List (Addr × Obj)) (s:Shared) (σ:St) (H:Hp) (Q:Bool→Hp→Prop),Inv X pins σ H s→t σ H Q→wpAny (model X.prog X.w) X.A (isTrue e X.env (eval e X.env)) (TP X pins σ Q) X.xe s
def PW (X:Cx) (e:Expr) (t:TT):Prop :=
 ∀ (whole:Sem Value) (pins:List (Addr × Obj)) (s:Shared) (σ:St) (H:Hp) (Q:Bool→Hp→Prop),Inv X pins σ H s→t σ H Q→wpAny (model X.prog X.w) X.A (isTrue e X.env whole) (TP X pins σ Q) X.xe s
theorem PW.pt {X:Cx} {e:Expr} {t:TT} (h:PW X e t):PT X e t:=h _
def PA (X:Cx) (es:List Expr) (t:TA):Prop :=
 ∀ (pos:Pos) (pins:List (Addr × Obj)) (s:Shared) (σ:St) (H:Hp) (Q:List V→Hp→Prop),Inv X pins σ H s→t σ H Q→wpAny (model X.prog X.w) X.A (spliced (backTo pos (starEach es X.env))) (AP X pins σ Q) X.xe s
def PS (X:Cx) (st:Stmt) (t:TS):Prop :=
 ∀ (pins:List (Addr × Obj)) (s:Shared) (σ:St) (H:Hp) (D:Ends),Inv X pins σ H s→t D σ H→wpAny (model X.prog X.w) X.A (exec st X.env) (SP X pins D) X.xe s
def PSs (X:Cx) (st:List Stmt) (t:TS):Prop :=
 ∀ (pins:List (Addr × Obj)) (s:Shared) (σ:St) (H:Hp) (D:Ends),Inv X pins σ H s→t D σ H→wpAny (model X.prog X.w) X.A (execs st X.env) (SP X pins D) X.xe s
theorem thn {α:Type} {t:Sem α} {Q Q':α→Shared→Prop} {M:Model} {A:Around} {E:Value→Shared→Prop} {s:Shared} (h:wpAny M A t Q E s) (hQ:∀ a s,Q a s→Q' a s):wpAny M A t Q' E s:=wpAny_mono h hQ fun _ _ x=>x
section
variable {X:Cx}
def tVar (i:Nat):TE:=fun σ H Q=>∃ v,σ[i]? = some (some v)∧Q v H
def tC (v:V):TE:=fun _ H Q=>Q v H
theorem pe_var {i:Nat} {x:Str} {pos:Pos} (hN:X.N[i]? = some x) (hv:Vis X.env.scope x) (hd:(x == ("__debug__" : Str)) = false:=by decide) (hcd:(x == ("__classdict__" : Str)) = false:=by decide):PE X (.Name x pos) (tVar i):=by
 intro pins s σ H Q I h
 obtain ⟨v,e,h⟩:=h
 obtain ⟨m,hn,hl⟩:=I.loc
 obtain ⟨u,r,l⟩:=hl i x v hN e hv
 have fin:EP X pins σ Q u s:=⟨v,H,I,r,h⟩
 rcases l with ⟨hk,hm⟩ | ⟨hk,c,hc,hcell⟩
 ·exact wpAny_Name (wpAny_loadName_local I.ok.kind hk hn hm fin) hd
 ·rcases hk with hk | hk
  ·exact wpAny_Name (wpAny_loadName_cell I.ok.kind hk hc hcell fin) hd
  ·exact wpAny_Name (wpAny_loadName_free I.ok.kind hk hc hcell fin hcd) hd
theorem pe_int {i j pos}:PE X (.Constant (.int i) j pos) (tC (.int i)):=fun _ _ _ H _ I h=>wpAny_Constant_int ⟨.int i,H,I.tok _,⟨_,rfl⟩,h⟩
theorem pe_bl {b j pos}:PE X (.Constant (.bool b) j pos) (tC (.bl b)):=fun _ _ _ H _ I h=>Constant_bool ⟨.bl b,H,I,rfl,h⟩
theorem pe_str {x j pos}:PE X (.Constant (.str x) j pos) (tC (.str x)):=fun _ _ _ H _ I h=>Calls.Constant_str ⟨.str x,H,I.tok _,⟨_,rfl⟩,h⟩
def Gl (X:Cx) (x:Str):Prop:=X.env.kindOf x = some .globalImplicit
theorem ld_glob {E:Value→Shared→Prop} {pins:List (Addr × Obj)} {s:Shared} {σ:St} {H:Hp} {x:Str} {u:Value} {pos:Pos} {Q:Value→Shared→Prop} (I:Inv X pins σ H s) (hg:Gl X x) (hm:X.mg x = some u) (h:Q u s)
  (hd:(x == ("__debug__" : Str)) = false:=by decide):wpAny (model X.prog X.w) X.A (eval (.Name x pos) X.env) Q E s :=
 Calls.Name_function_global I.ok.kind hg (Calls.loadGlobal_global (by rw [I.ok.glob]; exact I.mod.glob.keeps I.bk) hm h) hd
theorem ld_blt {E:Value→Shared→Prop} {pins:List (Addr × Obj)} {s:Shared} {σ:St} {H:Hp} {x:Str} {u:Value} {pos:Pos} {Q:Value→Shared→Prop} (I:Inv X pins σ H s) (hg:Gl X x) (hm:X.mg x = none) (hv:bootBuiltins x = some u) (h:Q u s)
  (hn:x ≠ "__name__" := by decide) (hd:(x == ("__debug__" : Str)) = false:=by decide):wpAny (model X.prog X.w) X.A (eval (.Name x pos) X.env) Q E s:=by
 obtain ⟨mb,h1,h2⟩:=I.mod.blt
 exact Calls.Name_function_global I.ok.kind hg (Calls.loadGlobal_builtin (by rw [I.ok.glob]; exact I.mod.glob.keeps I.bk) hm (by rw [I.ok.blt]; exact h1.keeps I.bk) ((h2 x hn).trans hv) h) hd
theorem pe_glob {x:Str} {v:V} {u:Value} {pos:Pos} (hg:Gl X x) (hm:X.mg x = some u) (r:RelV v u) (hd:(x == ("__debug__" : Str)) = false:=by decide):PE X (.Name x pos) (tC v) :=
 fun _ _ _ H _ I h=>ld_glob I hg hm ⟨v,H,I,r,h⟩ hd
theorem pe_bltn {x:Str} {v:V} {u:Value} {pos:Pos} (hg:Gl X x) (hm:X.mg x = none) (hv:bootBuiltins x = some u) (r:RelV v u) (hn:x ≠ "__name__" := by decide) (hd:(x == ("__debug__" : Str)) = false:=by decide):PE X (.Name x pos) (tC v) :=
 fun _ _ _ H _ I h=>ld_blt I hg hm hv ⟨v,H,I,r,h⟩ hn hd
variable {a b:Expr} {ta tb:TE} {pos:Pos}
def PC (X:Cx) (op:CmpOp) (a b:Expr) (t:TE):Prop :=
 ∀ (pins:List (Addr × Obj)) (s:Shared) (σ:St) (H:Hp) (Q:VK),Inv X pins σ H s→t σ H Q →
  wpAny (model X.prog X.w) X.A (eval a X.env) (fun v s₁=>wpAny (model X.prog X.w) X.A (eval b X.env) (fun u s₂=>wpAny (model X.prog X.w) X.A (compareOp op v u) (EP X pins σ Q) X.xe s₂) X.xe s₁) X.xe s
theorem nobehind (b:Expr) {op:CmpOp} (h:op ≠ .In) (h2:op ≠ .NotIn):behindInMarks op b = false:=by
 have e1:(op == CmpOp.In) = false:=by cases op <;> first | rfl | exact absurd rfl h
 have e2:(op == CmpOp.NotIn) = false:=by cases op <;> first | rfl | exact absurd rfl h2
 cases b <;> simp [behindInMarks,e1,e2]
def tB (t:TE):TT:=fun σ H Q=>t σ H fun x H1=>∃ c,x = .bl c∧Q c H1
theorem pt_cmp {op:CmpOp} {t:TE} (h:PC X op a b t) (h1:behindInMarks op b = false:=by first | exact nobehind _ (by decide) (by decide) | rfl):PT X (.Compare a [op] [b] pos) (tB t):=by
 intro pins s σ H Q I hw
 refine wpAny_isTrue_Compare1 (thn (h pins s σ H _ I hw) fun v s1 h1=>thn h1 fun u s2 h2=>thn h2 fun c s3 ⟨x,H1,I1,r1,q1⟩=>?_) h1
 obtain ⟨d,rfl,q⟩:=q1
 cases r1
 exact wpAny_truthy_bool ⟨H1,I1,q⟩
theorem pt_val {e:Expr} {t:TE} (h:PE X e t) (he:∀ whole,isTrue e X.env whole = (do let v ← whole; standAt e.pos; holding [v] (truthy v)):=by intro _; rfl):PT X e (tB t):=by
 intro pins s σ H Q I hw
 refine isTrue_plain (thn (h pins s σ H _ I hw) fun v s1 ⟨x,H1,I1,r1,q1⟩=>?_) (he _)
 obtain ⟨d,rfl,q⟩:=q1
 cases r1
 exact wpAny_truthy_bool ⟨H1,I1,q⟩
variable {tA tB':TT} {rest:List Expr}
def tAnd (t u:TT):TT:=fun σ H Q=>t σ H fun c H1=>if c = true then u σ H1 Q else Q false H1
def tOr (t u:TT):TT:=fun σ H Q=>t σ H fun c H1=>if c = true then Q true H1 else u σ H1 Q
def tNot (t:TT):TT:=fun σ H Q=>t σ H fun c H1=>Q (!c) H1
theorem pw_and1 (ha:PT X a tA):PW X (.BoolOp .And [a] pos) tA:=by
 intro wh pins s σ H Q I h
 refine isTrue_and (thn (ha pins s σ H Q I h) fun c s1 e=>?_)
 cases c with
 | true=>exact isTrue_and_nil e
 | false=>exact e
theorem pw_or1 (ha:PT X a tA):PW X (.BoolOp .Or [a] pos) tA:=by
 intro wh pins s σ H Q I h
 refine isTrue_or (thn (ha pins s σ H Q I h) fun c s1 e=>?_)
 cases c with
 | false=>exact isTrue_or_nil e
 | true=>exact e
theorem pw_and (ha:PT X a tA) (hb:PW X (.BoolOp .And (b :: rest) pos) tB'):PW X (.BoolOp .And (a :: b :: rest) pos) (tAnd tA tB'):=by
 intro wh pins s σ H Q I h
 refine isTrue_and (thn (ha pins s σ H _ I h) fun c s1 ⟨H1,I1,q1⟩=>?_)
 cases c with
 | true=>exact hb wh pins s1 σ H1 Q I1 q1
 | false=>exact ⟨H1,I1,q1⟩
theorem pw_or (ha:PT X a tA) (hb:PW X (.BoolOp .Or (b :: rest) pos) tB'):PW X (.BoolOp .Or (a :: b :: rest) pos) (tOr tA tB'):=by
 intro wh pins s σ H Q I h
 refine isTrue_or (thn (ha pins s σ H _ I h) fun c s1 ⟨H1,I1,q1⟩=>?_)
 cases c with
 | true=>exact ⟨H1,I1,q1⟩
 | false=>exact hb wh pins s1 σ H1 Q I1 q1
theorem pt_not (ha:PT X a tA):PT X (.UnaryOp .Not a pos) (tNot tA):=by
 intro pins s σ H Q I h
 exact isTrue_not (ha pins s σ H (fun c H1=>Q (!c) H1) I h)
def tAndV (ta tb:TE):TE:=fun σ H Q=>ta σ H fun x H1=>∃ c,x = .bl c∧if c = true then tb σ H1 Q else Q (.bl false) H1
def tNotV (ta:TE):TE:=fun σ H Q=>ta σ H fun x H1=>∃ c,x = .bl c∧Q (.bl (!c)) H1
theorem pe_one {op} {t:TE} (h:PE X a t):PE X (.BoolOp op [a] pos) t:=fun pins s σ H Q I hw=>BoolOp_one (h pins s σ H Q I hw)
theorem pe_and (ha:PE X a ta) (hb:PE X (.BoolOp .And (b :: rest) pos) tb):PE X (.BoolOp .And (a :: b :: rest) pos) (tAndV ta tb):=by
 intro pins s σ H Q I h
 refine BoolOp_and (thn (ha pins s σ H _ I h) fun v s1 ⟨x,H1,I1,r1,q1⟩=>?_)
 obtain ⟨c,rfl,q1⟩:=q1
 cases r1
 refine wpAny_truthy_bool ?_
 cases c with
 | true=>exact hb pins s1 σ H1 Q I1 q1
 | false=>exact ⟨.bl false,H1,I1,rfl,q1⟩
theorem pe_not (ha:PE X a ta):PE X (.UnaryOp .Not a pos) (tNotV ta):=by
 intro pins s σ H Q I h
 refine UnaryOp_ (thn (ha pins s σ H _ I h) fun v s1 ⟨x,H1,I1,r1,q1⟩=>?_)
 obtain ⟨c,rfl,q1⟩:=q1
 cases r1
 exact not_of (wpAny_truthy_bool ⟨.bl (!c),H1,I1,rfl,q1⟩)
end
def SqL (K:PySem.W.Frag) (H:Hp) (a:Addr) (xs:List V):Prop :=
 Rd H a (.lst xs) ∨
  ∃ (o:Obj) (its:Array Value) (n:Nat),K.lookup a = some o∧o.cls = .type "list" ∧ o.dict = none∧o.data = .seq its n∧its.size ≤ sizeLine∧Vals xs its.toList
def SqT (K:PySem.W.Frag) (H:Hp) (a:Addr) (xs:List V):Prop :=
 Rd H a (.tup xs) ∨
  ∃ (o:Obj) (its:Array Value) (n:Nat),K.lookup a = some o∧o.cls = .type "tuple" ∧ o.data = .seq its n∧its.size ≤ sizeLine∧Vals xs its.toList
def absV:Value→Option V
 | .none=>some .non
 | .bool b=>some (.bl b)
 | .int i _=>some (.int i)
 | .str x _=>some (.str x)
 | .bytes b _=>some (.byt b)
 | .float b _=>some (.flt b)
 | .ref a=>some (.ref a)
 | .type n=>some (.ty n)
 | _=>none
theorem RelV.abs {x:V} {u:Value} (r:RelV x u):absV u = some x:=by
 cases x with
 | non=>cases r; rfl
 | bl _=>cases r; rfl
 | int _=>obtain ⟨t,rfl⟩:=r; rfl
 | str _=>obtain ⟨t,rfl⟩:=r; rfl
 | byt _=>obtain ⟨t,rfl⟩:=r; rfl
 | flt _=>obtain ⟨t,rfl⟩:=r; rfl
 | ref _=>cases r; rfl
 | ty _=>cases r; rfl
theorem RelV.inj {x y:V} {u:Value} (r:RelV x u) (q:RelV y u):x = y:=Option.some.inj (r.abs.symm.trans q.abs)
theorem Vals.inj:∀ {xs ys:List V} {us:List Value},Vals xs us→Vals ys us→xs = ys
 | _,_,_,.nil,.nil=>rfl
 | _,_,_,.cons r t,.cons r' t'=>by rw [r.inj r',Vals.inj t t']
section
variable {X:Cx} {pins:List (Addr × Obj)} {σ:St} {H:Hp} {s:Shared} {a:Addr} {xs ys:List V}
theorem SqL.of {K:PySem.W.Frag} (h:H a = some (.lst xs)):SqL K H a xs:=.inl (.inl h)
theorem SqT.of {K:PySem.W.Frag} (h:H a = some (.tup xs)):SqT K H a xs:=.inl (.inl h)
theorem Inv.list (I:Inv X pins σ H s) (h:SqL X.K H a xs):∃ its:List Value,Vals xs its∧PlainL s.heap a its.toArray∧xs.length ≤ sizeLine:=by
 rcases h with h | ⟨o,its,n,hk,hc,hd,hs,hz,r⟩
 ·obtain ⟨z,its,n,r,e⟩:=h.ok I.hok
  exact ⟨its,r,⟨_,n,e,rfl,rfl,rfl⟩,z⟩
 ·refine ⟨its.toList,r,⟨o,n,I.kIn a o hk,hc,hd,by simpa using hs⟩,?_⟩
  have e:=r.length
  simp only [Array.length_toList] at e
  omega
theorem Inv.tuple (I:Inv X pins σ H s) (h:SqT X.K H a xs):∃ its:List Value,Vals xs its∧IsTup s.heap a its.toArray∧xs.length ≤ sizeLine:=by
 rcases h with h | ⟨o,its,n,hk,hc,hs,hz,r⟩
 ·obtain ⟨z,its,r,p⟩:=h.ok I.hok
  exact ⟨its,r,p,z⟩
 ·refine ⟨its.toList,r,⟨o,I.kIn a o hk,hc,n,by simpa using hs⟩,?_⟩
  have e:=r.length
  simp only [Array.length_toList] at e
  omega
theorem Inv.list_inj (I:Inv X pins σ H s) (h:SqL X.K H a xs) (h':SqL X.K H a ys):xs = ys:=by
 obtain ⟨its,r,⟨o,n,e,_,_,d⟩,_⟩:=I.list h
 obtain ⟨its',r',⟨o',n',e',_,_,d'⟩,_⟩:=I.list h'
 rw [e] at e'; cases e'
 rw [d] at d'
 injection d' with d1 _
 have:its = its':=by simpa using congrArg Array.toList d1
 subst this
 exact r.inj r'
theorem Inv.tuple_inj (I:Inv X pins σ H s) (h:SqT X.K H a xs) (h':SqT X.K H a ys):xs = ys:=by
 obtain ⟨its,r,⟨o,e,_,n,d⟩,_⟩:=I.tuple h
 obtain ⟨its',r',⟨o',e',_,n',d'⟩,_⟩:=I.tuple h'
 rw [e] at e'; cases e'
 rw [d] at d'
 injection d' with d1 _
 have:its = its':=by simpa using congrArg Array.toList d1
 subst this
 exact r.inj r'
end
abbrev Cx.wish (X:Cx) (E:Value→Shared→Prop):Cx:={ X with xe:=E }
abbrev Cx.nox (X:Cx):Cx:=X.wish fun _ _=>False
theorem Cx.Ok.wish {X:Cx} (ok:X.Ok) (E:Value→Shared→Prop):(X.wish E).Ok :=
 ⟨ok.mod,ok.kind,ok.glob,ok.blt,ok.above,ok.inj,ok.has,ok.cab,ok.hd,ok.frames,ok.stk,ok.exf,ok.bs,ok.bsz,ok.noex,ok.exfs,ok.funs,ok.frf⟩
theorem Cx.Ok.unwish {X:Cx} {E:Value→Shared→Prop} (ok:(X.wish E).Ok):X.Ok :=
 ⟨ok.mod,ok.kind,ok.glob,ok.blt,ok.above,ok.inj,ok.has,ok.cab,ok.hd,ok.frames,ok.stk,ok.exf,ok.bs,ok.bsz,ok.noex,ok.exfs,ok.funs,ok.frf⟩
section
variable {X:Cx} {pins:List (Addr × Obj)} {σ:St} {H:Hp} {s:Shared} {E:Value→Shared→Prop}
theorem Inv.wish (I:Inv X pins σ H s) (E:Value→Shared→Prop):Inv (X.wish E) pins σ H s:=⟨I.ok.wish E,I.os,I.bare,I.base,I.loc,I.cell,I.free,I.freeC,I.pin,I.hok,I.len⟩
theorem Inv.unwish (I:Inv (X.wish E) pins σ H s):Inv X pins σ H s:=⟨I.ok.unwish,I.os,I.bare,I.base,I.loc,I.cell,I.free,I.freeC,I.pin,I.hok,I.len⟩
theorem SP.unwish {D:Ends} {f:Flow} {s':Shared} (h:SP (X.wish E) pins D f s'):SP X pins D f s':=by
 cases f with
 | next=>obtain ⟨σ',H',I,q⟩:=h; exact ⟨σ',H',I.unwish,q⟩
 | brk=>obtain ⟨σ',H',I,q⟩:=h; exact ⟨σ',H',I.unwish,q⟩
 | cont=>obtain ⟨σ',H',I,q⟩:=h; exact ⟨σ',H',I.unwish,q⟩
 | ret u=>obtain ⟨v,σ',H',I,r,q⟩:=h; exact ⟨v,σ',H',I.unwish,r,q⟩
theorem PE.nox {e:Expr} {t:TE} (h:PE X.nox e t):PE X e t:=fun pins s σ H Q I hw =>
 wpAny_mono (h pins s σ H Q (I.wish _) hw) (fun _ _ ⟨v,H',I',r,q⟩=>⟨v,H',I'.unwish,r,q⟩) fun _ _ z=>False.elim z
theorem PT.nox {e:Expr} {t:TT} (h:PT X.nox e t):PT X e t:=fun pins s σ H Q I hw =>
 wpAny_mono (h pins s σ H Q (I.wish _) hw) (fun _ _ ⟨H',I',q⟩=>⟨H',I'.unwish,q⟩) fun _ _ z=>False.elim z
theorem PSs.nox {st:List Stmt} {t:TS} (h:PSs X.nox st t):PSs X st t:=fun pins s σ H D I hw =>
 wpAny_mono (h pins s σ H D (I.wish _) hw) (fun _ _ q=>q.unwish) fun _ _ z=>False.elim z
end
section
variable {X:Cx} {st:Stmt} {rest:List Stmt} {t u:TS} {e:Expr} {te:TE} {pos:Pos}
def tNext:TS:=fun D σ H=>D.nx σ H
def tSeq (t u:TS):TS:=fun D σ H=>t { D with nx:=u D } σ H
theorem pss_nil:PSs X [] tNext:=fun _ _ σ H _ I h=>wpAny_execs_nil ⟨σ,H,I,h⟩
theorem pss_cons (h1:PS X st t) (h2:PSs X rest u):PSs X (st :: rest) (tSeq t u):=by
 intro pins s σ H D I h
 refine wpAny_execs_cons (thn (h1 pins s σ H { D with nx:=u D } I h) fun f s1 q=>?_)
 cases f with
 | next =>
  obtain ⟨σ',H',I',q⟩:=q
  exact h2 pins s1 σ' H' D I' q
 | ret v=>exact q
 | brk=>exact q
 | cont=>exact q
theorem pss_one (h1:PS X st t):PSs X [st] t:=by
 intro pins s σ H D I h
 refine wpAny_execs_cons (thn (h1 pins s σ H D I h) fun f s1 q=>?_)
 cases f with
 | next=>exact wpAny_execs_nil q
 | ret v=>exact q
 | brk=>exact q
 | cont=>exact q
theorem Inv.quiet {pins:List (Addr × Obj)} {σ:St} {H:Hp} {s:Shared} (I:Inv X pins σ H s):interactive X.env = false:=by simp [interactive,I.ok.kind]
def tDrop (te:TE):TS:=fun D σ H=>te σ H fun _ H1=>D.nx σ H1
theorem ps_expr (he:PE X e te) (hs:swapsWith e none pos.line X.env = pure false:=by rfl):PS X (.Expr e pos) (tDrop te):=by
 intro pins s σ H D I h
 exact wpAny_Expr_any (thn (he pins s σ H _ I h) fun v s1 ⟨x,H1,I1,r1,q1⟩=>⟨σ,H1,I1,q1⟩) I.quiet hs
def tRet (te:TE):TS:=fun D σ H=>te σ H D.rt
theorem ps_ret (he:PE X e te):PS X (.Return (some e) pos) (tRet te):=by
 intro pins s σ H D I h
 exact wpAny_Return_some (thn (he pins s σ H _ I h) fun v s1 ⟨x,H1,I1,r1,q1⟩=>⟨x,σ,H1,I1,r1,q1⟩)
def tIfS (c:TT) (t u:TS):TS:=fun D σ H=>c σ H fun b H1=>if b = true then t D σ H1 else u D σ H1
theorem ps_if {c:Expr} {a b:List Stmt} {tc:TT} (hc:PT X c tc) (ha:PSs X a t) (hb:PSs X b u):PS X (.If c a b pos) (tIfS tc t u):=by
 intro pins s σ H D I h
 refine wpAny_If (thn (hc pins s σ H _ I h) fun d s1 ⟨H1,I1,q1⟩=>?_)
 cases d with
 | true=>exact ha pins s1 σ H1 D I1 q1
 | false=>exact hb pins s1 σ H1 D I1 q1
end
abbrev TG:=V→St→Hp→(St→Hp→Prop)→Prop
abbrev TGs:=List V→St→Hp→(St→Hp→Prop)→Prop
def PG (X:Cx) (target:Expr) (t:TG):Prop :=
 ∀ (pins:List (Addr × Obj)) (s:Shared) (σ:St) (H:Hp) (v:V) (u:Value) (Q:St→Hp→Prop),Inv X pins σ H s→RelV v u→t v σ H Q →
  wpAny (model X.prog X.w) X.A (assign target X.env u) (fun _ s'=>∃ σ' H',Inv X pins σ' H' s'∧Q σ' H') X.xe s
def PGs (X:Cx) (ts:List Expr) (t:TGs):Prop :=
 ∀ (pins:List (Addr × Obj)) (s:Shared) (σ:St) (H:Hp) (vs:List V) (us:List Value) (Q:St→Hp→Prop),Inv X pins σ H s→Vals vs us→t vs σ H Q →
  wpAny (model X.prog X.w) X.A (assignInOrder ((assignEach ts X.env).map (·.2)) us) (fun _ s'=>∃ σ' H',Inv X pins σ' H' s'∧Q σ' H') X.xe s
section
variable {X:Cx} {pos:Pos}
def gName (i:Nat):TG:=fun v σ H Q=>Q (σ.set i (some v)) H
theorem pg_name {i:Nat} {x:Str} (hN:X.N.Nodup) (hi:X.N[i]? = some x) (hx:Loc X.env.scope x) (hf:X.fn x = true ∨ X.env.scope.names.lookup x = some .local:=by first | exact .inl rfl | exact .inr rfl | assumption):PG X (.Name x pos) (gName i):=by
 intro pins s σ H v u Q I r h
 exact wpAny_assign_Name (store_ok I hN hi hx r (fun s' I'=>⟨_,H,I',h⟩) hf)
def gNil:TGs:=fun vs σ H Q=>vs = []∧Q σ H
def gCons (t:TG) (u:TGs):TGs:=fun vs σ H Q=>∃ v r,vs = v :: r∧t v σ H fun σ' H'=>u r σ' H' Q
theorem pgs_nil:PGs X [] gNil:=by
 intro pins s σ H vs us Q I r h
 obtain ⟨e,h⟩:=h
 subst e
 cases r
 exact assignInOrder_nil ⟨σ,H,I,h⟩
theorem pgs_cons {e:Expr} {es:List Expr} {t:TG} {u:TGs} (h1:PG X e t) (h2:PGs X es u)
  (hs:(assignEach (e :: es) X.env).map (·.2) = assign e X.env :: (assignEach es X.env).map (·.2):=by rfl):PGs X (e :: es) (gCons t u):=by
 intro pins s σ H vs us Q I r h
 obtain ⟨v,vr,e1,h⟩:=h
 subst e1
 cases r with
 | cons r rr =>
  rw [hs]
  refine assignInOrder_cons (thn (h1 pins s σ H _ _ _ I r h) fun _ s1 ⟨σ1,H1,I1,q1⟩=>?_)
  exact h2 pins s1 σ1 H1 _ _ Q I1 rr q1
def gTup (K:PySem.W.Frag) (n:Nat) (t:TGs):TG:=fun v σ H Q=>∃ a xs,v = .ref a∧SqT K H a xs∧xs.length = n∧t xs σ H Q
theorem pg_tup {es:List Expr} {k:Nat} {t:TGs} {n:Nat} (hc:X.calm = true) (h:PGs X es t)
  (hn:(assignEach es X.env).length = n:=by rfl) (hst:(assignEach es X.env).findIdx? (·.1) = none:=by rfl):PG X (.Tuple es k pos) (gTup X.K n t):=by
 intro pins s σ H v u Q I r hw
 obtain ⟨a,xs,e1,hq,hl,hw⟩:=hw
 subst e1
 cases r
 obtain ⟨its,rv,ht,hz⟩:=I.tuple hq
 refine assign_Tuple_tuple (I.ok.hd hc) ht (by simp [hn,← hl,rv.length]) hst fun h' hx=>?_
 have I1:Inv X pins σ H { s with heap:=h' }:=I.kept (t':=s.toks) fun b o e=>hx b o (Nat.ne_of_lt (Heap.lt_size e)) e
 exact h pins _ σ H xs _ Q I1 (by simpa using rv) hw
def tAsg (te:TE) (g:TG):TS:=fun D σ H=>te σ H fun x H1=>g x σ H1 D.nx
theorem ps_asg {tg e:Expr} {te:TE} {g:TG} (he:PE X e te) (hg:PG X tg g) (hs:swapsWithSole [tg] e pos.line X.env = pure false:=by rfl) (hw:swappedStores [tg] e X.env = pure none:=by rfl)
  (h1:(assignEach [tg] X.env).map (·.2) = [assign tg X.env]:=by rfl):PS X (.Assign [tg] e pos) (tAsg te g):=by
 intro pins s σ H D I h
 refine wpAny_Assign_stores (thn (he pins s σ H _ I h) fun v s1 ⟨x,H1,I1,r1,q1⟩=>?_) hs hw
 rw [h1]
 exact thn (hg pins s1 σ H1 x v _ I1 r1 q1) fun _ s2 q=>q
theorem ps_set {i:Nat} {x:Str} {e:Expr} {te:TE} {pos':Pos} (hN:X.N.Nodup) (hi:X.N[i]? = some x) (hx:Loc X.env.scope x) (he:PE X e te) (hs:swapsWith e (some (.Name x pos')) pos.line X.env = pure false:=by rfl) (hf:X.fn x = true ∨ X.env.scope.names.lookup x = some .local:=by first | exact .inl rfl | exact .inr rfl | assumption) :
  PS X (.Assign [.Name x pos'] e pos) (tAsg te (gName i)):=by
 intro pins s σ H D I h
 refine wpAny_Assign_Name (thn (he pins s σ H _ I h) fun v s1 ⟨y,H1,I1,r1,q1⟩=>?_) hs
 exact store_ok I1 hN hi hx r1 (fun s2 I2=>⟨_,H1,I2,q1⟩) hf
end
section
variable {X:Cx} {pos:Pos}
def tWhile (c:TT) (tb:TS):TS:=fun D σ H=>∃ W:Nat→St→Hp→Prop,(∃ m,W m σ H)∧∀ m σ H,W m σ H →
 c σ H fun b H1=>if b = true then ∃ N:St→Hp→Prop,(∀ σ' H',N σ' H'→∃ m',m' < m∧W m' σ' H')∧tb { D with nx:=N,ct:=N,bk:=D.nx } σ H1 else D.nx σ H1
theorem ps_while {c:Expr} {body:List Stmt} {tc:TT} {tb:TS} (hp:PassesOwn (model X.prog X.w) X.A X.env X.xe) (hc:PT X c tc) (hb:PSs X body tb):PS X (.While c body [] pos) (tWhile tc tb):=by
 intro pins s σ H D I h
 obtain ⟨W,⟨m0,w0⟩,turn⟩:=h
 refine wpAny_While (codeAny_whileLoop (fun n s'=>∃ σ' H',Inv X pins σ' H' s'∧W n σ' H') ?_ m0 ⟨σ,H,I,w0⟩)
 rintro n s1 ⟨σ1,H1,I1,w1⟩
 refine wpAny_passesOwn hp (thn (hc pins s1 σ1 H1 _ I1 (turn n σ1 H1 w1)) fun b s2 ⟨H2,I2,q2⟩=>?_)
 cases b with
 | true =>
  obtain ⟨N,hN,q2⟩:=q2
  rw [if_pos rfl]
  refine wpAny_passesOwn hp (thn (hb pins s2 σ1 H2 _ I2 q2) fun f s3 q3=>?_)
  cases f with
  | next =>
   obtain ⟨σ3,H3,I3,n3⟩:=q3
   obtain ⟨m',hm,w3⟩:=hN σ3 H3 n3
   exact ⟨m',hm,σ3,H3,I3,w3⟩
  | cont =>
   obtain ⟨σ3,H3,I3,n3⟩:=q3
   obtain ⟨m',hm,w3⟩:=hN σ3 H3 n3
   exact ⟨m',hm,σ3,H3,I3,w3⟩
  | brk=>exact q3
  | ret v=>exact q3
 | false =>
  rw [if_neg Bool.false_ne_true]
  exact wpAny_execs_nil ⟨σ1,H2,I2,q2⟩
end
structure It where
 go:Nat→Hp→Prop
 yld:Nat→Hp→V→Hp→Prop
 stop:Nat→Hp→Prop
def FpOk (X:Cx) (pins:List (Addr × Obj)) (H:Hp) (b:Addr):Prop :=
 H b = none∧b ≠ X.env.locals∧b ∉ X.fs∧(b ∈ X.ex ∨ X.s₀.heap.objs.size ≤ b)∧(∀ x c,X.env.cells.lookup x = some c→c ≠ b)∧∀ p ∈ X.pn ++ pins,p.1 ≠ b
theorem Inv.fpOk {X:Cx} {pins:List (Addr × Obj)} {σ:St} {H H':Hp} {s:Shared} {b:Addr} (I:Inv X pins σ H s) (hb:s.heap.objs.size ≤ b) (hn:H' b = none):FpOk X pins H' b:=by
 refine ⟨hn,Nat.ne_of_gt (Nat.lt_of_lt_of_le I.lt hb),I.nofs hb,.inr (Nat.le_trans I.sz hb),fun x c e z=>?_,fun p hp z=>?_⟩
 ·obtain ⟨v,q⟩:=I.cell x c e
  exact absurd (Nat.lt_of_lt_of_le q.lt (by rw [z]; exact hb)) (Nat.lt_irrefl _)
 ·exact absurd (Nat.lt_of_lt_of_le (Heap.lt_size (I.pin p hp).1) (by rw [z]; exact hb)) (Nat.lt_irrefl _)
structure Turn (P:Program) (w:World) (K:PySem.W.Frag) (tg:Expr) (J:It) (fp:List Addr) (it:Addr) (tn:Nat→Heap→Prop):Prop where
 mem:it ∈ fp
 obj:∀ i h,tn i h→∀ b ∈ fp,∃ o,h.get? b = some o∧∀ v,o.data ≠ .cell v
 keep:∀ i h h',tn i h→(∀ b ∈ fp,∀ o,h.get? b = some o→h'.get? b = some o)→tn i h'
 item:∀ (X:Cx),X.prog = P→X.w = w→X.K = K→X.calm = true→∀ (i:Nat) (pins:List (Addr × Obj)) (s:Shared) (σ:St) (H:Hp) (E:Value→Shared→Prop),Inv X pins σ H s→(∀ b ∈ fp,FpOk X pins H b)→tn i s.heap→J.go i H →
  wpAny (model P w) X.A (pyNext (.ref it)) (fun r s1=>∃ u,r = some u ∧
   wpAny (model P w) X.A (letOwnedTupleGo tg (.ref it) u) (fun _ s2=>∃ x H',Inv X pins σ H' s2∧RelV x u∧J.yld i H x H'∧tn (i + 1) s2.heap∧∀ b ∈ fp,H' b = none) E s1) E s
 done:∀ (X:Cx),X.prog = P→X.w = w→X.K = K→X.calm = true→∀ (i:Nat) (pins:List (Addr × Obj)) (s:Shared) (σ:St) (H:Hp) (E:Value→Shared→Prop),Inv X pins σ H s→(∀ b ∈ fp,FpOk X pins H b)→tn i s.heap→J.stop i H →
  wpAny (model P w) X.A (pyNext (.ref it)) (fun r s1=>r = none∧Inv X pins σ H s1) E s
 self:∀ (A:Around) (i:Nat) (s:Shared) (Q:Value→Shared→Prop) (E:Value→Shared→Prop),tn i s.heap→Q (.ref it) s→wpAny (model P w) A (pyIter (.ref it)) Q E s
abbrev TI:=St→Hp→(It→Hp→Prop)→Prop
def PIE (X:Cx) (pins:List (Addr × Obj)) (σ:St) (tg:Expr) (R:It→Hp→Prop) (itv:Value) (s2:Shared):Prop :=
 ∃ (it:Addr) (fp:List Addr) (tn:Nat→Heap→Prop) (J:It) (H':Hp),itv = .ref it∧Inv X pins σ H' s2∧Turn X.prog X.w X.K tg J fp it tn∧tn 0 s2.heap∧(∀ b ∈ fp,FpOk X pins H' b)∧R J H'
def PI (X:Cx) (tg iter:Expr) (wi:TI):Prop :=
 ∀ (pins:List (Addr × Obj)) (s:Shared) (σ:St) (H:Hp) (R:It→Hp→Prop),Inv X pins σ H s→wi σ H R →
  wpAny (model X.prog X.w) X.A (eval iter X.env) (fun v s1=>wpAny (model X.prog X.w) X.A (pyIter v) (PIE X pins σ tg R) X.xe s1) X.xe s
theorem go_of {M:Model} {A:Around} {E:Value→Shared→Prop} {s:Shared} {tg:Expr} {it:Addr} {u:Value} {o:Obj} {n:String} {vs:Array Value} {Q:Unit→Shared→Prop} (ho:s.heap.get? it = some o) (hc:o.cls = .type n) (hd:o.data = .fields vs)
  (hn:["enumerate", "zip", "dict_itemiterator", "dict_reverseitemiterator", "odict_iterator", "itertools.zip_longest", "itertools.pairwise"].contains n = false) (hQ:Q () s):wpAny M A (letOwnedTupleGo tg (.ref it) u) Q E s:=by
 unfold letOwnedTupleGo
 cases tg <;> first
  | exact wpAny_pure hQ
  | (cases u <;> first
    | exact wpAny_pure hQ
    | (refine wpAny_bind (wpAny_load ho ?_); rw [hc,hd]; show wpAny M A (if (["enumerate", "zip", "dict_itemiterator", "dict_reverseitemiterator", "odict_iterator", "itertools.zip_longest", "itertools.pairwise"].contains n && vs[0]? == some (rawInt _)) = true then _ else _) Q E s; rw [if_neg (by intro h; rw [hn,Bool.false_and] at h; cases h)]; exact wpAny_pure hQ))
def Itl (K:PySem.W.Frag) (a:Addr):It :=
 ⟨fun i H=>∃ xs x,SqL K H a xs∧xs[i]? = some x,fun i H x H'=>H' = H∧∀ xs,SqL K H a xs→xs[i]? = some x,fun i H=>∃ xs,SqL K H a xs∧xs.length ≤ i⟩
def Itt (K:PySem.W.Frag) (a:Addr):It :=
 ⟨fun i H=>∃ xs x,SqT K H a xs∧xs[i]? = some x,fun i H x H'=>H' = H∧∀ xs,SqT K H a xs→xs[i]? = some x,fun i H=>∃ xs,SqT K H a xs∧xs.length ≤ i⟩
def Itr (lo:Int) (n:Nat):It:=⟨fun i _=>i < n,fun i H x H'=>H' = H∧x = .int (lo + i),fun i _=>n ≤ i⟩
theorem turn_list {P:Program} {w:World} {K:PySem.W.Frag} {tg:Expr} (a it:Addr):Turn P w K tg (Itl K a) [it] it (fun i h=>h.IsListIter it a i) where
 mem:=by simp
 obj:=fun i h st b hb=>by
  have e:b = it:=by simpa using hb
  subst e
  obtain ⟨o,e,c,d⟩:=st
  exact ⟨o,e,fun v z=>by rw [d] at z; cases z⟩
 keep:=fun i h h' st k=>st.at fun o e=>k it (by simp) o e
 item:=by
  intro X hP hw hK hc i pins s σ H E I hf st hg
  subst hP hw hK
  obtain ⟨xs,x,hq,hx⟩:=hg
  obtain ⟨its,rv,p,hz⟩:=I.list hq
  obtain ⟨u,hu,ru⟩:=rv.get hx
  obtain ⟨f0,f1,f2,f3,f4,f5⟩:=hf it (by simp)
  refine wpAny_pyNext_list_item st p.isList (x:=u) (by simpa using hu) fun h' st' sb=>?_
  have I1:Inv X pins σ H { s with heap:=h' }:=I.turned (t':=s.toks) (fun b o hb e=>(sb.2 b hb).trans e) f0 f1 f3 f4 f5
  obtain ⟨o,e,c,d⟩:=id st'
  exact ⟨u,rfl,go_of (s:={ s with heap:=h' }) e c d (by decide) ⟨x,H,I1,ru,⟨rfl,fun ys hy=>by rw [I.list_inj hy hq]; exact hx⟩,st',fun b hb=>(hf b hb).1⟩⟩
 done:=by
  intro X hP hw hK hc i pins s σ H E I hf st hg
  subst hP hw hK
  obtain ⟨xs,hq,hx⟩:=hg
  obtain ⟨its,rv,p,hz⟩:=I.list hq
  obtain ⟨f0,f1,f2,f3,f4,f5⟩:=hf it (by simp)
  have hl:=rv.length
  exact wpAny_pyNext_list_end (I.ok.hd hc) st p.isList (by simp; omega) fun h' eb=>⟨rfl,I.turned (t':=s.toks) (fun b o hb e=>eb b o hb e) f0 f1 f3 f4 f5⟩
 self:=fun _ _ _ _ _ st h=>wpAny_pyIter_listiter st h
theorem turn_tuple {P:Program} {w:World} {K:PySem.W.Frag} {tg:Expr} (a it:Addr):Turn P w K tg (Itt K a) [it] it (fun i h=>h.IsTupleIter it a i) where
 mem:=by simp
 obj:=fun i h st b hb=>by
  have e:b = it:=by simpa using hb
  subst e
  obtain ⟨o,e,c,d⟩:=st
  exact ⟨o,e,fun v z=>by rw [d] at z; cases z⟩
 keep:=fun i h h' st k=>st.at fun o e=>k it (by simp) o e
 item:=by
  intro X hP hw hK hc i pins s σ H E I hf st hg
  subst hP hw hK
  obtain ⟨xs,x,hq,hx⟩:=hg
  obtain ⟨its,rv,p,hz⟩:=I.tuple hq
  obtain ⟨u,hu,ru⟩:=rv.get hx
  obtain ⟨f0,f1,f2,f3,f4,f5⟩:=hf it (by simp)
  refine wpAny_pyNext_tuple_item st (show s.heap.IsTuple a its.toArray from p) (x:=u) (by simpa using hu) fun h' st' sb=>?_
  have I1:Inv X pins σ H { s with heap:=h' }:=I.turned (t':=s.toks) (fun b o hb e=>(sb.2 b hb).trans e) f0 f1 f3 f4 f5
  obtain ⟨o,e,c,d⟩:=id st'
  exact ⟨u,rfl,go_of (s:={ s with heap:=h' }) e c d (by decide) ⟨x,H,I1,ru,⟨rfl,fun ys hy=>by rw [I.tuple_inj hy hq]; exact hx⟩,st',fun b hb=>(hf b hb).1⟩⟩
 done:=by
  intro X hP hw hK hc i pins s σ H E I hf st hg
  subst hP hw hK
  obtain ⟨xs,hq,hx⟩:=hg
  obtain ⟨its,rv,p,hz⟩:=I.tuple hq
  obtain ⟨f0,f1,f2,f3,f4,f5⟩:=hf it (by simp)
  have hl:=rv.length
  exact wpAny_pyNext_tuple_end (I.ok.hd hc) st (show s.heap.IsTuple a its.toArray from p) (by simp; omega) fun h' eb=>⟨rfl,I.turned (t':=s.toks) (fun b o hb e=>eb b o hb e) f0 f1 f3 f4 f5⟩
 self:=fun _ _ _ _ _ st h=>wpAny_pyIter_tupleiter st h
theorem turn_range {P:Program} {w:World} {K:PySem.W.Frag} {tg:Expr} (it:Addr) (lo:Int) (n:Nat):Turn P w K tg (Itr lo n) [it] it (fun i h=>IsRangeIter h it (lo + (i:Nat) * 1) ((n:Int) - (i:Nat)) 1) where
 mem:=by simp
 obj:=fun i h st b hb=>by
  have e:b = it:=by simpa using hb
  subst e
  exact ⟨_,st,fun v z=>by
   have z':Data.fields _ = Data.cell v:=z
   cases z'⟩
 keep:=fun i h h' st k=>k it (by simp) _ st
 item:=by
  intro X hP hw hK hc i pins s σ H E I hf st hg
  subst hP hw hK
  obtain ⟨f0,f1,f2,f3,f4,f5⟩:=hf it (by simp)
  have W:=Walks.range (prog:=X.prog) (w:=X.w) (I.ok.hd hc) it lo 1 n
  refine W.item i s _ _ hg st fun v h' tk hv st' kk=>?_
  obtain ⟨t,rfl⟩:=hv
  have I1:Inv X pins σ H { s with heap:=h',toks:=tk }:=I.turned (fun b o hb e=>kk b o (by simpa using hb) e) f0 f1 f3 f4 f5
  refine ⟨_,rfl,go_of (s:={ s with heap:=h',toks:=tk }) (n := "range_iterator") st' rfl rfl (by decide) ⟨.int (lo + i),H,I1,⟨t,?_⟩,⟨rfl,rfl⟩,st',fun b hb=>(hf b hb).1⟩⟩
  rw [Int.mul_one]
 done:=by
  intro X hP hw hK hc i pins s σ H E I hf st hg
  subst hP hw hK
  obtain ⟨f0,f1,f2,f3,f4,f5⟩:=hf it (by simp)
  exact wpAny_pyNext_range_end (I.ok.hd hc) st (by have:n ≤ i:=hg; omega) fun h' eb=>⟨rfl,I.turned (t':=s.toks) (fun b o hb e=>eb b o hb e) f0 f1 f3 f4 f5⟩
 self:=fun _ _ _ _ _ st h=>wpAny_pyIter_rangeiter st h
section
variable {X:Cx} {tg:Expr}
theorem range_it {pins:List (Addr × Obj)} {σ:St} {H:Hp} {s:Shared} {R:It→Hp→Prop} {E:Value→Shared→Prop} {lo hi:Int} {t u v:Tok} {tk:Nat} (I:Inv X pins σ H s) (h1:-(2 ^ 62) ≤ lo) (h2:lo < 2 ^ 62) (h3:-(2 ^ 62) ≤ hi) (h4:hi < 2 ^ 62)
  (q:R (Itr lo (hi - lo).toNat) H):wpAny (model X.prog X.w) X.A (pyIter (.ref s.heap.objs.size)) (PIE X pins σ tg R) E { s with heap:=s.heap.push { cls:=.type "range",data:=.fields #[.int lo t,.int hi u,.int 1 v] },toks:=tk }:=by
 refine wpAny_pyIter_range (IsRange.new ..) (small_one h1 h2 h3 h4) ?_
 have I1:Inv X pins σ H { s with heap:=s.heap.push { cls:=.type "range",data:=.fields #[.int lo t,.int hi u,.int 1 v] },toks:=tk }:=I.kept fun b o e=>Heap.get?_push_of_some _ e
 refine ⟨(s.heap.push { cls:=.type "range",data:=.fields #[.int lo t,.int hi u,.int 1 v] }).objs.size,[(s.heap.push { cls:=.type "range",data:=.fields #[.int lo t,.int hi u,.int 1 v] }).objs.size],_,_,H,rfl,
  I1.kept (t':=tk) fun b o e=>Heap.get?_push_of_some _ e,turn_range _ lo (hi - lo).toNat,?_,fun b hb=>?_,q⟩
 ·have e1:lo + ((0:Nat):Int) * 1 = lo:=by simp
  have e2:(((hi - lo).toNat:Nat):Int) - ((0:Nat):Int) = Builtin.Range.rangeSize lo hi 1:=by rw [rangeSize_one]; split <;> omega
  show IsRangeIter _ _ (lo + ((0:Nat):Int) * 1) ((((hi - lo).toNat:Nat):Int) - ((0:Nat):Int)) 1
  rw [e1,e2]
  exact Heap.get?_push_size _ rfl
 ·have e:b = (s.heap.push { cls:=.type "range",data:=.fields #[.int lo t,.int hi u,.int 1 v] }).objs.size:=by simpa using hb
  subst e
  exact I1.fpOk (Nat.le_refl _) (I1.hok.fresh (Nat.le_refl _))
def iRng1 (ta:TA):TI:=fun σ H R=>ta σ H fun vs H1=>∃ j:Int,vs = [.int j]∧-(2 ^ 62) ≤ j∧j < 2 ^ 62∧R (Itr 0 j.toNat) H1
theorem pi_range1 {a:Expr} {ta:TA} {p pos:Pos} (hg:Gl X "range") (hm:X.mg "range" = none) (ha:PA X [a] ta) (hs:starEach [a] X.env = [(false,eval a X.env)]:=by rfl):PI X tg (.Call (.Name "range" p) [a] [] pos) (iRng1 ta):=by
 intro pins s σ H R I h
 refine Call_ (ld_blt I hg hm boot_range (PyProof.Rows.callWith_type1 (thn (ha pos pins s σ H _ I h) fun us s1 ⟨vs,H1,I1,r1,q1⟩=>?_) hs rfl))
 obtain ⟨j,e,q1,q2,q⟩:=q1
 subst e
 cases r1 with
 | cons r rr =>
  cases rr
  obtain ⟨t,rfl⟩:=r
  exact call_range_1 (range_it I1 (by omega) (by omega) q1 q2 (by simpa using q))
def tFor (wi:TI) (g:TG) (tb:TS):TS:=fun D σ H=>wi σ H fun J H1=>∃ W:Nat→Nat→St→Hp→Prop,(∃ m,W 0 m σ H1)∧∀ i m σ H,W i m σ H →
 (J.stop i H∧D.nx σ H) ∨ (J.go i H∧∃ N:St→Hp→Prop,(∀ σ' H',N σ' H'→∃ m',m' < m∧W (i + 1) m' σ' H')∧∀ x H',J.yld i H x H'→g x σ H' fun σ2 H2=>tb { D with nx:=N,ct:=N,bk:=D.nx } σ2 H2)
def pinsAt (fp:List Addr) (h:Heap):List (Addr × Obj):=fp.filterMap fun b=>(h.get? b).map fun o=>(b,o)
theorem mem_pinsAt {fp:List Addr} {h:Heap} {b:Addr} {o:Obj} (hb:b ∈ fp) (e:h.get? b = some o):(b,o) ∈ pinsAt fp h:=List.mem_filterMap.mpr ⟨b,hb,by rw [e]; rfl⟩
theorem of_pinsAt {fp:List Addr} {h:Heap} {p:Addr × Obj} (hp:p ∈ pinsAt fp h):p.1 ∈ fp∧h.get? p.1 = some p.2:=by
 obtain ⟨b,hb,e⟩:=List.mem_filterMap.mp hp
 cases q:h.get? b with
 | none=>rw [q] at e; cases e
 | some o =>
  rw [q] at e
  have e':(b,o) = p:=Option.some.inj e
  subst e'
  exact ⟨hb,q⟩
theorem Inv.pinned {pins:List (Addr × Obj)} {σ:St} {H:Hp} {s:Shared} {fp:List Addr} (I:Inv X pins σ H s) (hf:∀ b ∈ fp,FpOk X pins H b) (ho:∀ b ∈ fp,∃ o,s.heap.get? b = some o∧∀ v,o.data ≠ .cell v):Inv X (pins ++ pinsAt fp s.heap) σ H s :=
 I.pins_of fun p hp=>(List.mem_append.mp hp).elim (fun z=>I.pin p (List.mem_append_right _ z)) fun z=>by
  obtain ⟨hb,e⟩:=of_pinsAt z
  obtain ⟨f0,f1,f2,_⟩:=hf p.1 hb
  obtain ⟨o,e',d⟩:=ho p.1 hb
  rw [e] at e'; cases e'
  exact ⟨e,f0,f1,f2,d⟩
theorem Inv.unpinned {pins pl:List (Addr × Obj)} {σ:St} {H:Hp} {s:Shared} (I:Inv X (pins ++ pl) σ H s):Inv X pins σ H s:=I.pins_of fun p hp=>I.pin p (List.mem_append_right _ (List.mem_append_left _ hp))
theorem ps_for {iter:Expr} {body:List Stmt} {wi:TI} {g:TG} {tb:TS} {pos:Pos} (hp:PassesOwn (model X.prog X.w) X.A X.env X.xe) (hc:X.calm = true) (hi:PI X tg iter wi) (hg:PG X tg g) (hb:PSs X body tb)
  (hs:∀ x,foldedSetIterable iter X.env x = pure x:=by intro _; rfl):PS X (.For tg iter body [] pos) (tFor wi g tb):=by
 intro pins s σ H D I h
 refine wpAny_For (thn (hi pins s σ H _ I h) fun v s1 h1=>thn h1 fun itv s2 h2=>?_) hs
 obtain ⟨it,fp,tn,J,H2,e,I2,T,st2,f2,W,⟨m0,w0⟩,turn⟩:=h2
 subst e
 have stat:∀ {H':Hp},(∀ b ∈ fp,H' b = none)→∀ b ∈ fp,FpOk X pins H' b:=fun hn b hb=>⟨hn b hb,(f2 b hb).2⟩
 refine codeAny_forLoop_any (fun n s'=>∃ i σ' H',Inv X pins σ' H' s'∧tn i s'.heap∧(∀ b ∈ fp,H' b = none)∧W i n σ' H') ?_ m0 ⟨0,σ,H2,I2,st2,fun b hb=>(f2 b hb).1,w0⟩
 rintro n s3 ⟨i,σ3,H3,I3,st3,fr3,w3⟩
 rcases turn i n σ3 H3 w3 with ⟨stop,qn⟩ | ⟨go,N,hN,step⟩
 ·refine wpAny_passesOwn hp (thn (T.done X rfl rfl rfl hc i pins s3 σ3 H3 X.xe I3 (stat fr3) st3 stop) fun r s4 ⟨hr,I4⟩=>?_)
  subst hr
  exact wpAny_execs_nil ⟨σ3,H3,I4,qn⟩
 ·refine wpAny_passesOwn hp (thn (T.item X rfl rfl rfl hc i pins s3 σ3 H3 X.xe I3 (stat fr3) st3 go) fun r s4 ⟨u,hr,h4⟩=>?_)
  subst hr
  refine wpAny_passesOwn hp (thn h4 fun _ s5 ⟨x,H5,I5,r5,y5,st5,fr5⟩=>?_)
  have I5':=I5.pinned (stat fr5) (T.obj _ _ st5)
  refine wpAny_passesOwn hp (thn (hg _ s5 σ3 H5 x u _ I5' r5 (step x H5 y5)) fun _ s6 ⟨σ6,H6,I6,q6⟩=>?_)
  refine wpAny_passesOwn hp (thn (hb _ s6 σ6 H6 _ I6 q6) fun f s7 q7=>?_)
  have again:∀ {σ7:St} {H7:Hp},Inv X (pins ++ pinsAt fp s5.heap) σ7 H7 s7→N σ7 H7→∃ m,m < n∧∃ i σ' H',Inv X pins σ' H' s7∧tn i s7.heap∧(∀ b ∈ fp,H' b = none)∧W i m σ' H':=fun {σ7 H7} I7 n7=>by
   obtain ⟨m',hm,w7⟩:=hN σ7 H7 n7
   refine ⟨m',hm,i + 1,σ7,H7,I7.unpinned,T.keep _ _ _ st5 fun b hb o e=>(I7.pin (b,o) (List.mem_append_right _ (List.mem_append_right _ (mem_pinsAt hb e)))).1,fun b hb=>?_,w7⟩
   obtain ⟨o,e,d⟩:=T.obj _ _ st5 b hb
   exact (I7.pin (b,o) (List.mem_append_right _ (List.mem_append_right _ (mem_pinsAt hb e)))).2.1
  cases f with
  | next=>obtain ⟨σ7,H7,I7,n7⟩:=q7; exact again I7 n7
  | cont=>obtain ⟨σ7,H7,I7,n7⟩:=q7; exact again I7 n7
  | brk=>obtain ⟨σ7,H7,I7,q7⟩:=q7; exact ⟨σ7,H7,I7.unpinned,q7⟩
  | ret v=>obtain ⟨x7,σ7,H7,I7,r7,q7⟩:=q7; exact ⟨x7,σ7,H7,I7.unpinned,r7,q7⟩
end
abbrev R2:=V→V→Hp→VK→Prop
def OpR (X:Cx) (f:Value→Value→Sem Value) (r:R2):Prop :=
 ∀ (pins:List (Addr × Obj)) (s:Shared) (σ:St) (H:Hp) (x y:V) (v u:Value) (Q:VK),Inv X pins σ H s→RelV x v→RelV y u→r x y H Q →
  wpAny (model X.prog X.w) X.A (f v u) (EP X pins σ Q) X.xe s
def CallR (X:Cx) (f:Value) (r:List V→Hp→VK→Prop):Prop :=
 ∀ (pins:List (Addr × Obj)) (s:Shared) (σ:St) (H:Hp) (xs:List V) (us:List Value) (Q:VK),Inv X pins σ H s→Vals xs us→r xs H Q →
  wpAny (model X.prog X.w) X.A (call f us) (EP X pins σ Q) X.xe s
def tOp (r:R2) (ta tb:TE):TE:=fun σ H Q=>ta σ H fun x H1=>tb σ H1 fun y H2=>r x y H2 Q
def rI (C:Int→Int→Prop) (g:Int→Int→V):R2:=fun x y H Q=>∃ i j,x = .int i∧y = .int j∧C i j∧Q (g i j) H
def rI0 (g:Int→Int→V):R2:=fun x y H Q=>∃ i j,x = .int i∧y = .int j∧Q (g i j) H
section
variable {X:Cx} {a b c:Expr} {ta tb tc:TE} {pos:Pos}
theorem binT (ha:PE X a ta) (hb:PE X b tb) {pins:List (Addr × Obj)} {s:Shared} {σ:St} {H:Hp} {R:V→V→Hp→Prop} (I:Inv X pins σ H s)
  (h:ta σ H fun x H1=>tb σ H1 fun y H2=>R x y H2) {Q:Value→Shared→Prop} {f:Value→Value→Sem Value}
  (hf:∀ v u s2 x y H2,Inv X pins σ H2 s2→RelV x v→RelV y u→R x y H2→wpAny (model X.prog X.w) X.A (f v u) Q X.xe s2) :
  wpAny (model X.prog X.w) X.A (eval a X.env) (fun v s₁=>wpAny (model X.prog X.w) X.A (eval b X.env) (fun u s₂=>wpAny (model X.prog X.w) X.A (f v u) Q X.xe s₂) X.xe s₁) X.xe s:=by
 refine thn (ha pins s σ H _ I h) fun v s1 ⟨x,H1,I1,r1,q1⟩=>?_
 refine thn (hb pins s1 σ H1 _ I1 q1) fun u s2 ⟨y,H2,I2,r2,q2⟩=>?_
 exact hf v u s2 x y H2 I2 r1 r2 q2
theorem pe_op {op:Operator} {r:R2} (ho:OpR X (binaryOp op) r) (ha:PE X a ta) (hb:PE X b tb):PE X (.BinOp a op b pos) (tOp r ta tb):=by
 intro pins s σ H Q I h
 exact wpAny_BinOp (binT ha hb I h fun v u s2 x y H2 I2 rx ry q=>ho pins s2 σ H2 x y v u Q I2 rx ry q)
theorem opI {f:Value→Value→Sem Value} {C:Int→Int→Prop} {g:Int→Int→Int}
  (rule:∀ (i j:Int) (t u:Tok) (s:Shared) (Q:Value→Shared→Prop) (E:Value→Shared→Prop),C i j→Q (.int (g i j) s.toks) { s with toks:=s.toks + 1 }→wpAny (model X.prog X.w) X.A (f (.int i t) (.int j u)) Q E s) :
  OpR X f (rI C fun i j=>.int (g i j)):=by
 intro pins s σ H x y v u Q I rx ry h
 obtain ⟨i,j,rfl,rfl,hc,q⟩:=h
 obtain ⟨t,rfl⟩:=rx
 obtain ⟨t',rfl⟩:=ry
 exact rule i j t t' s _ _ hc ⟨.int (g i j),H,I.tok _,⟨_,rfl⟩,q⟩
theorem opI0 {f:Value→Value→Sem Value} {g:Int→Int→Int}
  (rule:∀ (i j:Int) (t u:Tok) (s:Shared) (Q:Value→Shared→Prop) (E:Value→Shared→Prop),Q (.int (g i j) s.toks) { s with toks:=s.toks + 1 }→wpAny (model X.prog X.w) X.A (f (.int i t) (.int j u)) Q E s) :
  OpR X f (rI0 fun i j=>.int (g i j)):=by
 intro pins s σ H x y v u Q I rx ry h
 obtain ⟨i,j,rfl,rfl,q⟩:=h
 obtain ⟨t,rfl⟩:=rx
 obtain ⟨t',rfl⟩:=ry
 exact rule i j t t' s _ _ ⟨.int (g i j),H,I.tok _,⟨_,rfl⟩,q⟩
theorem opB0 {f:Value→Value→Sem Value} {g:Int→Int→Bool}
  (rule:∀ (i j:Int) (t u:Tok) (s:Shared) (Q:Value→Shared→Prop) (E:Value→Shared→Prop),Q (.bool (g i j)) s→wpAny (model X.prog X.w) X.A (f (.int i t) (.int j u)) Q E s) :
  OpR X f (rI0 fun i j=>.bl (g i j)):=by
 intro pins s σ H x y v u Q I rx ry h
 obtain ⟨i,j,rfl,rfl,q⟩:=h
 obtain ⟨t,rfl⟩:=rx
 obtain ⟨t',rfl⟩:=ry
 exact rule i j t t' s _ _ ⟨.bl (g i j),H,I,rfl,q⟩
def CPow (i j:Int):Prop:=0 ≤ j∧j ≤ 1000000∧i.natAbs < 2 ^ 64
def CMul (i j:Int):Prop:=(-(2 ^ 64) < i∧i < 2 ^ 64) ∨ (-(2 ^ 64) < j∧j < 2 ^ 64)
theorem CMul.ok {i j:Int} (h:CMul i j):IntMulOk i j:=by
 rcases h with ⟨h1,h2⟩ | ⟨h1,h2⟩
 ·exact .of_left (intBits_le_64 h1 h2)
 ·exact .of_right (intBits_le_64 h1 h2)
theorem op_add:OpR X (binaryOp .Add) (rI0 fun i j=>.int (i + j)):=opI0 fun _ _ _ _ _ _ _ q=>add_int q
theorem op_sub:OpR X (binaryOp .Sub) (rI0 fun i j=>.int (i - j)):=opI0 fun _ _ _ _ _ _ _ q=>sub_int q
theorem op_mul:OpR X (binaryOp .Mult) (rI CMul fun i j=>.int (i * j)):=opI fun _ _ _ _ _ _ _ hc q=>mul_int q hc.ok
theorem op_mod:OpR X (binaryOp .Mod) (rI (fun _ j=>0 < j) fun i j=>.int (i % j)):=opI fun i j _ _ _ _ _ hc q=>by
 have h1:(0:Int) < j:=hc
 exact mod_int' (by omega) (by rw [Int.fmod_eq_emod_of_nonneg i (by omega)]; exact q)
theorem op_pow:OpR X (binaryOp .Pow) (rI CPow fun i j=>.int (i ^ j.toNat)):=opI fun _ _ _ _ _ _ _ hc q=>pow_int_small hc.1 hc.2.1 hc.2.2 q
theorem op_shl:OpR X (binaryOp .LShift) (rI CPow fun i j=>.int (i * 2 ^ j.toNat)):=opI fun _ _ _ _ _ _ _ hc q=>lshift_int_small hc.1 hc.2.1 hc.2.2 q
theorem op_xor:OpR X (binaryOp .BitXor) (rI0 fun i j=>.int (Builtin.bitXor i j)):=opI0 fun _ _ _ _ _ _ _ q=>xor_int q
end
section
variable {X:Cx} {a b c:Expr} {ta tb tc:TE} {pos:Pos}
theorem op_lt:OpR X (compareOp .Lt) (rI0 fun i j=>.bl (decide (i < j))):=opB0 fun _ _ _ _ _ _ _ q=>lt_int q
theorem op_le:OpR X (compareOp .LtE) (rI0 fun i j=>.bl (decide (i ≤ j))):=opB0 fun _ _ _ _ _ _ _ q=>le_int q
theorem op_gt:OpR X (compareOp .Gt) (rI0 fun i j=>.bl (decide (j < i))):=opB0 fun _ _ _ _ _ _ _ q=>gt_int q
theorem op_ge:OpR X (compareOp .GtE) (rI0 fun i j=>.bl (decide (j ≤ i))):=opB0 fun _ _ _ _ _ _ _ q=>ge_int q
theorem OpR.or {f:Value→Value→Sem Value} {r r':R2} (h:OpR X f r) (h':OpR X f r'):OpR X f (fun x y H Q=>r x y H Q ∨ r' x y H Q):=by
 intro pins s σ H x y v u Q I rx ry q
 rcases q with q | q
 ·exact h pins s σ H x y v u Q I rx ry q
 ·exact h' pins s σ H x y v u Q I rx ry q
theorem nomark (b:Expr) {op:CmpOp} (h:op ≠ .In:=by decide) (h2:op ≠ .NotIn:=by decide):behindInMarks op b = false:=by
 have e1:(op == CmpOp.In) = false:=by cases op <;> first | rfl | exact absurd rfl h
 have e2:(op == CmpOp.NotIn) = false:=by cases op <;> first | rfl | exact absurd rfl h2
 cases b <;> simp [behindInMarks,e1,e2]
theorem pe_cmpR {op:CmpOp} {r:R2} (ho:OpR X (compareOp op) r) (ha:PE X a ta) (hb:PE X b tb) (hm:behindInMarks op b = false):PE X (.Compare a [op] [b] pos) (tOp r ta tb):=by
 intro pins s σ H Q I h
 exact wpAny_Compare1 (binT ha hb I h fun v u s2 x y H2 I2 rx ry q=>ho pins s2 σ H2 x y v u Q I2 rx ry q) hm
def tTest (t:TE):TT:=fun σ H Q=>t σ H fun x H'=>∃ k,x = .bl k∧Q k H'
theorem pt_cmpR {op:CmpOp} {r:R2} (ho:OpR X (compareOp op) r) (ha:PE X a ta) (hb:PE X b tb) (hm:behindInMarks op b = false):PT X (.Compare a [op] [b] pos) (tTest (tOp r ta tb)):=by
 intro pins s σ H Q I h
 refine wpAny_isTrue_Compare1 (thn (ha pins s σ H _ I h) fun v s1 ⟨x,H1,I1,r1,q1⟩=>thn (hb pins s1 σ H1 _ I1 q1) fun u s2 ⟨y,H2,I2,r2,q2⟩ =>
  thn (ho pins s2 σ H2 x y v u _ I2 r1 r2 q2) fun c s3 ⟨z,H3,I3,r3,k,e,q3⟩=>?_) hm
 subst e
 cases r3
 exact wpAny_truthy_bool ⟨H3,I3,q3⟩
def tChain (r r':R2) (ta tb tc:TE):TE:=fun σ H Q=>ta σ H fun x H1=>tb σ H1 fun y H2=>r x y H2 fun z H3=>∃ k,z = .bl k ∧
 (if k = true then tc σ H3 fun w' H4=>r' y w' H4 Q else Q (.bl false) H3)
theorem pe_chain {op op':CmpOp} {r r':R2} (ho:OpR X (compareOp op) r) (ho':OpR X (compareOp op') r') (ha:PE X a ta) (hb:PE X b tb) (hc:PE X c tc)
  (hm:lastMarks [op,op'] [b,c] = false:=by with_unfolding_all rfl):PE X (.Compare a [op,op'] [b,c] pos) (tChain r r' ta tb tc):=by
 intro pins s σ H Q I h
 refine Compare_chain (thn (ha pins s σ H _ I h) fun v s1 ⟨x,H1,I1,r1,q1⟩=>chain_link (thn (hb pins s1 σ H1 _ I1 q1) fun u s2 ⟨y,H2,I2,r2,q2⟩ =>
  thn (ho pins s2 σ H2 x y v u _ I2 r1 r2 q2) fun d s3 ⟨z,H3,I3,r3,k,e,q3⟩=>?_)) hm
 subst e
 cases r3
 refine wpAny_truthy_bool ?_
 cases k with
 | false=>exact ite_ff ⟨.bl false,H3,I3,rfl,q3⟩
 | true=>exact ite_tt (chain_last (thn (hc pins s3 σ H3 _ I3 q3) fun w' s4 ⟨z',H4,I4,r4,q4⟩=>ho' pins s4 σ H4 y z' u w' Q I4 r2 r4 q4))
theorem line63:(sizeLine:Nat) < 2 ^ 63:=by rw [sizeLine_eq]; decide
theorem vals1 {x:V} {us:List Value} (r:Vals [x] us):∃ u,us = [u]∧RelV x u:=by
 cases r with
 | cons r1 r2=>cases r2; exact ⟨_,rfl,r1⟩
theorem vals2 {x y:V} {us:List Value} (r:Vals [x,y] us):∃ u w',us = [u,w']∧RelV x u∧RelV y w':=by
 cases r with
 | cons r1 r2 =>
  cases r2 with
  | cons r3 r4=>cases r4; exact ⟨_,_,rfl,r1,r3⟩
theorem call_max2 (hc:X.calm = true):CallR X (.builtin "max") (fun xs H Q=>∃ i j,xs = [.int i,.int j]∧Q (.int (if j > i then j else i)) H):=by
 intro pins s σ H xs us Q I r h
 obtain ⟨i,j,rfl,q⟩:=h
 obtain ⟨u,w',rfl,⟨t,rfl⟩,⟨t',rfl⟩⟩:=vals2 r
 refine max_two_ints (I.ok.hd hc) fun h' tk k=>⟨_,H,I.kept k,?_,q⟩
 by_cases hj:j > i
 ·rw [if_pos hj,if_pos hj]; exact ⟨_,rfl⟩
 ·rw [if_neg hj,if_neg hj]; exact ⟨_,rfl⟩
theorem call_min2 (hc:X.calm = true):CallR X (.builtin "min") (fun xs H Q=>∃ i j,xs = [.int i,.int j]∧Q (.int (if j < i then j else i)) H):=by
 intro pins s σ H xs us Q I r h
 obtain ⟨i,j,rfl,q⟩:=h
 obtain ⟨u,w',rfl,⟨t,rfl⟩,⟨t',rfl⟩⟩:=vals2 r
 refine min_two_ints (I.ok.hd hc) fun h' tk k=>⟨_,H,I.kept k,?_,q⟩
 by_cases hj:j < i
 ·rw [if_pos hj,if_pos hj]; exact ⟨_,rfl⟩
 ·rw [if_neg hj,if_neg hj]; exact ⟨_,rfl⟩
end
structure ObjM (h:Heap) (x dx C:Addr) (mA:Str→Option Value):Prop where
 obj:h.get? x = some (PySem.W.instObj C dx)
 ns:h.Ns1 dx mA
 ne:dx ≠ x
theorem lookIn_ns {h:Heap} {dx:Addr} {mA:Str→Option Value} (n:h.Ns1 dx mA):∃ od,h.get? dx = some od∧∀ name,PySem.W.lookIn name od = some (mA name):=by
 obtain ⟨o,es,ep,ho,hd,hk,_,hm⟩:=n
 refine ⟨o,ho,fun name=>?_⟩
 have e:=hm name
 unfold nsFind findBy at e
 rw [← Array.find?_toList] at e
 unfold PySem.W.lookIn
 rw [hd]
 dsimp only
 split
 ·rename_i y q
  rw [q] at e
  exact congrArg some e
 ·rename_i q
  rw [q] at e
  have a:es.toList.any (·.refKey) = false:=by
   rw [List.any_eq_false]
   intro y hy
   obtain ⟨z,t,hkey⟩:=hk y (Array.mem_toList_iff.mp hy)
   simp [DictEntry.refKey,hkey]
  have a':¬ es.toList.any (·.refKey) = true:=by rw [a]; exact Bool.false_ne_true
  rw [if_neg a']
  exact congrArg some e
theorem ObjM.look {h:Heap} {x dx C:Addr} {mA:Str→Option Value} (I:ObjM h x dx C mA):∃ od,PySem.W.InstAt h x (PySem.W.instObj C dx) C (some od)∧∀ name,PySem.W.lookIn name od = some (mA name) :=
 let ⟨od,ho,hl⟩:=lookIn_ns I.ns
 ⟨od,⟨I.obj,rfl,rfl,ho⟩,hl⟩
theorem RelO.some_of {v:V} {o:Option Value} (r:RelO (some v) o):∃ u,o = some u∧RelV v u:=by
 cases o with
 | none=>exact (show False from r).elim
 | some u=>exact ⟨u,rfl,r⟩
section
variable {P:Program} {w:World} {H H':Hp} {h h':Heap} {a C dx:Addr} {fs fs':List (Str × V)}
theorem ins_get (hok:HOk P w H h) (e:H a = some (.ins C dx fs)):∃ mA,ObjM h a dx C mA∧(∀ f,RelO (fs.lookup f) (mA f))∧PySem.Within mA (fs.map (·.1))∧fs.length ≤ 1000∧H dx = some (.own a):=by
 obtain ⟨d,z,ne,ob,mA,n,r,q⟩:=(show ObjOk P w H h a (.ins C dx fs) from hok a _ e)
 exact ⟨mA,⟨ob,n,ne⟩,r,q,z,d⟩
end
structure Cls (K:PySem.W.Frag) (C:Addr):Prop where
 pg:PySem.W.plainGet K C Str.empty = true
 hd:PySem.W.hasDictIn K C = true
 po:PySem.W.plainOver K C = true
 sa:PySem.W.findIn K (.ref C) "__setattr__" = some (some (.builtin "object.__setattr__"))
theorem Cls.get {K:PySem.W.Frag} {C:Addr} (c:Cls K C) (f:Str):PySem.W.plainGet K C f = true:=c.pg
section
variable {X:Cx} {pins:List (Addr × Obj)} {σ:St} {H:Hp} {s:Shared} {A:Around} {E:Value→Shared→Prop} {Q:Value→Shared→Prop} {c:Value} {b:Bool}
inductive TyOf (K:PySem.W.Frag) (H:Hp):V→Value→Prop where
 | non:TyOf K H .non (.type "NoneType")
 | bl (x:Bool):TyOf K H (.bl x) (.type "bool")
 | int (i:Int):TyOf K H (.int i) (.type "int")
 | str (x:Str):TyOf K H (.str x) (.type "str")
 | flt (x:UInt64):TyOf K H (.flt x) (.type "float")
 | lst {a:Addr} {xs:List V} (e:H a = some (.lst xs)):TyOf K H (.ref a) (.type "list")
 | frz {a:Addr} {o:Obj} {xs:List V} (e:H a = some (.frz o (.lst xs))):TyOf K H (.ref a) (.type "list")
 | tup {a:Addr} {xs:List V} (e:H a = some (.tup xs)):TyOf K H (.ref a) (.type "tuple")
 | dK {a:Addr} {kvs:List (Key × V)} (e:H a = some (.dK kvs)):TyOf K H (.ref a) (.type "dict")
 | dT {a:Addr} {kvs:List (List Key × V)} (e:H a = some (.dT kvs)):TyOf K H (.ref a) (.type "dict")
 | ins {a C dx:Addr} {fs:List (Str × V)} (e:H a = some (.ins C dx fs)) (cl:Cls K C) (ha:PySem.W.findIn K (.ref C) "__class__" = some (some (.builtin "object.__class__")))
   (hn:PySem.W.specialIn K (.builtin "object.__class__") "__get__" = some (some (.builtin "getset_descriptor.__get__"))) (htk:PySem.W.takesIn K (.builtin "object.__class__") = some true)
   (hm:PySem.W.mroIn K C (.type "object") = some true):TyOf K H (.ref a) (.ref C)
theorem isinst_ok {x:V} {u t:Value} (I:Inv X pins σ H s) (rx:RelV x u) (ty:TyOf X.K H x t) (e:PySem.W.kitOne X.K t c = some b) (h:∀ tk,Q (.bool b) { s with toks:=tk }) :
  wpAny (model X.prog X.w) A (call (.builtin "isinstance") [u,c]) Q E s:=by
 cases ty with
 | non=>cases (show u = Value.none from rx); exact PySem.W.kia_one PySem.W.kitx_none I.kIn True.intro e (fun z=>nomatch z) h
 | bl y=>cases (show u = Value.bool y from rx); exact PySem.W.kia_one PySem.W.kitx_bool I.kIn True.intro e (fun z=>nomatch z) h
 | int i=>obtain ⟨t,q⟩:=(show ∃ t,u = Value.int i t from rx); cases q; exact PySem.W.kia_one PySem.W.kitx_int I.kIn True.intro e (fun z=>nomatch z) h
 | str y=>obtain ⟨t,q⟩:=(show ∃ t,u = Value.str y t from rx); cases q; exact PySem.W.kia_one PySem.W.kitx_str I.kIn True.intro e (fun z=>nomatch z) h
 | flt y=>obtain ⟨t,q⟩:=(show ∃ t,u = Value.float y t from rx); cases q; exact PySem.W.kia_one PySem.W.kitx_float I.kIn True.intro e (fun z=>nomatch z) h
 | @lst a xs ea =>
  cases (show u = Value.ref a from rx)
  obtain ⟨_,_,n,_,h1⟩:=(show ObjOk X.prog X.w H s.heap a (.lst xs) from I.hok a _ ea)
  exact PySem.W.kia_one PySem.W.kitx_list I.kIn ⟨_,h1,rfl⟩ e (fun z=>nomatch z) h
 | @frz a ob xs ea =>
  cases (show u = Value.ref a from rx)
  obtain ⟨_,_,_,n,_,h1⟩:=(show ObjOk X.prog X.w H s.heap a (.frz ob (.lst xs)) from I.hok a _ ea)
  exact PySem.W.kia_one PySem.W.kitx_list I.kIn ⟨_,h1,rfl⟩ e (fun z=>nomatch z) h
 | @tup a xs ea =>
  cases (show u = Value.ref a from rx)
  obtain ⟨_,_,_,p⟩:=(show ObjOk X.prog X.w H s.heap a (.tup xs) from I.hok a _ ea)
  obtain ⟨o,h1,h2,_⟩:=p
  exact PySem.W.kia_one PySem.W.kitx_tuple I.kIn ⟨o,h1,h2⟩ e (fun z=>nomatch z) h
 | @dK a kvs ea =>
  cases (show u = Value.ref a from rx)
  obtain ⟨_,_,vs,_,p⟩:=(show ObjOk X.prog X.w H s.heap a (.dK kvs) from I.hok a _ ea)
  obtain ⟨o,es,ep,h1,h2,_⟩:=p
  exact PySem.W.kia_one PySem.W.kitx_dict I.kIn ⟨o,h1,h2.1⟩ e (fun z=>nomatch z) h
 | @dT a kvs ea =>
  cases (show u = Value.ref a from rx)
  obtain ⟨_,_,xs,_,o,es,ep,h1,h2,_⟩:=(show ObjOk X.prog X.w H s.heap a (.dT kvs) from I.hok a _ ea)
  exact PySem.W.kia_one PySem.W.kitx_dict I.kIn ⟨o,h1,h2.1⟩ e (fun z=>nomatch z) h
 | @ins a C dx fs ea cl ha hn htk hm =>
  cases (show u = Value.ref a from rx)
  obtain ⟨mA,O,_⟩:=ins_get I.hok ea
  obtain ⟨od,J,_⟩:=O.look
  exact PySem.W.kia_one (PySem.W.kitx_own (cl.get _) cl.hd ha hn htk hm) I.kIn J e (fun z=>nomatch z) h
end
structure Room (k:Nat) (A:Around):Prop where
 hd:A.handled = none
 dp:A.depth + 3 * k + 5 < recursionLimit
 un:A.units + 16 * k + 200 < cLine
theorem Room.mono {j k:Nat} {A:Around} (r:Room k A) (h:j ≤ k):Room j A:=⟨r.hd,by have:=r.dp; omega,by have:=r.un; omega⟩
theorem Room.deeper {k:Nat} {A:Around} (r:Room (k + 1) A) (env:Env):Room k (A.deeper env) :=
 ⟨r.hd,by have:=r.dp; show A.depth + 1 + 3 * k + 5 < _; omega,by have:=r.un; show A.units + 3 + 16 * k + 200 < _; omega⟩
theorem Room.in1 {k:Nat} {A:Around} (r:Room (k + 1) A):Room k A.in1 :=
 ⟨r.hd,by have:=r.dp; show A.depth + 3 * k + 5 < _; omega,by have:=r.un; show A.units + 1 + 16 * k + 200 < _; omega⟩
theorem Room.depth {k:Nat} {A:Around} (r:Room k A):A.depth < recursionLimit:=by have:=r.dp; omega
theorem Room.units {k:Nat} {A:Around} (r:Room k A):A.units + 64 < cLine:=by have:=r.un; omega
def tNil:TA:=fun _ H Q=>Q [] H
def tCons (ta:TE) (tr:TA):TA:=fun σ H Q=>ta σ H fun x H1=>tr σ H1 fun xs H2=>Q (x :: xs) H2
section
variable {X:Cx} {e:Expr} {es:List Expr} {te:TE} {t:TA} {pos:Pos}
theorem pa_nil:PA X [] tNil:=fun _ _ _ _ H Q I h=>Calls.spliced_nil ⟨[],H,I,.nil,h⟩
theorem pa_cons (ha:PE X e te) (hr:PA X es t) (hs:starEach (e :: es) X.env = (false,eval e X.env) :: starEach es X.env:=by rfl):PA X (e :: es) (tCons te t):=by
 intro pos pins s σ H Q I h
 rw [hs]
 show wpAny _ _ (spliced ((false,eval e X.env) :: backTo pos (starEach es X.env))) _ _ s
 refine Calls.spliced_cons (thn (ha pins s σ H _ I h) fun u s1 ⟨x,H1,I1,r1,q1⟩=>?_)
 exact thn (hr pos pins s1 σ H1 _ I1 q1) fun us s2 ⟨xs,H2,I2,r2,q2⟩=>⟨x :: xs,H2,I2,.cons r1 r2,q2⟩
def tTup (t:TA):TE:=fun σ H Q=>t σ H fun xs H1=>xs.length ≤ sizeLine∧∀ p,H1 p = none→Q (.ref p) (upd H1 p (.tup xs))
def tLst (t:TA):TE:=fun σ H Q=>t σ H fun xs H1=>xs.length ≤ sizeLine∧∀ p,H1 p = none→Q (.ref p) (upd H1 p (.lst xs))
theorem pe_tup {x1} (h:PA X es t):PE X (.Tuple es x1 pos) (tTup t):=by
 intro pins s σ H Q I hq
 refine wpAny_Tuple_spliced (thn (h pos pins s σ H _ I hq) fun us s1 ⟨xs,H1,I1,r,z,q⟩=>⟨by rw [← r.length]; exact z,?_⟩)
 have hf:H1 s1.heap.objs.size = none:=I1.hok.fresh (Nat.le_refl _)
 refine ⟨.ref s1.heap.objs.size,upd H1 s1.heap.objs.size (.tup xs),I1.laid (t':=s1.toks) (fun b u e=>Heap.get?_push_of_some _ e) (Nat.le_refl _) ?_,rfl,q _ hf⟩
 exact ⟨z,us,r,⟨_,Heap.get?_push_size _ rfl,rfl,_,rfl⟩⟩
theorem pe_lst (h:PA X es t):PE X (.List es pos) (tLst t):=by
 intro pins s σ H Q I hq
 refine wpAny_List_spliced (thn (h pos pins s σ H _ I hq) fun us s1 ⟨xs,H1,I1,r,z,q⟩=>⟨by rw [← r.length]; exact z,?_⟩)
 have hf:H1 s1.heap.objs.size = none:=I1.hok.fresh (Nat.le_refl _)
 refine ⟨.ref s1.heap.objs.size,upd H1 s1.heap.objs.size (.lst xs),I1.laid (t':=s1.toks) (fun b u e=>Heap.get?_push_of_some _ e) (Nat.le_refl _) ?_,rfl,q _ hf⟩
 exact ⟨z,us,0,r,Heap.get?_push_size _ rfl⟩
end
abbrev Sp:=List V→Hp→VK→XK→Prop
abbrev CXT:=List Env→Hp→Shared→XK→Value→Shared→Prop
structure Env0 (P:Program) (w:World) (K:PySem.W.Frag) (mg:Str→Option Value) (base:Heap) (A:Around) (outer:List Env) (s:Shared) (H:Hp):Prop where
 frames:A.frames = some outer
 mod:Mod K mg base
 bs:∀ b o,base.get? b = some o→s.heap.get? b = some o∧H b = none
 bsz:base.objs.size ≤ s.heap.objs.size
 funs:s.heap.FunFrames base outer
 frf:∀ b ∈ frs outer,H b = none
 hok:HOk P w H s.heap
 bare:AllBare s.gens
def CE (outer:List Env) (P:Program) (w:World) (H:Hp) (s:Shared) (Q:VK) (u:Value) (s':Shared):Prop :=
 ∃ v H',s'.os = s.os∧AllBare s'.gens∧Un (frs outer) [] H H' s.heap s'.heap∧HOk P w H' s'.heap∧RelV v u∧Q v H'
def CR (CX:CXT) (outer:List Env) (P:Program) (w:World) (H:Hp) (s:Shared) (Q:VK) (E:XK) (r:Result) (s':Shared):Prop :=
 match r with
 | .ok (.ret u)=>CE outer P w H s Q u s'
 | .ok _=>False
 | .error e=>CX outer H s E e s'
structure FnOk (P:Program) (w:World) (K:PySem.W.Frag) (mg:Str→Option Value) (base:Heap) (CX:CXT) (k:Nat) (f:Addr) (fd:FuncData) (ps:List Str) (sp:Sp):Prop where
 len:∀ vs H Q E,sp vs H Q E→vs.length = ps.length
 run:∀ (A:Around) (outer:List Env) (s:Shared) (H:Hp) (args:Args) (us:List Value) (vs:List V) (Q:VK) (E:XK),Room k A→Env0 P w K mg base A outer s H→BindsTo s fd args (ps.zip us)→Vals vs us→sp vs H Q E →
  codeAny (model P w) A (.call (.ref f) args) (CR CX outer P w H s Q E) s
theorem FnOk.mono {P:Program} {w:World} {K:PySem.W.Frag} {mg:Str→Option Value} {base:Heap} {CX:CXT} {j k:Nat} {f:Addr} {fd:FuncData} {ps:List Str} {sp:Sp} (F:FnOk P w K mg base CX j f fd ps sp) (h:j ≤ k) :
  FnOk P w K mg base CX k f fd ps sp:=⟨F.len,fun A outer s H args us vs Q E hr=>F.run A outer s H args us vs Q E (hr.mono h)⟩
theorem FnOk.imp {P:Program} {w:World} {K:PySem.W.Frag} {mg:Str→Option Value} {base:Heap} {CX:CXT} {k:Nat} {f:Addr} {fd:FuncData} {ps:List Str} {sp sp':Sp} (F:FnOk P w K mg base CX k f fd ps sp)
  (h:∀ vs H Q E,sp' vs H Q E→sp vs H Q E):FnOk P w K mg base CX k f fd ps sp' :=
 ⟨fun vs H Q E q=>F.len vs H Q E (h _ _ _ _ q),fun A outer s H args us vs Q E hr he hb hv hs=>F.run A outer s H args us vs Q E hr he hb hv (h _ _ _ _ hs)⟩
theorem Env0.in1 {P:Program} {w:World} {K:PySem.W.Frag} {mg:Str→Option Value} {base:Heap} {A:Around} {outer:List Env} {s:Shared} {H:Hp} (e:Env0 P w K mg base A outer s H) :
  Env0 P w K mg base A.in1 outer s H:=⟨e.frames,e.mod,e.bs,e.bsz,e.funs,e.frf,e.hok,e.bare⟩
section
variable {X:Cx} {pins:List (Addr × Obj)} {σ:St} {H:Hp} {s s':Shared}
theorem Inv.env0 (I:Inv X pins σ H s):Env0 X.prog X.w X.K X.mg X.base X.A X.stack s H :=
 ⟨I.ok.frames,I.ok.mod,I.bs,Nat.le_trans I.ok.bsz I.sz,I.stack,I.stkFree,I.hok,I.bare⟩
theorem Inv.after {Q:VK} {u:Value} (I:Inv X pins σ H s) (h:CE X.stack X.prog X.w H s Q u s'):EP X pins σ Q u s':=by
 obtain ⟨v,H',os,bare,un,hok,r,q⟩:=h
 obtain ⟨hh,g,d,t,os'⟩:=s'
 obtain rfl:os' = s.os:=os
 exact ⟨v,H',I.call (h':=hh) (g':=g) (d':=d) (t':=t) (ch:=[]) un hok bare (fun b z=>absurd z (by simp)),r,q⟩
end
def tCall (sp:Sp) (dvs:List V) (E:XK) (t:TA):TE:=fun σ H Q=>t σ H fun vs H1=>sp (vs ++ dvs) H1 Q E
def Binds (K:PySem.W.Frag) (fd:FuncData) (ps:List Str) (ds:List Value):Prop :=
 ∀ (s:Shared) (us:List Value),K.In s.heap→(us ++ ds).length = ps.length→BindsTo s fd ⟨us,[]⟩ (ps.zip (us ++ ds))
theorem Binds.all {K:PySem.W.Frag} {fd:FuncData} {ps:List Str} (h:∀ us:List Value,us.length = ps.length→bindArgs fd ⟨us,[]⟩ = pure (ps.zip us)):Binds K fd ps []:=fun s us _ hl=>by
 rw [List.append_nil] at hl ⊢
 exact .of_eq (h us hl)
def Passes (CX:CXT) (X:Cx) (E:XK):Prop:=∀ (pins:List (Addr × Obj)) (σ:St) (H:Hp) (s:Shared) (e:Value) (s':Shared),Inv X pins σ H s→CX X.stack H s E e s'→X.xe e s'
section
variable {X:Cx} {CX:CXT} {k:Nat} {f C:Addr} {fd:FuncData} {ps:List Str} {sp:Sp} {dvs:List V} {ds:List Value} {E:XK} {x m:Str} {p pos apos:Pos} {e o:Expr} {es:List Expr} {ta:TE} {t:TA}
theorem run_fn {pins:List (Addr × Obj)} {σ:St} {H:Hp} {s:Shared} {Q:VK} {us:List Value} {vs:List V} (F:FnOk X.prog X.w X.K X.mg X.base CX k f fd ps sp) (hr:Room k X.A) (hb:Binds X.K fd ps ds) (hd:Vals dvs ds) (hx:Passes CX X E)
  (I:Inv X pins σ H s) (r:Vals vs us) (h:sp (vs ++ dvs) H Q E):wpAny (model X.prog X.w) X.A (call (.ref f) us) (EP X pins σ Q) X.xe s:=by
 have r2:Vals (vs ++ dvs) (us ++ ds):=r.append hd
 have hl:(us ++ ds).length = ps.length:=by rw [← r2.length]; exact F.len _ _ _ _ h
 refine wpAny_call (codeAny_mono (F.run X.A X.stack s H ⟨us,[]⟩ (us ++ ds) (vs ++ dvs) Q E hr I.env0 (hb s us I.kIn hl) r2 h) fun r s' hq=>?_)
 cases r with
 | error e=>exact hx pins σ H s e s' I hq
 | ok fl =>
  cases fl with
  | ret u=>exact I.after hq
  | next=>exact False.elim hq
  | brk=>exact False.elim hq
  | cont=>exact False.elim hq
theorem pe_call (F:FnOk X.prog X.w X.K X.mg X.base CX k f fd ps sp) (hr:Room k X.A) (hg:Gl X x) (hm:X.mg x = some (.ref f)) (hk:PySem.W.keepIn X.K (.ref f) = true) (hb:Binds X.K fd ps ds) (hd:Vals dvs ds) (hx:Passes CX X E)
  (ha:PA X (e :: es) t) (hdb:(x == ("__debug__" : Str)) = false:=by decide) (he:starEach (e :: es) X.env = (false,eval e X.env) :: starEach es X.env:=by rfl) (hpl:(backTo pos (starEach es X.env)).any (·.1) = false:=by rfl) :
  PE X (.Call (.Name x p) (e :: es) [] pos) (tCall sp dvs E t):=by
 intro pins s σ H Q I h
 refine wpAny_Call_Name_kw (ld_glob I hg hm ?_ hdb)
 refine PySem.W.callWith_K (h₀:=X.base) I.ok.mod.kin hk (thn (ha pos pins s σ H _ I h) fun us s1 ⟨vs,H1,I1,r,q⟩=>⟨I1.kIn,?_⟩) he hpl
 exact run_fn F hr hb hd hx I1 r q
end
structure FnScope (N P:List Str) (sc:Scope):Prop where
 kind:sc.kind = .function
 co:sc.isCoroutine = false
 gen:sc.isGenerator = false
 nd:N.Nodup
 pre:N.take P.length = P
 par:∀ x ∈ P,sc.names.lookup x = some .local ∨ sc.names.lookup x = some .cell
 nofree:∀ y ∈ sc.names,y.2 ≠ .free
theorem bindL_out {kindOf:Str→Option NameKind} {x:Str}:∀ {binds:List (Str × Value)} {m:Str→Option Value},(∀ v,(x,v) ∉ binds)→bindL kindOf binds m x = m x
 | [],_,_=>rfl
 | (n,v) :: r,m,h=>by
  unfold bindL
  rw [bindL_out fun w hw=>h w (List.mem_cons_of_mem _ hw)]
  split
  ·have:x ≠ n:=by rintro rfl; exact h v List.mem_cons_self
   simp [this]
  ·rfl
theorem bindC_out {kindOf:Str→Option NameKind} {x:Str}:∀ {binds:List (Str × Value)} {m:Str→Option Value},(∀ v,(x,v) ∉ binds)→bindC kindOf binds m x = m x
 | [],_,_=>rfl
 | (n,v) :: r,m,h=>by
  unfold bindC
  rw [bindC_out fun w hw=>h w (List.mem_cons_of_mem _ hw)]
  split
  ·rfl
  ·have:x ≠ n:=by rintro rfl; exact h v List.mem_cons_self
   simp [this]
theorem bindL_get {kindOf:Str→Option NameKind} {x:Str} {v:Value}:∀ {P:List Str} {vs:List Value} {i:Nat} {m:Str→Option Value},P.Nodup→P[i]? = some x→vs[i]? = some v→kindOf x = some .local →
  bindL kindOf (P.zip vs) m x = some v
 | [],_,_,_,_,h,_,_=>by simp at h
 | _ :: _,[],_,_,_,_,h,_=>by simp at h
 | p :: P,w :: vs,0,m,nd,h1,h2,hk=>by
  simp at h1 h2; subst h1; subst h2
  show bindL kindOf ((p,w) :: P.zip vs) m p = _
  unfold bindL
  rw [bindL_out fun v hv=>(List.nodup_cons.mp nd).1 (List.of_mem_zip hv).1,if_pos hk]
  simp
 | p :: P,w :: vs,i + 1,m,nd,h1,h2,hk=>by
  show bindL kindOf ((p,w) :: P.zip vs) m x = _
  unfold bindL
  exact bindL_get (i:=i) (List.nodup_cons.mp nd).2 (by simpa using h1) (by simpa using h2) hk
theorem bindC_get {kindOf:Str→Option NameKind} {x:Str} {v:Value}:∀ {P:List Str} {vs:List Value} {i:Nat} {m:Str→Option Value},P.Nodup→P[i]? = some x→vs[i]? = some v→kindOf x ≠ some .local →
  bindC kindOf (P.zip vs) m x = some v
 | [],_,_,_,_,h,_,_=>by simp at h
 | _ :: _,[],_,_,_,_,h,_=>by simp at h
 | p :: P,w :: vs,0,m,nd,h1,h2,hk=>by
  simp at h1 h2; subst h1; subst h2
  show bindC kindOf ((p,w) :: P.zip vs) m p = _
  unfold bindC
  rw [bindC_out fun v hv=>(List.nodup_cons.mp nd).1 (List.of_mem_zip hv).1,if_neg hk]
  simp
 | p :: P,w :: vs,i + 1,m,nd,h1,h2,hk=>by
  show bindC kindOf ((p,w) :: P.zip vs) m x = _
  unfold bindC
  exact bindC_get (i:=i) (List.nodup_cons.mp nd).2 (by simpa using h1) (by simpa using h2) hk
def start (N:List Str) (vs:List V):St:=vs.map some ++ List.replicate (N.length - vs.length) none
def cxOf (CX:CXT) (P:Program) (w:World) (K:PySem.W.Frag) (mg:Str→Option Value) (base:Heap) (N:List Str) (qual:Str) (scope:Scope) (f:Addr) (cd:Value) (A:Around) (outer:List Env) (s:Shared) (H:Hp) (E:XK):Cx where
 prog:=P
 w:=w
 K:=K
 mg:=mg
 base:=base
 A:=A.deeper (envOfC qual scope s.heap.objs.size f cd)
 N:=N
 s₀:=s
 H₀:=H
 env:=envOfC qual scope s.heap.objs.size f cd
 outer:=outer
 stack:=envOfC qual scope s.heap.objs.size f cd :: outer
 ex:=[]
 calm:=true
 fn:=fun _=>true
 pn:=[]
 xe:=fun e s'=>wpAny (model P w) (A.deeper (envOfC qual scope s.heap.objs.size f cd)) (leaving (envOfC qual scope s.heap.objs.size f cd) e) (fun _ s''=>CX outer H s E e s'') (fun e' s''=>CX outer H s E e' s'') s'
theorem cell_has {sc:Scope} {n:Nat} {x:Str} (h:sc.names.lookup x = some .cell):∃ c,(cellsFrom n sc.names []).lookup x = some c:=by
 have q:=PySem.W.cellsFrom_some sc.names n [] (.inl h)
 exact Option.isSome_iff_exists.mp q
theorem inv_start {CX:CXT} {P:Program} {w:World} {K:PySem.W.Frag} {mg:Str→Option Value} {base:Heap} {N ps:List Str} {qual:Str} {scope:Scope} {f:Addr} {cd:Value} {A:Around} {outer:List Env} {s s1:Shared} {H:Hp} {E:XK} {us:List Value} {vs:List V}
  (S:FnScope N ps scope) (hd:A.handled = none) (e0:Env0 P w K mg base A outer s H) (hl:vs.length = ps.length) (r:Vals vs us)
  (x:InCallC s s.heap.objs.size (bindL (envOfC qual scope s.heap.objs.size f cd).kindOf (ps.zip us) fun _=>none) (cellsFrom (s.heap.objs.size + 1) scope.names []) (bindC (envOfC qual scope s.heap.objs.size f cd).kindOf (ps.zip us) fun _=>none) s1) :
  Inv (cxOf CX P w K mg base N qual scope f cd A outer s H E) [] (start N vs) H s1:=by
 have hpl:ps.length ≤ N.length:=by have:=congrArg List.length S.pre; rw [List.length_take] at this; omega
 obtain ⟨h1,tk,rfl,hk⟩:=x.done
 have noA:∀ b:Addr,b ∉ (cxOf CX P w K mg base N qual scope f cd A outer s H E).ex:=fun b z=>absurd (show b ∈ ([]:List Addr) from z) (by simp)
 refine ⟨⟨e0.mod,S.kind,rfl,rfl,Nat.le_refl _,fun y z c h1 h2=>?_,fun y hy=>?_,fun y c _ h=>?_,fun _=>hd,Around.frames_deeper e0.frames,.inr ⟨rfl,rfl⟩,fun b z=>absurd z (noA b),e0.bs,e0.bsz,fun b _ _=>noA b,fun b z=>absurd z (noA b),e0.funs,e0.frf⟩,
  rfl,e0.bare,Un.kept hk,⟨_,x.toInCall.ns,fun i y v h1 h2 h3=>?_⟩,fun y c h=>⟨_,x.cell y c h⟩,e0.hok.fresh (Nat.le_refl _),fun y c h=>?_,fun p hp=>absurd (show p ∈ ([]:List (Addr × Obj)) from hp) (by simp),e0.hok.kept hk,?_⟩
 ·exact name_of_addr x.apart (PySem.mem_of_lookup h1) (PySem.mem_of_lookup h2)
 ·have hy:scope.names.lookup y = some .cell ∨ scope.names.lookup y = some .free:=hy
  rcases hy with hy | hy
  ·exact cell_has hy
  ·exact absurd rfl (S.nofree _ (PySem.mem_of_lookup hy))
 ·exact Nat.le_of_lt (x.above y c (PySem.mem_of_lookup h))
 ·have hi:i < vs.length:=by
   unfold start at h2
   by_cases hi:i < vs.length
   ·exact hi
   ·rw [List.getElem?_append_right (by simpa using hi)] at h2
    rw [List.getElem?_replicate] at h2
    split at h2 <;> cases h2
  have ha:vs[i]? = some v:=by
   unfold start at h2
   rw [List.getElem?_append_left (by simpa using hi),List.getElem?_map] at h2
   cases e:vs[i]? with
   | none=>rw [e] at h2; cases h2
   | some a=>rw [e] at h2; cases h2; rfl
  obtain ⟨u,hu,rv⟩:=r.get ha
  have hp:ps[i]? = some y:=by
   rw [← S.pre,List.getElem?_take_of_lt (by omega)]; exact h1
  have ndP:ps.Nodup:=by rw [← S.pre]; exact S.nd.sublist (List.take_sublist _ _)
  refine ⟨u,rv,?_⟩
  rcases S.par y (List.mem_of_getElem? hp) with k | k
  ·exact .inl ⟨k,bindL_get ndP hp hu k⟩
  ·obtain ⟨c,e⟩:=cell_has (n:=s.heap.objs.size + 1) k
   refine .inr ⟨.inl k,c,e,?_⟩
   have q:=x.cell y c e
   rw [bindC_get ndP hp hu (by show scope.names.lookup y ≠ _; rw [k]; decide)] at q
   exact q
 ·exact e0.hok.fresh (Nat.le_of_lt (x.above y c (PySem.mem_of_lookup h)))
 ·unfold start
  show _ = N.length
  rw [List.length_append,List.length_map,List.length_replicate]
  omega
theorem fn_of {CX:CXT} {P:Program} {w:World} {K:PySem.W.Frag} {mg:Str→Option Value} {base:Heap} {k:Nat} {f:Addr} {name qual:Str} {params:Arguments} {body:List Stmt} {scope:Scope} {dV kV doc pm cdv ct oc:Value} {an od:Option Addr}
  {osl:Array (Option Value)} {N ps:List Str} {sp:Sp} (lk:K.lookup f = some ⟨oc,od,.func (PySem.W.fnOf name qual params body scope dV kV doc pm an cdv ct),osl⟩) (hcd:PySem.W.codeIn K cdv qual = true) (S:FnScope N ps scope)
  (len:∀ vs H Q E,sp vs H Q E→vs.length = ps.length)
  (hbody:∀ (A:Around) (outer:List Env) (s:Shared) (H:Hp) (vs:List V) (Q:VK) (E:XK),Room k (A.deeper (envOfC qual scope s.heap.objs.size f cdv))→sp vs H Q E →
   ∃ t,PSs (cxOf CX P w K mg base N qual scope f cdv A outer s H E) body t∧t { nx:=fun _ H'=>Q .non H',rt:=Q } (start N vs) H) :
  FnOk P w K mg base CX (k + 1) f (PySem.W.fnOf name qual params body scope dV kV doc pm an cdv ct) ps sp:=by
 refine ⟨len,fun A outer s H args us vs Q E hr e0 hb r hsp=>?_⟩
 have hl:=len _ _ _ _ hsp
 have KX:K.In s.heap:=e0.mod.kin.keeps fun b o e=>(e0.bs b o e).1
 have lim:s.heap.NoLimit:=e0.mod.nolimit.keeps fun b o e=>(e0.bs b o e).1
 have hkind:∀ y ∈ ps.zip us,scope.names.lookup y.1 = some .local ∨ (scope.names.lookup y.1 = some .cell∧((cellsFrom (s.heap.objs.size + 1) scope.names []).lookup y.1).isSome = true):=fun ⟨n,v⟩ hy=>by
  rcases S.par n (List.of_mem_zip hy).1 with q | q
  ·exact .inl q
  ·exact .inr ⟨q,PySem.W.cellsFrom_some _ _ _ (.inl q)⟩
 refine codeAny_call_function hr.depth (KX _ _ lk) rfl S.co S.gen rfl (PySem.W.codeRec_of KX hcd) (hb _ _ _ _ ?_)
 refine wpAny_newFunctionEnv_cells S.kind hkind fun env he s1 x=>?_
 subst he
 refine ⟨lim.keeps x.toInCall.keep,codeAny_func ?_⟩
 obtain ⟨t,ht,hq⟩:=hbody A outer s H vs Q E (hr.deeper _) hsp
 have I:Inv (cxOf CX P w K mg base N qual scope f cdv A outer s H E) [] (start N vs) H s1:=inv_start S hr.hd e0 hl r x
 refine wpAny_mono (ht [] s1 (start N vs) H _ I hq) (fun fl s' hs=>?_) fun e s' hs=>hs
 have fin:∀ {σ':St} {H':Hp} {v:V} {u:Value},Inv (cxOf CX P w K mg base N qual scope f cdv A outer s H E) [] σ' H' s'→RelV v u→Q v H'→CE outer P w H s Q u s' :=
  fun {σ' H' v u} J rv q=>⟨v,H',J.os,J.bare,J.base,J.hok,rv,q⟩
 cases fl with
 | ret u =>
  obtain ⟨v,σ',H',J,rv,q⟩:=hs
  exact fin J rv q
 | next =>
  obtain ⟨σ',H',J,q⟩:=hs
  exact fin (v:=V.non) (u:=Value.none) J rfl q
 | brk =>
  obtain ⟨_,_,_,q⟩:=hs
  exact False.elim q
 | cont =>
  obtain ⟨_,_,_,q⟩:=hs
  exact False.elim q
section
variable {X:Cx} {x:Str} {p pos:Pos} {e:Expr} {es:List Expr} {t:TA} {id T:String} {r:List V→Hp→VK→Prop}
def tCB (r:List V→Hp→VK→Prop) (t:TA):TE:=fun σ H Q=>t σ H fun vs H1=>r vs H1 Q
theorem pe_callB (hc:CallR X (.builtin id) r) (hg:Gl X x) (hm:X.mg x = none) (hv:bootBuiltins x = some (.builtin id)) (ha:PA X (e :: es) t) (hn:x ≠ "__name__" := by decide) (hdb:(x == ("__debug__" : Str)) = false:=by decide)
  (he:starEach (e :: es) X.env = (false,eval e X.env) :: starEach es X.env:=by rfl) (hpl:(backTo pos (starEach es X.env)).any (·.1) = false:=by rfl):PE X (.Call (.Name x p) (e :: es) [] pos) (tCB r t):=by
 intro pins s σ H Q I h
 refine wpAny_Call_Name_kw (ld_blt I hg hm hv ?_ hn hdb)
 exact PyProof.Rows.callWith_builtin1 (thn (ha pos pins s σ H _ I h) fun us s1 ⟨vs,H1,I1,r1,q1⟩=>hc pins s1 σ H1 vs us Q I1 r1 q1) he hpl
theorem pe_callTy (hc:CallR X (.type T) r) (hg:Gl X x) (hm:X.mg x = none) (hv:bootBuiltins x = some (.type T)) (ha:PA X (e :: es) t) (hn:x ≠ "__name__" := by decide) (hdb:(x == ("__debug__" : Str)) = false:=by decide)
  (he:starEach (e :: es) X.env = (false,eval e X.env) :: starEach es X.env:=by rfl) (hpl:(backTo pos (starEach es X.env)).any (·.1) = false:=by rfl):PE X (.Call (.Name x p) (e :: es) [] pos) (tCB r t):=by
 intro pins s σ H Q I h
 refine wpAny_Call_Name_kw (ld_blt I hg hm hv ?_ hn hdb)
 exact PyProof.Rows.callWith_type1 (thn (ha pos pins s σ H _ I h) fun us s1 ⟨vs,H1,I1,r1,q1⟩=>hc pins s1 σ H1 vs us Q I1 r1 q1) he hpl
end
end L2
namespace HT
open PySem PyProof.Rows
section
variable {prog:Program} {w:World} {A:Around} {E:Value→Shared→Prop} {s:Shared}
def sIx (n d:Nat):Option Int→Nat
 | none=>d
 | some v=>if v < 0 then (v + (n:Int)).toNat else min v.toNat n
theorem sIx_nat (n d k:Nat):sIx n d (some (k:Int)) = min k n:=by
 show (if (k:Int) < 0 then ((k:Int) + (n:Int)).toNat else min (k:Int).toNat n) = min k n
 rw [if_neg (by omega),Int.toNat_natCast]
end
end HT
namespace L2
open PySem PySem.Spec PyProof.Rows
abbrev TO:=St→Hp→(Option Int→Hp→Prop)→Prop
def PO (X:Cx) (e:Option Expr) (t:TO):Prop :=
 ∀ (pins:List (Addr × Obj)) (s:Shared) (σ:St) (H:Hp) (Q:Option Int→Hp→Prop),Inv X pins σ H s→t σ H Q →
  wpAny (model X.prog X.w) X.A (evalPart e X.env) (fun u s'=>∃ o H',Inv X pins σ H' s'∧IsPart u o∧Q o H') X.xe s
def tNoPart:TO:=fun _ H Q=>Q none H
def tPart (t:TE):TO:=fun σ H Q=>t σ H fun x H1=>∃ i,x = .int i∧Q (some i) H1
theorem intsAre_of {ns:List Int}:∀ {us:List Value},Vals (ns.map V.int) us→IntsAre us ns:=by
 induction ns with
 | nil=>intro us r; rw [List.map_nil] at r; cases r; exact .nil
 | cons n ns ih =>
  intro us r
  rw [List.map_cons] at r
  cases r with
  | cons r1 r2 =>
   obtain ⟨t,e⟩:=r1
   subst e
   exact .cons n t (ih r2)
section
variable {X:Cx} {e:Expr} {te:TE} {lo hi:Option Expr} {tl th:TO} {pos p2:Pos}
theorem po_none:PO X none tNoPart:=by
 intro pins s σ H Q I h
 rw [evalPart_none]
 exact wpAny_pure ⟨none,H,I,.none,h⟩
theorem po_some (h:PE X e te):PO X (some e) (tPart te):=by
 intro pins s σ H Q I hw
 rw [evalPart_some]
 refine thn (h pins s σ H _ I hw) fun u s1 ⟨x,H1,I1,r1,q1⟩=>?_
 obtain ⟨i,rfl,q⟩:=q1
 obtain ⟨t,rfl⟩:=r1
 exact ⟨some i,H1,I1,.int i t,q⟩
def SlR (X:Cx) (r:V→Option Int→Option Int→Hp→VK→Prop):Prop :=
 ∀ (pins:List (Addr × Obj)) (s:Shared) (σ:St) (H:Hp) (x:V) (v vl vu:Value) (lo hi:Option Int) (sl:Addr) (Q:VK),Inv X pins σ H s→RelV x v→s.heap.IsSliceOf sl vl vu .none→IsPart vl lo→IsPart vu hi→r x lo hi H Q →
  ∃ T id,typeLookup (.type T) "__getitem__" = pure (some (.builtin id))∧s.TypeIs v T∧wpAny (model X.prog X.w) X.A (getItem v (.ref sl)) (EP X pins σ Q) X.xe s
theorem SlR.or {r r':V→Option Int→Option Int→Hp→VK→Prop} (h:SlR X r) (h':SlR X r'):SlR X (fun x lo hi H Q=>r x lo hi H Q ∨ r' x lo hi H Q):=by
 intro pins s σ H x v vl vu lo hi sl Q I rx hs pl pu q
 rcases q with q | q
 ·exact h pins s σ H x v vl vu lo hi sl Q I rx hs pl pu q
 ·exact h' pins s σ H x v vl vu lo hi sl Q I rx hs pl pu q
def tSl (r:V→Option Int→Option Int→Hp→VK→Prop) (te:TE) (tl th:TO):TE:=fun σ H Q=>te σ H fun x H1=>tl σ H1 fun l H2=>th σ H2 fun u H3=>r x l u H3 Q
theorem pe_slice {r:V→Option Int→Option Int→Hp→VK→Prop} (hr:SlR X r) (he:PE X e te) (hl:PO X lo tl) (hu:PO X hi th):PE X (.Subscript e (.Slice lo hi none p2) pos) (tSl r te tl th):=by
 intro pins s σ H Q I h
 refine Subscript_ (thn (he pins s σ H _ I h) fun v s1 ⟨x,H1,I1,r1,q1⟩=>?_)
 refine wpAny_Slice (thn (hl pins s1 σ H1 _ I1 q1) fun vl s2 ⟨l,H2,I2,pl,q2⟩=>thn (hu pins s2 σ H2 _ I2 q2) fun vu s3 ⟨u,H3,I3,pu,q3⟩=>?_)
 rw [evalPart_none]
 refine wpAny_pure ?_
 have I4:Inv X pins σ H3 { s3 with heap:=s3.heap.push { cls:=.type "slice",data:=.fields #[vl,vu,.none] } }:=I3.kept (t':=s3.toks) fun b ob q=>Heap.get?_push_of_some _ q
 obtain ⟨T,id,hT,ht,hg⟩:=hr pins { s3 with heap:=s3.heap.push { cls:=.type "slice",data:=.fields #[vl,vu,.none] } } σ H3 x v vl vu l u s3.heap.objs.size Q I4 r1 (Heap.IsSliceOf.new ..) pl pu q3
 show wpAny (model X.prog X.w) X.A (subscriptTail e (.Slice lo hi none p2) v (.ref s3.heap.objs.size)) (EP X pins σ Q) X.xe { s3 with heap:=s3.heap.push { cls:=.type "slice",data:=.fields #[vl,vu,.none] } }
 exact tail_any (ops:=[.ref s3.heap.objs.size,v]) ht hT hg (by with_unfolding_all rfl)
def cutV (xs:List V) (lo hi:Option Int):List V:=(xs.drop (HT.sIx xs.length 0 lo)).take (HT.sIx xs.length xs.length hi - HT.sIx xs.length 0 lo)
theorem cutV_length (xs:List V) (lo hi:Option Int):(cutV xs lo hi).length ≤ xs.length:=by
 unfold cutV
 rw [List.length_take,List.length_drop]
 omega
end
def ixN (n:Nat) (i:Int):Option Nat:=if 0 ≤ i then (if i < n then some i.toNat else none) else if -(n:Int) ≤ i then some (i + n).toNat else none
def atI {α:Type} (xs:List α) (i:Int):Option α:=(ixN xs.length i).bind fun j=>xs[j]?
theorem ixN_seq {n:Nat} {i:Int} {j:Nat} (h:ixN n i = some j):seqIndex? i n = some j∧j < n∧-(n:Int) ≤ i∧i < n:=by
 unfold ixN at h
 by_cases h0:0 ≤ i
 ·rw [if_pos h0] at h
  by_cases h1:i < n
  ·rw [if_pos h1] at h
   have e:i.toNat = j:=Option.some.inj h
   exact ⟨by rw [seqIndex_of h0 h1,e],by omega,by omega,h1⟩
  ·rw [if_neg h1] at h; cases h
 ·rw [if_neg h0] at h
  by_cases h1:-(n:Int) ≤ i
  ·rw [if_pos h1] at h
   have e:(i + n).toNat = j:=Option.some.inj h
   exact ⟨by rw [seqIndex_neg (by omega) h1,e],by omega,h1,by omega⟩
  ·rw [if_neg h1] at h; cases h
theorem atI_get {α:Type} {xs:List α} {i:Int} {v:α} (h:atI xs i = some v):∃ j,seqIndex? i xs.length = some j∧xs[j]? = some v∧j < xs.length∧-(xs.length:Int) ≤ i∧i < xs.length:=by
 unfold atI at h
 cases e:ixN xs.length i with
 | none=>rw [e] at h; cases h
 | some j =>
  rw [e] at h
  obtain ⟨h1,h2,h3,h4⟩:=ixN_seq e
  exact ⟨j,h1,h,h2,h3,h4⟩
theorem atI_nat {α:Type} {xs:List α} {j:Nat} {v:α} (h:xs[j]? = some v):atI xs (j:Int) = some v:=by
 have hj:j < xs.length:=(List.getElem?_eq_some_iff.mp h).1
 have e:ixN xs.length (j:Int) = some j:=by
  unfold ixN
  rw [if_pos (by omega),if_pos (by omega)]; simp
 unfold atI; rw [e]; exact h
def PlainIx (b:Expr):Prop:=∀ o i,subscripted b false o i = operate [o,i] (getItem o i)
def IxR (X:Cx) (r:R2):Prop :=
 ∀ (value slice:Expr) (pins:List (Addr × Obj)) (s:Shared) (σ:St) (H:Hp) (x y:V) (v u:Value) (Q:VK),Inv X pins σ H s→RelV x v→RelV y u→r x y H Q →
  subscripted slice false v u = operate [v,u] (getItem v u)→wpAny (model X.prog X.w) X.A (subscriptTail value slice v u) (EP X pins σ Q) X.xe s
def MtR (X:Cx) (id:String) (r:V→List V→Hp→VK→Prop):Prop :=
 ∀ (pins:List (Addr × Obj)) (s:Shared) (σ:St) (H:Hp) (x:V) (xs:List V) (v:Value) (us:List Value) (Q:VK),Inv X pins σ H s→RelV x v→Vals xs us→r x xs H Q →
  wpAny (model X.prog X.w) X.A (call (.builtin id) (v :: us)) (EP X pins σ Q) X.xe s
section
variable {X:Cx} {a b:Expr} {ta tb:TE} {pos:Pos}
theorem IxR.or {r r':R2} (h:IxR X r) (h':IxR X r'):IxR X (fun x y H Q=>r x y H Q ∨ r' x y H Q):=by
 intro value slice pins s σ H x y v u Q I rx ry q hs
 rcases q with q | q
 ·exact h value slice pins s σ H x y v u Q I rx ry q hs
 ·exact h' value slice pins s σ H x y v u Q I rx ry q hs
theorem MtR.or {id:String} {r r':V→List V→Hp→VK→Prop} (h:MtR X id r) (h':MtR X id r'):MtR X id (fun x xs H Q=>r x xs H Q ∨ r' x xs H Q):=by
 intro pins s σ H x xs v us Q I rx rs q
 rcases q with q | q
 ·exact h pins s σ H x xs v us Q I rx rs q
 ·exact h' pins s σ H x xs v us Q I rx rs q
theorem pe_ix {r:R2} (hr:IxR X r) (ha:PE X a ta) (hb:PE X b tb) (hs:PlainIx b):PE X (.Subscript a b pos) (tOp r ta tb):=by
 intro pins s σ H Q I h
 exact Subscript_ (binT ha hb I h fun v u s2 x y H2 I2 rx ry q=>hr a b pins s2 σ H2 x y v u Q I2 rx ry q (hs _ _))
def rIxL (K:PySem.W.Frag):R2:=fun x y H Q=>∃ p xs i v,x = .ref p∧y = .int i∧SqL K H p xs∧atI xs i = some v∧Q v H
def rIxT (K:PySem.W.Frag):R2:=fun x y H Q=>∃ p xs i v,x = .ref p∧y = .int i∧SqT K H p xs∧atI xs i = some v∧Q v H
def rIxS:R2:=fun x y H Q=>∃ z i c,x = .str z∧y = .int i∧z.length ≤ sizeLine∧atI z.cps.toList i = some c∧Q (.str ⟨#[c]⟩) H
theorem ix_list:IxR X (rIxL X.K):=by
 intro value slice pins s σ H x y v u Q I rx ry h hs
 obtain ⟨p,xs,i,z,rfl,rfl,hq,he,q⟩:=h
 cases rx
 obtain ⟨t,rfl⟩:=ry
 obtain ⟨its,r,pl,hz⟩:=I.list hq
 obtain ⟨j,h1,h2,h3,h4,h5⟩:=atI_get he
 obtain ⟨w,ew,rw'⟩:=r.get h2
 have hl:=r.length
 have hn:=line63
 have fin:EP X pins σ Q w s:=⟨z,H,I,rw',q⟩
 by_cases h0:0 ≤ i
 ·have hj:i.toNat = j:=by
   rw [seqIndex_of h0 h5] at h1
   exact Option.some.inj h1
  exact item_listR pl.isList h0 (by omega) (by rw [hj]; simpa using ew) fin hs
 ·have hj:(i + (its.toArray.size:Int)).toNat = j:=by
   rw [seqIndex_neg (by omega) h4] at h1
   rw [List.size_toArray,← hl]
   exact Option.some.inj h1
  exact subscriptTail_builtinR (x:=w) pl.isList.typeIs slot_list_getitem.lookup
   (wpAny_getItem_list_neg (Q:=fun r s'=>r = w∧EP X pins σ Q r s') pl.isList (by omega) (by rw [List.size_toArray] <;> omega) (by omega) (by rw [hj]; simpa using ew) ⟨rfl,fin⟩) hs
theorem ix_tup:IxR X (rIxT X.K):=by
 intro value slice pins s σ H x y v u Q I rx ry h hs
 obtain ⟨p,xs,i,z,rfl,rfl,hq,he,q⟩:=h
 cases rx
 obtain ⟨t,rfl⟩:=ry
 obtain ⟨its,r,pl,hz⟩:=I.tuple hq
 obtain ⟨j,h1,h2,h3,h4,h5⟩:=atI_get he
 obtain ⟨w,ew,rw'⟩:=r.get h2
 have hl:=r.length
 have hn:=line63
 have fin:EP X pins σ Q w s:=⟨z,H,I,rw',q⟩
 exact subscriptTail_builtinR (x:=w) pl.typeIs slot_tuple_getitem.lookup
  (getItem_tuple (j:=j) (Q:=fun r s'=>r = w∧EP X pins σ Q r s') pl (by omega) (by omega) (by rw [List.size_toArray,← hl]; exact h1) (by simpa using ew) ⟨rfl,fin⟩) hs
theorem ix_str:IxR X rIxS:=by
 intro value slice pins s σ H x y v u Q I rx ry h hs
 obtain ⟨z,i,c,rfl,rfl,hz,he,q⟩:=h
 obtain ⟨t,rfl⟩:=rx
 obtain ⟨t',rfl⟩:=ry
 obtain ⟨j,h1,h2,h3,h4,h5⟩:=atI_get he
 have hl:z.cps.toList.length = z.length:=by simp [Str.length]
 rw [hl] at h1 h4 h5
 have hn:=line63
 exact tail_any (typeIs_str s z t) slot_str_getitem.lookup (getItem_str (c:=c) (by
  have e1:decide (i < -(2 ^ 63:Int)) = false:=decide_eq_false (by omega)
  have e2:decide (i ≥ 2 ^ 63) = false:=decide_eq_false (by omega)
  rw [e1,e2,Bool.or_false]) (by rw [h1]; simpa using h2) ⟨.str ⟨#[c]⟩,H,I.tok _,⟨_,rfl⟩,q⟩) hs
def rIx (K:PySem.W.Frag):R2:=fun x y H Q=>rIxL K x y H Q ∨ rIxT K x y H Q ∨ rIxS x y H Q
theorem ix_seq:IxR X (rIx X.K):=ix_list.or (ix_tup.or ix_str)
theorem Inv.lst {pins:List (Addr × Obj)} {σ:St} {H:Hp} {s:Shared} {p:Addr} {xs:List V} (I:Inv X pins σ H s) (h:H p = some (.lst xs)) :
  ∃ (its:List Value) (n:Nat),Vals xs its∧s.heap.get? p = some { cls:=.type "list",data:=.seq its.toArray n }∧xs.length ≤ sizeLine:=by
 obtain ⟨z,its,n,r,e⟩:=I.hok p _ h
 exact ⟨its,n,r,e,z⟩
theorem slice_bounds (lo hi:Option Int) (n:Nat):(sliceBounds lo hi none n).1 = ((HT.sIx n 0 lo:Nat):Int)∧(sliceBounds lo hi none n).2.1 = ((HT.sIx n n hi:Nat):Int)∧(sliceBounds lo hi none n).2.2 = 1:=by
 refine ⟨?_,?_,rfl⟩
 ·cases lo with
  | none=>simp [sliceBounds,HT.sIx]
  | some i =>
   simp only [sliceBounds,HT.sIx,Option.getD_none,show (1:Int) > 0 by decide,if_true]
   by_cases h:i < 0
   ·simp only [h,if_true] <;> omega
   ·simp only [h,if_false] <;> omega
 ·cases hi with
  | none=>simp [sliceBounds,HT.sIx]
  | some i =>
   simp only [sliceBounds,HT.sIx,Option.getD_none,show (1:Int) > 0 by decide,if_true]
   by_cases h:i < 0
   ·simp only [h,if_true] <;> omega
   ·simp only [h,if_false] <;> omega
theorem slicePick_cut (its:List Value) (lo hi:Option Int):slicePick its.toArray lo hi none = ((its.drop (HT.sIx its.length 0 lo)).take (HT.sIx its.length its.length hi - HT.sIx its.length 0 lo)).toArray:=by
 obtain ⟨h1,h2,h3⟩:=slice_bounds lo hi its.toArray.size
 unfold slicePick
 rw [h1,h2,h3]
 simp only [sliceRange_one,pick_run,List.size_toArray] <;> rfl
def rSlL (K:PySem.W.Frag):V→Option Int→Option Int→Hp→VK→Prop:=fun x lo hi H Q=>∃ a xs,x = .ref a∧SqL K H a xs∧∀ p,H p = none→Q (.ref p) (upd H p (.lst (cutV xs lo hi)))
theorem sl_list:SlR X (rSlL X.K):=by
 intro pins s σ H x v vl vu lo hi sl Q I rx hs pl pu h
 obtain ⟨a,xs,rfl,hx,q⟩:=h
 cases rx
 obtain ⟨its,r,ht,hz⟩:=I.list hx
 have hlen:=r.length
 refine ⟨"list",_,slot_list_getitem.lookup,ht.isList.typeIs,?_⟩
 refine wpAny_getItem_list_slice ht.isList hs pl pu .none (by simp) ?_ (by rw [List.size_toArray] <;> omega)
 rw [slicePick_cut,← hlen]
 refine ⟨.ref s.heap.objs.size,_,I.laid (t':=s.toks) (o:=.lst (cutV xs lo hi)) (fun b ob q=>Heap.get?_push_of_some _ q) (Nat.le_refl _) ?_,rfl,q _ (I.hok.fresh (Nat.le_refl _))⟩
 exact ⟨Nat.le_trans (cutV_length xs lo hi) hz,_,0,(r.drop (HT.sIx xs.length 0 lo)).take (HT.sIx xs.length xs.length hi - HT.sIx xs.length 0 lo),Heap.get?_push_size _ rfl⟩
def flatV:V→Bool
 | .non=>true
 | .bl _=>true
 | .int _=>true
 | .str _=>true
 | _=>false
def eqV:V→V→Bool
 | .non,.non=>true
 | .bl a,.bl b=>a == b
 | .bl a,.int b=>(if a then 1 else 0) == b
 | .int a,.bl b=>a == (if b then 1 else 0)
 | .int a,.int b=>a == b
 | .str a,.str b=>a == b
 | _,_=>false
theorem eqAt_V {A:Around} {s:Shared} {y x:V} {u v:Value} (ry:RelV y u) (rx:RelV x v) (fy:flatV y = true) (fx:flatV x = true):SeqAt.EqAt A s u v (eqV y x):=by
 cases y with
 | non =>
  cases ry
  cases x with
  | non=>cases rx; exact SeqAt.EqAt.same _
  | bl b=>cases rx; exact SeqAt.EqAt.none_bool b
  | int b=>obtain ⟨t,rfl⟩:=rx; exact SeqAt.EqAt.none_int b t
  | str b=>obtain ⟨t,rfl⟩:=rx; exact SeqAt.EqAt.none_str b t
  | _=>exact absurd (show false = true from fx) Bool.false_ne_true
 | bl a =>
  cases ry
  cases x with
  | non=>cases rx; exact SeqAt.EqAt.bool_none a
  | bl b=>cases rx; exact SeqAt.EqAt.bool_bool a b
  | int b=>obtain ⟨t,rfl⟩:=rx; exact SeqAt.EqAt.bool_int a b t
  | str b=>obtain ⟨t,rfl⟩:=rx; exact SeqAt.EqAt.bool_str a b t
  | _=>exact absurd (show false = true from fx) Bool.false_ne_true
 | int a =>
  obtain ⟨t',rfl⟩:=ry
  cases x with
  | non=>cases rx; exact SeqAt.EqAt.int_none a t'
  | bl b=>cases rx; exact SeqAt.EqAt.int_bool a t' b
  | int b=>obtain ⟨t,rfl⟩:=rx; exact SeqAt.EqAt.int_int a t' b t
  | str b=>obtain ⟨t,rfl⟩:=rx; exact SeqAt.EqAt.int_str a t' b t
  | _=>exact absurd (show false = true from fx) Bool.false_ne_true
 | str a =>
  obtain ⟨t',rfl⟩:=ry
  cases x with
  | non=>cases rx; exact SeqAt.EqAt.str_none a t'
  | bl b=>cases rx; exact SeqAt.EqAt.str_bool a t' b
  | int b=>obtain ⟨t,rfl⟩:=rx; exact SeqAt.EqAt.str_int a t' b t
  | str b=>obtain ⟨t,rfl⟩:=rx; exact SeqAt.EqAt.str_str a t' b t
  | _=>exact absurd (show false = true from fx) Bool.false_ne_true
 | _=>exact absurd (show false = true from fy) Bool.false_ne_true
def eqU (x:V) (u:Value):Bool:=match u with
 | .none=>eqV .non x
 | .bool b=>eqV (.bl b) x
 | .int i _=>eqV (.int i) x
 | .str z _=>eqV (.str z) x
 | _=>false
theorem eqU_of {x y:V} {u:Value} (r:RelV y u) (f:flatV y = true):eqU x u = eqV y x:=by
 cases y with
 | non=>cases r; rfl
 | bl b=>cases r; rfl
 | int i=>obtain ⟨t,rfl⟩:=r; rfl
 | str z=>obtain ⟨t,rfl⟩:=r; rfl
 | _=>exact absurd (show false = true from f) Bool.false_ne_true
theorem mem_eqAt {A:Around} {s:Shared} {x:V} {v:Value} (rx:RelV x v) (fx:flatV x = true):∀ {xs:List V} {us:List Value},Vals xs us→xs.all flatV = true→∀ u ∈ us,SeqAt.EqAt A s u v (eqU x u)
 | _,_,.nil,_=>fun u hu=>by cases hu
 | y :: xs,u :: us,.cons r t,f=>fun u' hu=>by
  rw [List.all_cons,Bool.and_eq_true] at f
  rcases List.mem_cons.mp hu with rfl | hu
  ·rw [eqU_of r f.1]; exact eqAt_V r rx f.1 fx
  ·exact mem_eqAt rx fx t f.2 u' hu
theorem call_len_seq:CallR X (.builtin "len") (fun xs H Q=>∃ p ys,xs = [.ref p]∧(SqL X.K H p ys ∨ SqT X.K H p ys)∧Q (.int ys.length) H):=by
 intro pins s σ H xs us Q I r h
 obtain ⟨p,ys,rfl,hq,q⟩:=h
 obtain ⟨u,rfl,rx⟩:=vals1 r
 cases rx
 have hn:=line63
 rcases hq with hq | hq
 ·obtain ⟨its,r',pl,hz⟩:=I.list hq
  have hlen:=r'.length
  exact Calls.call_len_list pl.isList (by simp only [List.size_toArray] <;> omega) ⟨.int ys.length,H,I.tok _,⟨s.toks + 1,by rw [List.size_toArray,hlen]⟩,q⟩
 ·obtain ⟨its,r',pl,hz⟩:=I.tuple hq
  have hlen:=r'.length
  exact len_tuple pl (by simp only [List.size_toArray] <;> omega) ⟨.int ys.length,H,I.tok _,⟨s.toks + 1,by rw [List.size_toArray,hlen]⟩,q⟩
theorem CallR.or {f:Value} {r r':List V→Hp→VK→Prop} (h:CallR X f r) (h':CallR X f r'):CallR X f (fun xs H Q=>r xs H Q ∨ r' xs H Q):=by
 intro pins s σ H xs us Q I rs q
 rcases q with q | q
 ·exact h pins s σ H xs us Q I rs q
 ·exact h' pins s σ H xs us Q I rs q
theorem call_list_of:CallR X (.type "list") (fun xs H Q=>∃ p ys,xs = [.ref p]∧(SqL X.K H p ys ∨ SqT X.K H p ys)∧∀ l,H l = none→Q (.ref l) (upd H l (.lst ys))):=by
 intro pins s σ H xs us Q I r h
 obtain ⟨p,ys,rfl,hq,q⟩:=h
 obtain ⟨u,rfl,rx⟩:=vals1 r
 cases rx
 have fin:∀ (its:List Value),Vals ys its→ys.length ≤ sizeLine→∀ (h':Heap) (c':Nat),(∀ b o',s.heap.get? b = some o'→h'.get? b = some o') →
   h'.get? s.heap.objs.size = some { cls:=.type "list",dict:=none,data:=.seq its.toArray c',slots:=#[] }→EP X pins σ Q (.ref s.heap.objs.size) { s with heap:=h' }:=fun its r' hz h' c' kp e =>
  ⟨.ref s.heap.objs.size,_,I.laid (t':=s.toks) kp (Nat.le_refl _) (show ObjOk X.prog X.w _ h' _ (.lst ys) from ⟨hz,its,c',r',e⟩),rfl,q _ (I.hok.fresh (Nat.le_refl _))⟩
 rcases hq with hq | hq
 ·obtain ⟨its,r',pl,hz⟩:=I.list hq
  have hlen:=r'.length
  obtain ⟨o,ho,hc,n,hd⟩:=pl.isList
  exact call_list_seq p (.inl rfl) ho hc hd (fun h' c' kp e=>fin its r' hz h' c' kp e) (by simp only [List.size_toArray] <;> omega)
 ·obtain ⟨its,r',pl,hz⟩:=I.tuple hq
  have hlen:=r'.length
  obtain ⟨o,ho,hc,n,hd⟩:=pl
  exact call_list_seq p (.inr rfl) ho hc hd (fun h' c' kp e=>fin its r' hz h' c' kp e) (by simp only [List.size_toArray] <;> omega)
theorem call_tuple_of:CallR X (.type "tuple") (fun xs H Q=>∃ p ys,xs = [.ref p]∧((SqL X.K H p ys∧∀ l,H l = none→Q (.ref l) (upd H l (.tup ys))) ∨ (SqT X.K H p ys∧Q (.ref p) H))):=by
 intro pins s σ H xs us Q I r h
 obtain ⟨p,ys,rfl,h⟩:=h
 obtain ⟨u,rfl,rx⟩:=vals1 r
 cases rx
 rcases h with ⟨hq,q⟩ | ⟨hq,q⟩
 ·obtain ⟨its,r',pl,hz⟩:=I.list hq
  have hlen:=r'.length
  refine call_tuple_list pl.isList (fun h' kp=>?_) (by simp only [List.size_toArray] <;> omega)
  have I1:Inv X pins σ H { s with heap:=h' }:=I.kept (t':=s.toks) kp
  have I2:Inv X pins σ (upd H h'.objs.size (.tup ys)) { s with heap:=h'.push { cls:=.type "tuple",data:=.seq its.toArray } } :=
   I1.laid (t':=s.toks) (fun b o e=>Heap.get?_push_of_some _ e) (Nat.le_refl _) (show ObjOk X.prog X.w _ _ _ (.tup ys) from ⟨hz,its,r',IsTup.new _ _⟩)
  exact ⟨.ref h'.objs.size,_,I2,rfl,q _ (I1.hok.fresh (Nat.le_refl _))⟩
 ·obtain ⟨its,r',pl,hz⟩:=I.tuple hq
  exact call_tuple_same pl ⟨.ref p,H,I,rfl,q⟩
def tyV (K:PySem.W.Frag) (T:String) (x:V) (H:Hp):Prop:=match x with
 | .str _=>T = "str"
 | .int _=>T = "int"
 | .ref p=>(T = "list" ∧ ∃ xs,SqL K H p xs) ∨ (T = "tuple" ∧ ∃ o,K.lookup p = some o∧o.cls = .type "tuple" ∧ o.dict = none) ∨
   (T = "dict" ∧ ((∃ kvs,H p = some (.dK kvs)) ∨ ∃ kvs,H p = some (.dT kvs))) ∨ (T = "set" ∧ ∃ S n,H p = some (.set S n))
 | _=>False
theorem tyV_is {pins:List (Addr × Obj)} {σ:St} {H:Hp} {s:Shared} {T:String} {x:V} {v:Value} (I:Inv X pins σ H s) (r:RelV x v) (ty:tyV X.K T x H) :
  s.TypeIs v T∧∀ a,v = .ref a→∃ ob,s.heap.get? a = some ob∧ob.dict = none:=by
 cases x with
 | str z =>
  obtain ⟨t,rfl⟩:=r
  cases (show T = "str" from ty)
  exact ⟨typeIs_str s z t,fun _ e=>nomatch e⟩
 | int i =>
  obtain ⟨t,rfl⟩:=r
  cases (show T = "int" from ty)
  exact ⟨typeIs_int s i t,fun _ e=>nomatch e⟩
 | ref p =>
  cases r
  rcases ty with ⟨rfl,xs,hq⟩ | ⟨rfl,o,hk,hc,hd⟩ | ⟨rfl,hk⟩ | ⟨rfl,S,n,hk⟩
  ·obtain ⟨its,_,pl,_⟩:=I.list hq
   refine ⟨pl.isList.typeIs,fun a e=>?_⟩
   cases e
   obtain ⟨o,n,e,c,hd,_⟩:=pl
   exact ⟨o,e,hd⟩
  ·refine ⟨⟨o,I.kIn p o hk,hc⟩,fun a e=>?_⟩
   cases e
   exact ⟨o,I.kIn _ o hk,hd⟩
  ·have z:∃ o,s.heap.get? p = some o∧o.ExactDict:=by
    rcases hk with ⟨kvs,hk⟩ | ⟨kvs,hk⟩
    ·obtain ⟨_,_,_,_,o,_,_,e,ex,_⟩:=I.hok p _ hk
     exact ⟨o,e,ex⟩
    ·obtain ⟨_,_,_,_,o,_,_,e,ex,_⟩:=I.hok p _ hk
     exact ⟨o,e,ex⟩
   obtain ⟨o,e,ex⟩:=z
   refine ⟨⟨o,e,ex.1⟩,fun a e2=>?_⟩
   cases e2
   exact ⟨o,e,ex.2.1⟩
  ·obtain ⟨o,_,_,_,e,ex,_⟩:=I.hok p _ hk
   refine ⟨⟨o,e,ex.1⟩,fun a e2=>?_⟩
   cases e2
   exact ⟨o,e,ex.2.1⟩
 | _=>exact False.elim ty
def tBM0 (K:PySem.W.Frag) (T:String) (r:V→List V→Hp→VK→Prop) (to:TE):TE:=fun σ H Q=>to σ H fun x H1=>tyV K T x H1∧r x [] H1 Q
def tBM (K:PySem.W.Frag) (T:String) (r:V→List V→Hp→VK→Prop) (to:TE) (t:TA):TE:=fun σ H Q=>to σ H fun x H1=>tyV K T x H1∧t σ H1 fun xs H2=>r x xs H2 Q
variable {o e:Expr} {es:List Expr} {to:TE} {t:TA} {name:Str} {apos cpos:Pos} {T id:String} {r:V→List V→Hp→VK→Prop}
theorem pe_bm0 (pa:PlainAttrs T) (slot:Slot T name id) (hty:typeOf (.builtin id) = pure (.type "method_descriptor")) (hm:MtR X id r) (ho:PE X o to)
  (hbase:attributeBase o name X.env (eval o X.env) = eval o X.env:=by rfl) (hline:(apos.endLine == cpos.line) = true:=by rfl):PE X (.Call (.Attribute o name apos) [] [] cpos) (tBM0 X.K T r to):=by
 intro pins s σ H Q I h
 refine wpAny_Call_method0_late hbase hline (thn (ho pins s σ H _ I h) fun v s1 ⟨x,H1,I1,r1,ty,q1⟩=>?_)
 obtain ⟨h1,h2⟩:=tyV_is I1 r1 ty
 exact ⟨T,id,pa,slot,hty,h1,h2,Calls.callWith_builtin rfl (PySem.evalArgs_none (hm pins s1 σ H1 x [] v [] Q I1 r1 .nil q1))⟩
theorem pe_bm (pa:PlainAttrs T) (slot:Slot T name id) (hty:typeOf (.builtin id) = pure (.type "method_descriptor")) (hm:MtR X id r) (ho:PE X o to) (ha:PA X (e :: es) t)
  (hbase:attributeBase o name X.env (eval o X.env) = eval o X.env:=by rfl)
  (hfew:((backTo cpos (starEach (e :: es) X.env)).all (fun x=>!x.1) && (backToKw cpos (keywordEach [] X.env)).all (fun x=>x.1.isSome)
   && decide ((e :: es).length + ([]:List Keyword).length + (if ([]:List Keyword).isEmpty then 0 else 1) < 30)) = true:=by rfl)
  (hline:(apos.endLine == cpos.line) = true:=by rfl) (hs:starEach (e :: es) X.env = (false,eval e X.env) :: starEach es X.env:=by rfl) (hplain:(backTo cpos (starEach es X.env)).any (·.1) = false:=by rfl) :
  PE X (.Call (.Attribute o name apos) (e :: es) [] cpos) (tBM X.K T r to t):=by
 intro pins s σ H Q I h
 refine wpAny_Call_method_late hbase hfew hline rfl (thn (ho pins s σ H _ I h) fun v s1 ⟨x,H1,I1,r1,ty,q1⟩=>?_)
 obtain ⟨h1,h2⟩:=tyV_is I1 r1 ty
 refine ⟨T,id,pa,slot,hty,h1,h2,?_⟩
 have hA:=ha cpos pins s1 σ H1 _ I1 q1
 rw [hs] at hA ⊢
 refine Calls.callWith_builtin (by show (false || (backTo cpos (starEach es X.env)).any (·.1)) = false; rw [hplain] <;> rfl) (Calls.evalArgs_plain ?_)
 exact thn hA fun us s2 ⟨vs,H2,I2,r2,q2⟩=>hm pins s2 σ H2 x vs v us Q I2 r1 r2 q2
end
def MtM (X:Cx) (id:String) (r:V→List V→Hp→VK→Prop):Prop :=
 ∀ (pins:List (Addr × Obj)) (s:Shared) (σ:St) (H:Hp) (x:V) (xs:List V) (v:Value) (us:List Value) (Q:VK),Inv X pins σ H s→RelV x v→Vals xs us→r x xs H Q →
  wpAny (model X.prog X.w) X.A (call (.builtin id) (v :: us)) (EP X pins σ Q) X.xe s
theorem Vals.one:∀ {x:V} {us:List Value},Vals [x] us→∃ u,us = [u]∧RelV x u
 | _,_,.cons r .nil=>⟨_,rfl,r⟩
theorem Vals.two:∀ {x y:V} {us:List Value},Vals [x,y] us→∃ u v,us = [u,v]∧RelV x u∧RelV y v
 | _,_,_,.cons r (.cons q .nil)=>⟨_,_,rfl,r,q⟩
theorem Vals.zero:∀ {us:List Value},Vals [] us→us = []
 | _,.nil=>rfl
theorem Vals.dropLast {xs:List V} {us:List Value} (h:Vals xs us):Vals xs.dropLast us.dropLast:=by
 induction h with
 | nil=>exact .nil
 | cons r t ih =>
  cases t with
  | nil=>exact .nil
  | cons q t'=>exact .cons r ih
theorem Vals.eraseIdx:∀ {xs:List V} {us:List Value} (i:Nat),Vals xs us→Vals (xs.eraseIdx i) (us.eraseIdx i)
 | _,_,_,.nil=>.nil
 | _,_,0,.cons _ t=>t
 | _,_,i + 1,.cons r t=>.cons r (Vals.eraseIdx i t)
theorem Vals.reverse {xs:List V} {us:List Value} (h:Vals xs us):Vals xs.reverse us.reverse:=by
 induction h with
 | nil=>exact .nil
 | cons r t ih=>rw [List.reverse_cons,List.reverse_cons]; exact Vals.append ih (.cons r .nil)
theorem Vals.rep {xs:List V} {us:List Value} (h:Vals xs us):∀ k:Nat,Vals (List.replicate k xs).flatten (List.replicate k us).flatten
 | 0=>.nil
 | k + 1=>by
  rw [List.replicate_succ,List.replicate_succ,List.flatten_cons,List.flatten_cons]
  exact Vals.append h (Vals.rep h k)
theorem erase_last {α:Type} (l:List α):l.eraseIdx (l.length - 1) = l.dropLast:=by
 induction l with
 | nil=>rfl
 | cons a r ih =>
  cases r with
  | nil=>rfl
  | cons b r =>
   have e:(a :: b :: r).length - 1 = ((b :: r).length - 1) + 1:=by
    have h1:(a :: b :: r).length = r.length + 2:=rfl
    have h2:(b :: r).length = r.length + 1:=rfl
    omega
   rw [e,List.eraseIdx_cons_succ,ih]
   all_goals rfl
section
variable {X:Cx} {pins:List (Addr × Obj)} {σ:St} {H:Hp} {s:Shared} {l b:Addr} {xs ys zs:List V}
theorem Inv.lset {its its':List Value} {n:Nat} {f:Array Value→Array Value} {t':Nat} (I:Inv X pins σ H s) (hH:H l = some (.lst xs))
  (e:s.heap.get? l = some { cls:=.type "list",data:=.seq its.toArray n }) (hf:f its.toArray = its'.toArray) (hv:Vals ys its') (hz:ys.length ≤ sizeLine) :
  Inv X pins σ (upd H l (.lst ys)) { s with heap:=s.heap.update l (Obj.mapSeq f),toks:=t' }:=by
 have q:=PySem.IsL.update e f
 rw [hf] at q
 refine I.write (x:=l) (e:=l) (by rw [hH]; exact trivial) (.inl rfl) (fun b' u hb hu=>(Heap.get?_update_other s.heap (Obj.mapSeq f) (Ne.symm hb)).trans hu) ⟨_,q⟩ ?_
 exact ⟨hz,its',_,hv,q⟩
theorem Inv.fresh (I:Inv X pins σ H s):H s.heap.objs.size = none:=I.hok.fresh (Nat.le_refl _)
theorem Inv.lstM (I:Inv X pins σ H s) (hH:H l = some (.lst xs)):xs.length ≤ sizeLine∧∃ (its:List Value) (n:Nat),Vals xs its∧xs.length = its.length∧s.heap.get? l = some { cls:=.type "list",data:=.seq its.toArray n }:=by
 obtain ⟨z,its,n,r,e⟩:=I.hok l _ hH
 exact ⟨z,its,n,r,r.length,e⟩
end
section
variable {X:Cx}
def rAppend:V→List V→Hp→VK→Prop:=fun x vs H Q=>∃ l xs y,x = .ref l∧vs = [y]∧H l = some (.lst xs)∧xs.length < sizeLine∧Q .non (upd H l (.lst (xs ++ [y])))
theorem mt_append:MtM X "list.append" rAppend:=by
 intro pins s σ H x vs v us Q I rx rv h
 obtain ⟨l,xs,y,rfl,rfl,hH,hz,q⟩:=h
 cases rx
 obtain ⟨u,rfl,ru⟩:=rv.one
 obtain ⟨z,its,n,r,hl,e⟩:=I.lstM hH
 refine call_meets F.slot_list_append ⟨_,e,rfl⟩ F.entry_list_append (F.args_list_append_2 _ _) (PySem.list_append l its.toArray n u (by rw [List.size_toArray]; omega)) ⟨e,?_⟩
 refine ⟨.non,_,I.lset (its':=its ++ [u]) hH e (by simp) (r.append (.cons ru .nil)) ?_,rfl,q⟩
 rw [List.length_append,List.length_singleton]
 omega
def rPop:V→List V→Hp→VK→Prop:=fun x vs H Q=>∃ l xs y,x = .ref l∧vs = []∧H l = some (.lst xs)∧xs[xs.length - 1]? = some y∧Q y (upd H l (.lst xs.dropLast))
theorem mt_pop:MtM X "list.pop" rPop:=by
 intro pins s σ H x vs v us Q I rx rv h
 obtain ⟨l,xs,y,rfl,rfl,hH,hy,q⟩:=h
 cases rx
 have hus:=rv.zero
 subst hus
 obtain ⟨z,its,n,r,hl,e⟩:=I.lstM hH
 obtain ⟨u,hu,ru⟩:=r.get hy
 have hy':its.toArray[its.toArray.size - 1]? = some u:=by
  show its.toArray[its.length - 1]? = some u
  rw [← Array.getElem?_toList,← hl]
  exact hu
 refine call_meets F.slot_list_pop ⟨_,e,rfl⟩ F.entry_list_pop (F.args_list_pop_1 _) (MeetsSeq.list_pop_last l its.toArray n u hy' (by rw [List.size_toArray]; omega)) ⟨e,?_⟩
 refine ⟨y,_,I.lset (its':=its.dropLast) hH e ?_ r.dropLast ?_,ru,q⟩
 ·show its.toArray.eraseIdxIfInBounds (its.toArray.size - 1) = its.dropLast.toArray
  rw [List.size_toArray,List.eraseIdxIfInBounds_toArray,erase_last]
 ·rw [List.length_dropLast]
  omega
end
section
variable {κ:Type} [DecidableEq κ]
def valV (kvs:List (κ × V)) (k:κ):Option V:=(kvs.find? fun kv=>decide (kv.1 = k)).map (·.2)
def putK (kvs:List (κ × V)) (k:κ) (v:V):List (κ × V) :=
 if (kvs.any fun kv=>decide (kv.1 = k)) = true then kvs.map (fun kv=>if kv.1 = k then (kv.1,v) else kv) else kvs ++ [(k,v)]
def dropK (kvs:List (κ × V)) (k:κ):List (κ × V):=kvs.filter fun kv=>decide (kv.1 ≠ k)
theorem valV_pos {p:κ × V} {r:List (κ × V)} {k:κ} (e:p.1 = k):valV (p :: r) k = some p.2:=by simp [valV,List.find?_cons,e]
theorem valV_neg {p:κ × V} {r:List (κ × V)} {k:κ} (e:¬ p.1 = k):valV (p :: r) k = valV r k:=by simp [valV,List.find?_cons,e]
theorem valV_any (k:κ):∀ kvs:List (κ × V),(kvs.any fun kv=>decide (kv.1 = k)) = (valV kvs k).isSome
 | []=>rfl
 | p :: r=>by
  rw [List.any_cons]
  by_cases e:p.1 = k
  ·simp only [valV_pos e,decide_eq_true e,Bool.true_or,Option.isSome_some]
  ·rw [valV_neg e,decide_eq_false e,Bool.false_or]; exact valV_any k r
theorem length_putK (kvs:List (κ × V)) (k:κ) (v:V):(putK kvs k v).length ≤ kvs.length + 1:=by
 unfold putK
 split
 ·rw [List.length_map]; omega
 ·rw [List.length_append,List.length_cons,List.length_nil]; omega
theorem RelO.isSome_eq {o:Option V} {u:Option Value} (r:RelO o u):o.isSome = u.isSome:=by
 cases o with
 | none=>cases u with
  | none=>rfl
  | some _=>exact (show False from r).elim
 | some _=>cases u with
  | none=>exact (show False from r).elim
  | some _=>rfl
theorem RelO.getD {o:Option V} {u:Option Value} {d:V} {d':Value} (r:RelO o u) (rd:RelV d d'):RelV (o.getD d) (u.getD d'):=by
 cases o with
 | none=>cases u with
  | none=>exact rd
  | some _=>exact (show False from r).elim
 | some _=>cases u with
  | none=>exact (show False from r).elim
  | some _=>exact r
theorem KV.val {kvs:List (κ × V)} {vs:List (κ × Value)} (r:KV kvs vs) (k:κ):RelO (valV kvs k) (valueAt vs k):=by
 unfold KV at r
 induction r with
 | nil=>exact True.intro
 | @cons p q ps qs h t ih =>
  obtain ⟨h1,h2⟩:=h
  by_cases e:p.1 = k
  ·have e':q.1 = k:=h1.symm.trans e
   have b:valueAt (q :: qs) k = some q.2:=by simp [valueAt,List.find?_cons,e']
   rw [valV_pos e,b]; exact h2
  ·have e':¬ q.1 = k:=fun z=>e (h1.trans z)
   have b:valueAt (q :: qs) k = valueAt qs k:=by simp [valueAt,List.find?_cons,e']
   rw [valV_neg e,b]; exact ih
theorem KV.any {kvs:List (κ × V)} {vs:List (κ × Value)} (r:KV kvs vs) (k:κ):(kvs.any fun kv=>decide (kv.1 = k)) = vs.any fun kv=>decide (kv.1 = k):=by
 unfold KV at r
 induction r with
 | nil=>rfl
 | cons h t ih=>rw [List.any_cons,List.any_cons,ih,h.1]
theorem KV.repl {kvs:List (κ × V)} {vs:List (κ × Value)} (r:KV kvs vs) (k:κ) {y:V} {u:Value} (ry:RelV y u) :
  KV (kvs.map fun kv=>if kv.1 = k then (kv.1,y) else kv) (vs.map fun kv=>if kv.1 = k then (kv.1,u) else kv):=by
 unfold KV at r ⊢
 induction r with
 | nil=>exact .nil
 | @cons p q ps qs h t ih =>
  rw [List.map_cons,List.map_cons]
  refine .cons ?_ ih
  obtain ⟨h1,h2⟩:=h
  by_cases e:p.1 = k
  ·rw [if_pos e,if_pos (h1.symm.trans e)]; exact ⟨h1,ry⟩
  ·rw [if_neg e,if_neg (fun z=>e (h1.trans z))]; exact ⟨h1,h2⟩
theorem KV.put {kvs:List (κ × V)} {vs:List (κ × Value)} (r:KV kvs vs) (k:κ) {y:V} {u:Value} (ry:RelV y u):KV (putK kvs k y) (stored vs k u):=by
 unfold putK stored
 rw [r.any k]
 by_cases e:(vs.any fun kv=>decide (kv.1 = k)) = true
 ·rw [if_pos e,if_pos e]; exact r.repl k ry
 ·rw [if_neg e,if_neg e]; exact Paired.snoc r ⟨rfl,ry⟩
theorem KV.drop {kvs:List (κ × V)} {vs:List (κ × Value)} (r:KV kvs vs) (k:κ):KV (dropK kvs k) (without vs k):=by
 unfold KV at r ⊢
 unfold dropK without
 induction r with
 | nil=>exact .nil
 | @cons p q ps qs h t ih =>
  obtain ⟨h1,h2⟩:=h
  rw [List.filter_cons,List.filter_cons]
  by_cases e:p.1 = k
  ·have a:¬ decide (p.1 ≠ k) = true:=by simp [e]
   have b:¬ decide (q.1 ≠ k) = true:=by simp [h1.symm.trans e]
   rw [if_neg a,if_neg b]; exact ih
  ·have e':¬ q.1 = k:=fun z=>e (h1.trans z)
   have a:decide (p.1 ≠ k) = true:=by simp [e]
   have b:decide (q.1 ≠ k) = true:=by simp [e']
   rw [if_pos a,if_pos b]; exact .cons ⟨h1,h2⟩ ih
theorem KV.keys {kvs:List (κ × V)} {vs:List (κ × Value)} (r:KV kvs vs):kvs.map (·.1) = vs.map (·.1):=by
 unfold KV at r
 induction r with
 | nil=>rfl
 | cons h t ih=>rw [List.map_cons,List.map_cons,ih,h.1]
theorem KV.length {kvs:List (κ × V)} {vs:List (κ × Value)} (r:KV kvs vs):kvs.length = vs.length:=Paired.length r
end
theorem kV_is {P:Program} {w:World} {k:Key} {u:Value} (r:RelV (kV k) u):(mixKind P w).is k u = true:=by
 cases k with
 | inl i=>obtain ⟨t,e⟩:=(show ∃ t,u = Value.int i t from r); subst e; exact mixKind_int P w i t
 | inr x=>obtain ⟨t,e⟩:=(show ∃ t,u = Value.str x t from r); subst e; exact mixKind_str P w x t
theorem items_are {P:Program} {w:World}:∀ {ks:List Key} {us:List Value},Vals (ks.map kV) us→ItemsAre (mixKind P w) ks us
 | [],_,r=>by rw [List.map_nil] at r; cases r; exact .nil
 | k :: ks,_,r=>by
  rw [List.map_cons] at r
  cases r with
  | cons h t=>exact .cons (kV_is h) (items_are t)
abbrev KT (H:Hp):List (List Key × V)→List (List Key × Addr × Value)→Prop:=Paired fun p q=>p.1 = q.1∧H q.2.1 = some (.tup (p.1.map kV))∧RelV p.2 q.2.2
theorem KT.val {H:Hp} {kvs:List (List Key × V)} {xs:List (List Key × Addr × Value)} (r:KT H kvs xs) (k:List Key):RelO (valV kvs k) ((atKey xs k).map (·.2)):=by
 induction r with
 | nil=>exact True.intro
 | @cons p q ps qs h t ih =>
  obtain ⟨h1,_,h2⟩:=h
  by_cases e:p.1 = k
  ·have e':q.1 = k:=h1.symm.trans e
   have b:atKey (q :: qs) k = some q.2:=by simp [atKey,List.find?_cons,e']
   rw [valV_pos e,b]; exact h2
  ·have e':¬ q.1 = k:=fun z=>e (h1.trans z)
   have b:atKey (q :: qs) k = atKey qs k:=by simp [atKey,List.find?_cons,e']
   rw [valV_neg e,b]; exact ih
theorem KT.repl {H:Hp} {kvs:List (List Key × V)} {xs:List (List Key × Addr × Value)} (r:KT H kvs xs) (k:List Key) {y:V} {u:Value} (ry:RelV y u) :
  KT H (kvs.map fun kv=>if kv.1 = k then (kv.1,y) else kv) (xs.map (putAt k u)):=by
 induction r with
 | nil=>exact .nil
 | @cons p q ps qs h t ih =>
  rw [List.map_cons,List.map_cons]
  refine .cons ?_ ih
  obtain ⟨h1,h2,h3⟩:=h
  unfold putAt
  by_cases e:p.1 = k
  ·rw [if_pos e,if_pos (h1.symm.trans e)]; exact ⟨h1,h2,ry⟩
  ·rw [if_neg e,if_neg (fun z=>e (h1.trans z))]; exact ⟨h1,h2,h3⟩
theorem KT.put {H:Hp} {kvs:List (List Key × V)} {xs:List (List Key × Addr × Value)} (r:KT H kvs xs) (k:List Key) {b:Addr} {y:V} {u:Value} (hb:H b = some (.tup (k.map kV))) (ry:RelV y u) :
  KT H (putK kvs k y) (storedH xs k b u):=by
 have e:(kvs.any fun kv=>decide (kv.1 = k)) = (atKey xs k).isSome:=by
  rw [valV_any,(r.val k).isSome_eq,Option.isSome_map]
 unfold putK storedH
 rw [e]
 by_cases q:(atKey xs k).isSome = true
 ·rw [if_pos q,if_pos q]; exact r.repl k ry
 ·rw [if_neg q,if_neg q]; exact Paired.snoc r ⟨rfl,hb,ry⟩
theorem KT.keeps {H H':Hp} {kvs:List (List Key × V)} {xs:List (List Key × Addr × Value)} (r:KT H kvs xs) (ht:∀ b ys,H b = some (.tup ys)→H' b = some (.tup ys)):KT H' kvs xs :=
 Paired.mapP r fun _ _ z=>⟨z.1,ht _ _ z.2.1,z.2.2⟩
section
variable {P:Program} {w:World} {H:Hp} {h:Heap} {a:Addr}
theorem rd_of {u:HO} (ok:HOk P w H h) (e:Rd H a u):ObjOk P w H h a u:=e.ok ok
theorem dk_rd {kvs:List (Key × V)} (ok:HOk P w H h) (e:Rd H a (.dK kvs)):kvs.length ≤ sizeLine∧(a == sysModules) = false∧∃ vs,KV kvs vs∧h.DictOf (mixKind P w) a vs :=
 show ObjOk P w H h a (.dK kvs) from rd_of ok e
theorem dk_of {kvs:List (Key × V)} (ok:HOk P w H h) (e:H a = some (.dK kvs)):kvs.length ≤ sizeLine∧(a == sysModules) = false∧∃ vs,KV kvs vs∧h.DictOf (mixKind P w) a vs:=dk_rd ok (.inl e)
theorem key_of {ks:List Key} (ok:HOk P w H h) (e:H a = some (.tup (ks.map kV))):(tupleKind (mixKind P w)).is h ks a:=by
 obtain ⟨_,its,r,o,h1,h2,n,h3⟩:=(show ObjOk P w H h a (.tup (ks.map kV)) from ok a _ e)
 exact ⟨o,its.toArray,n,h1,h2,h3,by simpa using items_are r⟩
theorem dt_rd {kvs:List (List Key × V)} (ok:HOk P w H h) (e:Rd H a (.dT kvs)):kvs.length ≤ sizeLine∧(a == sysModules) = false ∧
  ∃ xs,KT H kvs xs∧h.DictOfH (tupleKind (mixKind P w)) a xs:=by
 obtain ⟨z,y,xs,r,o,es,ep,h1,h2,h3,h4,h5⟩:=(show ObjOk P w H h a (.dT kvs) from rd_of ok e)
 refine ⟨z,y,xs,r,o,es,ep,h1,h2,h3,h4,fun x hx=>?_,h5⟩
 have all:∀ {l:List (List Key × V)} {m:List (List Key × Addr × Value)},KT H l m→∀ x ∈ m,(tupleKind (mixKind P w)).is h x.1 x.2.1:=by
  intro l m q
  induction q with
  | nil=>intro x hx; exact nomatch hx
  | @cons p q ps qs hq t ih =>
   intro x hx
   rcases List.mem_cons.mp hx with e | hx
   ·subst e
    exact key_of ok (by rw [← hq.1]; exact hq.2.1)
   ·exact ih x hx
 exact all r x hx
theorem dt_of {kvs:List (List Key × V)} (ok:HOk P w H h) (e:H a = some (.dT kvs)):kvs.length ≤ sizeLine∧(a == sysModules) = false ∧
  ∃ xs,KT H kvs xs∧h.DictOfH (tupleKind (mixKind P w)) a xs:=dt_rd ok (.inl e)
end
def DGet (H:Hp) (a:Addr) (y:V) (r:Option V):Prop :=
 (∃ kvs k,Rd H a (.dK kvs)∧y = kV k∧r = valV kvs k) ∨ ∃ kvs k b,Rd H a (.dT kvs)∧y = .ref b∧H b = some (.tup (k.map kV))∧r = valV kvs k
def DPut (H:Hp) (a:Addr) (y v:V) (H':Hp):Prop :=
 (∃ kvs k,H a = some (.dK kvs)∧y = kV k∧kvs.length < sizeLine∧H' = upd H a (.dK (putK kvs k v))) ∨
 ∃ kvs k b,H a = some (.dT kvs)∧y = .ref b∧H b = some (.tup (k.map kV))∧kvs.length < sizeLine∧H' = upd H a (.dT (putK kvs k v))
theorem DGet.k {H:Hp} {a:Addr} {kvs:List (Key × V)} {k:Key} (e:H a = some (.dK kvs)):DGet H a (kV k) (valV kvs k):=.inl ⟨kvs,k,.inl e,rfl,rfl⟩
theorem DGet.t {H:Hp} {a b:Addr} {kvs:List (List Key × V)} {k:List Key} (e:H a = some (.dT kvs)) (eb:H b = some (.tup (k.map kV))):DGet H a (.ref b) (valV kvs k):=.inr ⟨kvs,k,b,.inl e,rfl,eb,rfl⟩
theorem DPut.k {H:Hp} {a:Addr} {kvs:List (Key × V)} {k:Key} {v:V} (e:H a = some (.dK kvs)) (hl:kvs.length < sizeLine):DPut H a (kV k) v (upd H a (.dK (putK kvs k v))):=.inl ⟨kvs,k,e,rfl,hl,rfl⟩
theorem DPut.t {H:Hp} {a b:Addr} {kvs:List (List Key × V)} {k:List Key} {v:V} (e:H a = some (.dT kvs)) (eb:H b = some (.tup (k.map kV))) (hl:kvs.length < sizeLine) :
  DPut H a (.ref b) v (upd H a (.dT (putK kvs k v))):=.inr ⟨kvs,k,b,e,rfl,eb,hl,rfl⟩
section
variable {X:Cx} {pins:List (Addr × Obj)} {σ:St} {H:Hp} {s:Shared} {a:Addr} {y v:V} {u r:Value} {o:Option V} {A:Around} {E:Value→Shared→Prop}
theorem Inv.big (I:Inv X pins σ H s):sysModules < s.heap.objs.size:=by
 have h:mainGlobals < s.heap.objs.size:=(I.mod.glob.keeps I.bk).lt
 exact Nat.lt_trans (by decide) h
theorem d_getItem {Q:Value→Shared→Prop} (hu:A.units + 1 < cLine) (I:Inv X pins σ H s) (g:DGet H a y (some v)) (ry:RelV y u) (h:∀ w' s',Inv X pins σ H s'→RelV v w'→Q w' s') :
  wpAny (model X.prog X.w) A (getItem (.ref a) u) Q E s:=by
 rcases g with ⟨kvs,k,e,ey,l⟩ | ⟨kvs,k,b,e,ey,eb,l⟩
 ·subst ey
  obtain ⟨z,hd,vs,rel,dd⟩:=dk_rd I.hok e
  obtain ⟨w',hw,rw'⟩:=RelO.some_of (v:=v) (o:=valueAt vs k) (by rw [l]; exact rel.val k)
  exact wpAny_getItem_of (kV_is ry) dd.mapOf hw (h w' _ (I.tok _) rw')
 ·subst ey
  cases (show u = Value.ref b from ry)
  obtain ⟨z,hd,xs,rel,dd⟩:=dt_rd I.hok e
  obtain ⟨w',hw,rw'⟩:=RelO.some_of (v:=v) (o:=(atKey xs k).map (·.2)) (by rw [l]; exact rel.val k)
  obtain ⟨p,hp,hp2⟩:=Option.map_eq_some_iff.mp hw
  refine wpAny_getItem_heap (tupleKind_room_in1 hu) (key_of I.hok eb) dd hp ?_
  rw [hp2]
  exact h w' _ (I.tok _) rw'
theorem d_in {Q:Value→Shared→Prop} (hu:A.units + 1 < cLine) (I:Inv X pins σ H s) (g:DGet H a y o) (ry:RelV y u) (h:∀ s',Inv X pins σ H s'→Q (.bool o.isSome) s') :
  wpAny (model X.prog X.w) A (compareOp .In u (.ref a)) Q E s:=by
 rcases g with ⟨kvs,k,e,ey,l⟩ | ⟨kvs,k,b,e,ey,eb,l⟩
 ·subst ey
  obtain ⟨z,hd,vs,rel,dd⟩:=dk_rd I.hok e
  refine wpAny_in_of (kV_is ry) hd dd.mapOf ?_
  rw [← (rel.val k).isSome_eq,← l]
  exact h _ (I.tok _)
 ·subst ey
  cases (show u = Value.ref b from ry)
  obtain ⟨z,hd,xs,rel,dd⟩:=dt_rd I.hok e
  refine wpAny_in_heap (tupleKind_room_in1 hu) (key_of I.hok eb) hd dd ?_
  have q:=(rel.val k).isSome_eq
  rw [Option.isSome_map] at q
  rw [← q,← l]
  exact h _ (I.tok _)
theorem d_notIn {Q:Value→Shared→Prop} (hu:A.units + 1 < cLine) (I:Inv X pins σ H s) (g:DGet H a y o) (ry:RelV y u) (h:∀ s',Inv X pins σ H s'→Q (.bool (!o.isSome)) s') :
  wpAny (model X.prog X.w) A (compareOp .NotIn u (.ref a)) Q E s:=by
 rcases g with ⟨kvs,k,e,ey,l⟩ | ⟨kvs,k,b,e,ey,eb,l⟩
 ·subst ey
  obtain ⟨z,hd,vs,rel,dd⟩:=dk_rd I.hok e
  refine wpAny_notIn_of (kV_is ry) hd dd.mapOf ?_
  rw [← (rel.val k).isSome_eq,← l]
  exact h _ (I.tok _)
 ·subst ey
  cases (show u = Value.ref b from ry)
  obtain ⟨z,hd,xs,rel,dd⟩:=dt_rd I.hok e
  refine wpAny_notIn_heap (tupleKind_room_in1 hu) (key_of I.hok eb) hd dd ?_
  have q:=(rel.val k).isSome_eq
  rw [Option.isSome_map] at q
  rw [← q,← l]
  exact h _ (I.tok _)
theorem d_write {h':Heap} {t':Nat} {ob:HO} (I:Inv X pins σ H s) (mu:Mut (H a)) (hs:Heap.SameBut a s.heap h') (he:∃ q,h'.get? a = some q) (new:ObjOk X.prog X.w (upd H a ob) h' a ob) :
  Inv X pins σ (upd H a ob) { s with heap:=h',toks:=t' } :=
 I.write (x:=a) (e:=a) mu (.inl rfl) (fun b q hb z=>(hs.2 b hb).trans z) he new
theorem dk_new {P:Program} {w:World} {H':Hp} {h':Heap} {kvs:List (Key × V)} {vs:List (Key × Value)} (z:kvs.length ≤ sizeLine) (hd:(a == sysModules) = false) (rel:KV kvs vs) (dd:h'.DictOf (mixKind P w) a vs) :
  ObjOk P w H' h' a (.dK kvs):=⟨z,hd,vs,rel,dd⟩
theorem d_setItem {H':Hp} {Q:Unit→Shared→Prop} (hu:A.units + 1 < cLine) (I:Inv X pins σ H s) (g:DPut H a y v H') (ry:RelV y u) (rv:RelV v r) (h:∀ s',Inv X pins σ H' s'→Q () s') :
  wpAny (model X.prog X.w) A (setItem (.ref a) u r) Q E s:=by
 rcases g with ⟨kvs,k,e,ey,l,eH⟩ | ⟨kvs,k,b,e,ey,eb,l,eH⟩
 ·subst ey eH
  obtain ⟨z,hd,vs,rel,dd⟩:=dk_of I.hok e
  have hz:vs.length ≤ sizeLine:=by rw [← rel.length]; exact z
  have hl:(putK kvs k v).length ≤ sizeLine:=by have:=length_putK kvs k v; omega
  refine wpAny_setItem_pairs (hsz:=hz) (kV_is ry) dd fun h' dd' hs=>h _ ?_
  have he:∃ q,h'.get? a = some q:=let ⟨q,_,_,hq,_⟩:=dd'; ⟨q,hq⟩
  exact d_write I (by rw [e]; exact True.intro) hs he (dk_new hl hd (rel.put k rv) dd')
 ·subst ey eH
  cases (show u = Value.ref b from ry)
  obtain ⟨z,hd,xs,rel,dd⟩:=dt_of I.hok e
  have hz:xs.length ≤ sizeLine:=by rw [← Paired.length rel]; exact z
  have hl:(putK kvs k v).length ≤ sizeLine:=by have:=length_putK kvs k v; omega
  refine wpAny_setItem_heap (hsz:=hz) (tupleKind_room_in1 hu) (key_of I.hok eb) dd fun h' dd' hs=>h _ ?_
  obtain ⟨q,es,ep,hq,h2,h3,h4,_,h5⟩:=dd'
  refine d_write I (by rw [e]; exact True.intro) hs ⟨q,hq⟩ ⟨hl,hd,_,(rel.put k eb rv).keeps fun c ys ec=>?_,q,es,ep,hq,h2,h3,h4,h5⟩
  rw [upd_ne (ne_of ec e (fun z=>nomatch z))]
  exact ec
end
def NoSl (i:Expr):Prop:=∀ ov iv,subscripted i false ov iv = operate [ov,iv] (getItem ov iv)
theorem subD_of {prog:Program} {w:World} {A:Around} {E:Value→Shared→Prop} {s:Shared} {env:Env} {value slice:Expr} {pos:Pos} {T id:String} {Q:Value→Shared→Prop}
  (hl:typeLookup (.type T) "__getitem__" = pure (some (.builtin id))) (hs:NoSl slice)
  (h:wpAny (model prog w) A (eval value env) (fun o s₁=>wpAny (model prog w) A (eval slice env) (fun i s₂=>s₂.TypeIs o T∧wpAny (model prog w) A (getItem o i) Q E s₂) E s₁) E s) :
  wpAny (model prog w) A (eval (.Subscript value slice pos) env) Q E s:=by
 refine Subscript_ (wpAny_mono h (fun o s₁ h₁=>wpAny_mono h₁ (fun i s₂ h₂=>?_) fun _ _ x=>x) fun _ _ x=>x)
 obtain ⟨hT,h₂⟩:=h₂
 unfold subscriptTail
 refine wpAny_bind ?_
 rw [getitemInPython_of_ne hT.not_modules]
 refine wpAny_bind (wpAny_specialOf hT hl ?_)
 have fin:wpAny (model prog w) A (subscripted slice false o i) (fun r s₃=>wpAny (model prog w) A (letTemporaryGo value o r >>= fun _=>pure r) Q E s₃) E s₂:=by
  rw [hs o i]
  exact wpAny_operating (wpAny_mono h₂ (fun r s₃ h₃=>wpAny_bind (wpAny_letTemporaryGo (wpAny_pure h₃))) fun _ _ x=>x)
 first
  | exact wpAny_pure (wpAny_bind fin)
  | exact wpAny_bind (wpAny_pure (wpAny_bind fin))
  | exact wpAny_bind fin
theorem dict_typeIs {X:Cx} {pins:List (Addr × Obj)} {σ:St} {H:Hp} {s:Shared} {a:Addr} {y:V} {o:Option V} (I:Inv X pins σ H s) (g:DGet H a y o):s.TypeIs (.ref a) "dict" := by
 rcases g with ⟨kvs,k,e,_,_⟩ | ⟨kvs,k,b,e,_,_,_⟩
 ·obtain ⟨_,_,vs,_,dd⟩:=dk_rd I.hok e
  exact dd.typeIs
 ·obtain ⟨_,_,xs,_,dd⟩:=dt_rd I.hok e
  exact dd.typeIs
def tDGet (td ty:TE):TE:=fun σ H Q=>td σ H fun x H1=>ty σ H1 fun y H2=>∃ a v,x = .ref a∧DGet H2 a y (some v)∧Q v H2
def tDIn (ty td:TE):TE:=fun σ H Q=>ty σ H fun y H1=>td σ H1 fun x H2=>∃ a o,x = .ref a∧DGet H2 a y o∧Q (.bl o.isSome) H2
def tDNotIn (ty td:TE):TE:=fun σ H Q=>ty σ H fun y H1=>td σ H1 fun x H2=>∃ a o,x = .ref a∧DGet H2 a y o∧Q (.bl (!o.isSome)) H2
def sDPut (td ty tv:TE):TS:=fun D σ H=>tv σ H fun v H1=>td σ H1 fun x H2=>ty σ H2 fun y H3=>∃ a H4,x = .ref a∧DPut H3 a y v H4∧D.nx σ H4
section
variable {X:Cx} {o i e value:Expr} {pos pos' tpos:Pos} {td ty tv:TE}
theorem pe_dget (hu:X.A.units + 1 < cLine) (ho:PE X o td) (hi:PE X i ty) (hs:NoSl i):PE X (.Subscript o i pos) (tDGet td ty):=by
 intro pins s σ H Q I h
 refine subD_of PySem.F.slot_dict_getitem.lookup hs (thn (ho pins s σ H _ I h) fun u s1 ⟨x,H1,I1,rx,q1⟩=>thn (hi pins s1 σ H1 _ I1 q1) fun iv s2 ⟨y,H2,I2,ry,a,v,ex,g,q2⟩=>?_)
 subst ex
 obtain rfl:u = Value.ref a:=rx
 exact ⟨dict_typeIs I2 g,d_getItem hu I2 g ry fun w' s3 I3 rw'=>⟨v,H2,I3,rw',q2⟩⟩
theorem pc_din (hu:X.A.units + 1 < cLine) (hi:PE X i ty) (ho:PE X o td):PC X .In i o (tDIn ty td):=by
 intro pins s σ H Q I h
 refine thn (hi pins s σ H _ I h) fun iv s1 ⟨y,H1,I1,ry,q1⟩=>thn (ho pins s1 σ H1 _ I1 q1) fun u s2 ⟨x,H2,I2,rx,a,ov,ex,g,q2⟩=>?_
 subst ex
 obtain rfl:u = Value.ref a:=rx
 exact d_in hu I2 g ry fun s3 I3=>⟨.bl ov.isSome,H2,I3,rfl,q2⟩
theorem pc_dnotin (hu:X.A.units + 1 < cLine) (hi:PE X i ty) (ho:PE X o td):PC X .NotIn i o (tDNotIn ty td):=by
 intro pins s σ H Q I h
 refine thn (hi pins s σ H _ I h) fun iv s1 ⟨y,H1,I1,ry,q1⟩=>thn (ho pins s1 σ H1 _ I1 q1) fun u s2 ⟨x,H2,I2,rx,a,ov,ex,g,q2⟩=>?_
 subst ex
 obtain rfl:u = Value.ref a:=rx
 exact d_notIn hu I2 g ry fun s3 I3=>⟨.bl (!ov.isSome),H2,I3,rfl,q2⟩
theorem ps_dput (hu:X.A.units + 1 < cLine) (ho:PE X o td) (hi:PE X i ty) (hv:PE X value tv) (hs:swapsWith value (some (.Subscript o i pos')) pos.line X.env = pure false) :
  PS X (.Assign [.Subscript o i pos'] value pos) (sDPut td ty tv):=by
 intro pins s σ H D I h
 refine wpAny_Assign_Subscript (thn (hv pins s σ H _ I h) fun r s1 ⟨v,H1,I1,rv,q1⟩=>thn (ho pins s1 σ H1 _ I1 q1) fun u s2 ⟨x,H2,I2,rx,q2⟩=>thn (hi pins s2 σ H2 _ I2 q2) fun iv s3 ⟨y,H3,I3,ry,a,H4,ex,g,q3⟩=>?_) hs
 subst ex
 obtain rfl:u = Value.ref a:=rx
 exact d_setItem hu I3 g ry rv fun s4 I4=>⟨σ,H4,I4,q3⟩
end
theorem dk_empty {P:Program} {w:World} {H:Hp} (h:Heap) (hb:sysModules < h.objs.size):ObjOk P w H (h.push { cls:=.type "dict",data:=.dict #[] }) h.objs.size (.dK []) :=
 ⟨Nat.zero_le _,beq_eq_false_iff_ne.mpr (Ne.symm (Nat.ne_of_lt hb)),[],.nil,Heap.DictOf.new h⟩
def tDNewK:TE:=fun _ H Q=>∀ p,H p = none→Q (.ref p) (upd H p (.dK []))
section
variable {X:Cx} {pos:Pos}
theorem pe_dnewK:PE X (.Dict [] [] pos) tDNewK:=fun pins s σ H Q I h =>
 wpAny_Dict_empty ⟨.ref s.heap.objs.size,_,I.laid (a:=s.heap.objs.size) (o:=.dK []) (t':=s.toks) (fun _ _ q=>Heap.get?_push_of_some _ q) (Nat.le_refl _) (dk_empty s.heap I.big),rfl,h _ (I.hok.fresh (Nat.le_refl _))⟩
end
def tPairs:List (TE × TE)→St→Hp→(List (V × V)→Hp→Prop)→Prop
 | [],_,H,Q=>Q [] H
 | (tk,tv) :: r,σ,H,Q=>tk σ H fun x H1=>tv σ H1 fun y H2=>tPairs r σ H2 fun ps H3=>Q ((x,y) :: ps) H3
abbrev VV:List (V × V)→List (Value × Value)→Prop:=Paired fun p q=>RelV p.1 q.1∧RelV p.2 q.2
def PPs (X:Cx) (pos:Pos) (keys:List (Option Expr)) (values:List Expr) (trs:List (TE × TE)):Prop :=
 ∀ (pins:List (Addr × Obj)) (s:Shared) (σ:St) (H:Hp) (Q:List (V × V)→Hp→Prop),Inv X pins σ H s→tPairs trs σ H Q →
  wpAny (model X.prog X.w) X.A (evalPairs (pairTrees keys values X.env pos)) (fun vs s'=>∃ ps H',Inv X pins σ H' s'∧VV ps vs∧Q ps H') X.xe s
theorem pps_nil {X:Cx} {pos:Pos}:PPs X pos [] [] []:=fun pins s σ H Q I h=>pairTrees_nil_walk ⟨[],H,I,.nil,h⟩
theorem pps_cons {X:Cx} {pos:Pos} {k v:Expr} {ks:List (Option Expr)} {vs:List Expr} {tk tv:TE} {trs:List (TE × TE)} (hk:PE X k tk) (hv:PE X v tv) (hr:PPs X pos ks vs trs) :
  PPs X pos (some k :: ks) (v :: vs) ((tk,tv) :: trs):=fun pins s σ H Q I h =>
 pairTrees_cons_walk (thn (hk pins s σ H _ I h) fun u s1 ⟨x,H1,I1,rx,q1⟩=>thn (hv pins s1 σ H1 _ I1 q1) fun w2 s2 ⟨y,H2,I2,ry,q2⟩ =>
  thn (hr pins s2 σ H2 _ I2 q2) fun ws s3 ⟨ps,H3,I3,rel,q3⟩=>⟨(x,y) :: ps,H3,I3,.cons ⟨rx,ry⟩ rel,q3⟩)
def mergeK (kvs more:List (Key × V)):List (Key × V):=more.foldl (fun acc kv=>putK acc kv.1 kv.2) kvs
theorem KV.merge:∀ {more:List (Key × V)} {rs:List (Key × Value)} {kvs:List (Key × V)} {vs:List (Key × Value)},KV more rs→KV kvs vs→KV (mergeK kvs more) (merged vs rs):=by
 intro more rs kvs vs r
 unfold KV at r
 induction r generalizing kvs vs with
 | nil=>intro q; exact q
 | @cons p q ps qs h t ih =>
  intro r0
  have e:KV (putK kvs p.1 p.2) (stored vs q.1 q.2):=by
   have:=r0.put p.1 h.2
   rw [← h.1]; exact this
  exact ih e
theorem length_mergeK:∀ (more kvs:List (Key × V)),(mergeK kvs more).length ≤ kvs.length + more.length
 | [],kvs=>by show kvs.length ≤ kvs.length + 0; omega
 | p :: r,kvs=>by
  have h1:=length_mergeK r (putK kvs p.1 p.2)
  have h2:=length_putK kvs p.1 p.2
  show (mergeK (putK kvs p.1 p.2) r).length ≤ _
  rw [List.length_cons]; omega
theorem carries_of {P:Program} {w:World}:∀ {kvs:List (Key × V)} {ws:List (Value × Value)},VV (kvs.map fun kv=>(kV kv.1,kv.2)) ws→∃ rs,Carries (mixKind P w) ws rs∧KV kvs rs
 | [],_,r=>by rw [List.map_nil] at r; cases r; exact ⟨[],True.intro,.nil⟩
 | p :: kvs,_,r=>by
  rw [List.map_cons] at r
  cases r with
  | @cons a b as bs h t =>
   obtain ⟨rs,c,q⟩:=carries_of (P:=P) (w:=w) t
   obtain ⟨b1,b2⟩:=b
   exact ⟨(p.1,b2) :: rs,⟨kV_is h.1,rfl,c⟩,.cons ⟨rfl,h.2⟩ q⟩
def tDisp (trs:List (TE × TE)):TE:=fun σ H Q=>∀ p,H p = none→tPairs trs σ (upd H p (.dK [])) fun ps H2=>H2 p = some (.dK [])∧∃ kvs:List (Key × V),ps = kvs.map (fun kv=>(kV kv.1,kv.2))∧kvs.length ≤ 15∧Q (.ref p) (upd H2 p (.dK (mergeK [] kvs)))
theorem pe_disp {X:Cx} {pos:Pos} {keys:List (Option Expr)} {values:List Expr} {trs:List (TE × TE)} (h:PPs X pos keys values trs) (hall:keys.all (·.isSome) = true) (hl:keys.length = values.length) (h0:keys ≠ [])
  (h15:keys.length ≤ 15):PE X (.Dict keys values pos) (tDisp trs):=by
 intro pins s σ H Q I q
 have hn:=I.hok.fresh (Nat.le_refl s.heap.objs.size)
 have I1:=I.laid (a:=s.heap.objs.size) (o:=.dK []) (h':=s.heap.push { cls:=.type "dict",data:=.dict #[] }) (t':=s.toks) (fun _ _ q=>Heap.get?_push_of_some _ q) (Nat.le_refl _) (dk_empty s.heap I.big)
 refine wpAny_Dict_walk (knd:=mixKind X.prog X.w) hall hl h0 h15 (thn (h pins _ σ _ _ I1 (q _ hn)) fun ws s2 ⟨ps,H2,I2,rel,e,kvs,ep,lk,q2⟩=>?_)
 subst ep
 obtain ⟨rs,c,rk⟩:=carries_of (P:=X.prog) (w:=X.w) rel
 obtain ⟨z,hd,vs0,r0,dd⟩:=dk_of I2.hok e
 cases r0
 refine ⟨rs,c,dd,fun h' dd' hs=>⟨.ref s.heap.objs.size,_,?_,rfl,q2⟩⟩
 have hz:(mergeK [] kvs).length ≤ sizeLine:=by
  have h1:=length_mergeK kvs []
  rw [List.length_nil] at h1
  rw [sizeLine_eq]; omega
 have he:∃ q,h'.get? s.heap.objs.size = some q:=let ⟨q,_,_,hq,_⟩:=dd'; ⟨q,hq⟩
 exact d_write I2 (by rw [e]; exact True.intro) hs he (dk_new hz hd (rk.merge .nil) dd')
structure M2 (X:Cx) (o:Expr) (m:Str) (apos:Pos) (e f:Expr) (cpos:Pos):Prop where
 base:attributeBase o m X.env (eval o X.env) = eval o X.env
 few:((backTo cpos (starEach [e,f] X.env)).all (fun x=>!x.1) && (backToKw cpos (keywordEach [] X.env)).all (fun x=>x.1.isSome)
  && decide (([e,f]:List Expr).length + ([]:List Keyword).length + (if ([]:List Keyword).isEmpty then 0 else 1) < 30)) = true
 line:(apos.endLine == cpos.line) = true
 trees:backTo cpos (starEach [e,f] X.env) = [(false,eval e X.env),(false,eval f X.env)]
def IsD (H:Hp) (a:Addr):Prop:=(∃ kvs,Rd H a (.dK kvs)) ∨ ∃ kvs,Rd H a (.dT kvs)
theorem isD_at {X:Cx} {pins:List (Addr × Obj)} {σ:St} {H:Hp} {s:Shared} {a:Addr} (I:Inv X pins σ H s) (d:IsD H a) :
  s.TypeIs (.ref a) "dict" ∧ (∀ b,Value.ref a = .ref b→∃ ob,s.heap.get? b = some ob∧ob.dict = none)∧(a == sysModules) = false:=by
 rcases d with ⟨kvs,e⟩ | ⟨kvs,e⟩
 ·obtain ⟨_,hd,vs,_,dd⟩:=dk_rd I.hok e
  refine ⟨dd.typeIs,fun b q=>?_,hd⟩
  cases q
  obtain ⟨ob,_,_,h1,h2,_⟩:=dd
  exact ⟨ob,h1,h2.2.1⟩
 ·obtain ⟨_,hd,xs,_,dd⟩:=dt_rd I.hok e
  refine ⟨dd.typeIs,fun b q=>?_,hd⟩
  cases q
  obtain ⟨ob,_,_,h1,h2,_⟩:=dd
  exact ⟨ob,h1,h2.2.1⟩
end L2
namespace Att
open PySem PySem.W PySem.Calls PyProof.Rows
theorem ints_of_wellAll {P:Params} {h:Heap}:∀ (ns:List Int) (vs:List Value),WellAll P h vs (ns.map WData.int)→IntsAre vs ns:=by
 intro ns
 induction ns with
 | nil =>
  intro vs w
  rw [List.map_nil] at w
  cases w
  exact .nil
 | cons n ns ih =>
  intro vs w
  rw [List.map_cons] at w
  cases w with
  | cons a b =>
   cases a
   exact .cons _ _ (ih _ b)
theorem script_of {l:OpenLaw} {n:Nat} (hn:l.most = some n) {P:Params} {h:Heap} {args:List WData} {vals:List Value}
  (hpre:l.row.toRowW.claim.pre args = true) (hwl:WellAll P h vals args) :
  ∃ a vs ns,vals = [Value.ref a]∧args = [WData.list (ns.map WData.int)]∧h.get? a = some { cls:=.type "list",data:=.seq vs.toArray }∧IntsAre vs ns∧ns.length ≤ n:=by
 have hsh:WShape.hasAll [] args [.list .int] = true:=(pre_splitW hpre).1
 have hc:l.pre.holds [] { args:=args } = true:=(pre_splitW hpre).2
 obtain ⟨d,r,rfl,h1,h2⟩:=hasAllW_cons hsh
 obtain rfl:=hasAllW_nil h2
 obtain ⟨xs,rfl,h3⟩:=hasW_list h1
 obtain ⟨ns,rfl⟩:=items_int h3
 have hlen:ns.length ≤ n:=by
  unfold OpenLaw.pre at hc
  have h4:(WTm.not (.lt (.lit (.int (n:Int))) (.len (.arg 0)))).holds [] { args:=[.list (ns.map .int)] } = true:=by
   have h4:=(holds_andW hc).1
   rw [hn] at h4
   exact h4
  have h5:=condW_of h4 (w_not (w_lt w_lit (w_len_list (w_arg rfl))))
  rw [List.length_map] at h5
  refine Nat.le_of_not_lt fun q=>?_
  have q':(n:Int) < ((ns.length:Nat):Int):=by omega
  first
   | (rw [decide_eq_true q'] at h5; exact absurd h5 (by decide))
   | (simp at h5; omega)
 cases hwl with
 | cons w1 w2 =>
  cases w2
  cases w1 with
  | list ho hall=>exact ⟨_,_,ns,rfl,rfl,ho,ints_of_wellAll ns _ hall,hlen⟩
theorem post_true (l:OpenLaw) (args:List WData):l.row.toRowW.claim.post args (.bool true) args = true :=
 postW_of (r:=l.row.toRowW) (X:=(true == true))
  (show WShape.has [] (.bool true) .bool = true by first | rfl | decide | simp [WShape.has,WShape.arms,WShape.armsAll])
  (show (WTm.eq .res (.lit (.bool true))).value [] { args:=args,res:=some (.bool true),after:=args } = some (.bool (true == true)) from w_eq_bool (w_res rfl) w_lit) rfl
theorem attach_call {l:OpenLaw} {n:Nat} {q:Program} {loose:List Str} {XP:(Str→Option Value)→Heap→Prop} {YP:World→Heap→Prop} {d:DefRec}
  (hn:l.most = some n) (hdf:d.params.defaults = [])
  (call:∀ (w:World) (s₀ s₁:Shared) (mg mb:Str→Option Value) (fa:Addr) (o:Obj) (pm cd doc:Value) (a:Addr) (vs:List Value) (ns:List Int),
   Ground q loose [] XP w s₀ mg mb s₁.heap→YP w s₁.heap →
   s₁.heap.get? fa = some o→o.data = .func (docDef d.name d.params d.body d.scope pm cd doc)→s₁.heap.CodeRec cd d.name→mg d.name = some (.ref fa) →
   s₁.heap.get? a = some { cls:=.type "list",data:=.seq vs.toArray }→IntsAre vs ns→ns.length ≤ n→s₁.gens = #[] →
   codeAny (model l.prog w) callerA (.call (.ref fa) ⟨[.ref a],[]⟩) (fun r s'=>r = .ok (.ret (.bool true))∧OldK s₁.heap s'.heap∧s'.os = s₁.os∧AllBare s'.gens) s₁) :
  WalkO q loose XP YP l.row.toRowW d [] (fun f vs=>PySem.call f vs):=by
 intro w s₀ s₁ mg mb G Y fa o pm cd doc dV kV ho hd hcd hD hmg hg args vals as hpre hlay hrd hwl hlo
 obtain rfl:dV = .none:=Dflts.none hD hdf
 obtain rfl:kV = .none:=Dflts.noKw hD
 obtain ⟨a,vs,ns,rfl,rfl,hobj,hints,hlen⟩:=script_of hn hpre hwl
 refine enter_call (codeAny_mono (call w s₀ s₁ mg mb fa o pm cd doc a vs ns G Y ho (fd_plain hd) hcd hmg hobj hints hlen hg) fun r s' hq=>?_)
 obtain ⟨rfl,h2,h3,h4⟩:=hq
 exact ⟨.inl ⟨.bool true,.bool true,[],rfl,fun _=>rfl,.bool true,post_true l _,fun _=>⟨List.Pairwise.nil,fun _ hm=>(nomatch hm)⟩⟩,h2,h3,h4⟩
end Att
namespace L2
open PySem PySem.Spec PyProof.Rows
theorem vals_ints:∀ {vs:List Value} {ns:List Int},IntsAre vs ns→Vals (ns.map V.int) vs
 | _,_,.nil=>.nil
 | _,_,.cons n t h=>.cons ⟨t,rfl⟩ (vals_ints h)
def Only (H:Hp):Prop:=∀ b,H b = none ∨ ∃ o xs,H b = some (.frz o (.lst xs))
theorem law_call {P:Program} {w:World} {K:PySem.W.Frag} {mg mb:Str→Option Value} {CX:CXT} {k:Nat} {fa a:Addr} {fd:FuncData} {x:Str} {sp:Sp} {s₁:Shared} {vs:List Value} {ns:List Int}
  (KX:K.In s₁.heap) (hns:s₁.heap.Ns mainGlobals mg) (hb:s₁.heap.Ns builtinsNs mb) (hbb:∀ x:Str,x ≠ "__name__" → mb x = bootBuiltins x) (hlim:s₁.heap.NoLimit) (hg:s₁.gens = #[])
  (ha:s₁.heap.get? a = some { cls:=.type "list",data:=.seq vs.toArray }) (hi:IntsAre vs ns) (hl:ns.length ≤ sizeLine) (hr:Room k callerA)
  (F:∀ base:Heap,K.In base→base.Ns mainGlobals mg→FnOk P w K mg base CX k fa fd [x] sp) (hbind:∀ (s:Shared) (u:Value),BindsTo s fd ⟨[u],[]⟩ [(x,u)])
  (hsp:∀ H:Hp,Only H→SqL K H a (ns.map V.int)→sp [.ref a] H (fun v _=>v = .bl true) fun _ _ _=>False)
  (hCX:∀ H e s',CX [] H s₁ (fun _ _ _=>False) e s'→False) :
  codeAny (model P w) callerA (.call (.ref fa) ⟨[.ref a],[]⟩) (fun r s'=>r = .ok (.ret (.bool true))∧OldK s₁.heap s'.heap∧s'.os = s₁.os∧AllBare s'.gens) s₁:=by
 have rv:=vals_ints hi
 have lenV:=hi.length
 have core:∀ H:Hp,Only H→SqL K H a (ns.map V.int)→HOk P w H s₁.heap→(∀ b,H b ≠ none→b = a)→(H a ≠ none→K.lookup a = none) →
   codeAny (model P w) callerA (.call (.ref fa) ⟨[.ref a],[]⟩) (fun r s'=>r = .ok (.ret (.bool true))∧OldK s₁.heap s'.heap∧s'.os = s₁.os∧AllBare s'.gens) s₁:=by
  intro H hO hS hok hA hK
  have base_of:∀ {b:Addr} {o:Obj},s₁.heap.get? b = some o→H b = none→(hidT s₁.heap H).get? b = some o:=fun e n=>hidT_get e n
  have noA:∀ {b:Addr} {o:Obj} {es:Array DictEntry} {ep:Nat},s₁.heap.get? b = some o→o.data = .dict es ep→H b = none:=fun {b o es ep} e d=>by
   cases q:H b with
   | none=>rfl
   | some u =>
    have e':b = a:=hA b (by rw [q]; simp)
    subst e'
    rw [ha] at e; cases e
    have d':Data.seq vs.toArray _ = Data.dict es ep:=d
    cases d'
  have nsK:∀ {b:Addr} {m:Str→Option Value},s₁.heap.Ns b m→(hidT s₁.heap H).Ns b m:=fun {b m} ⟨o,es,ep,e,d,r⟩=>⟨o,es,ep,base_of e (noA e d),d,r⟩
  have hKb:K.In (hidT s₁.heap H):=fun b o e=>base_of (KX b o e) (by
   cases q:H b with
   | none=>rfl
   | some u =>
    have e':b = a:=hA b (by rw [q]; simp)
    subst e'
    rw [hK (by rw [q]; simp)] at e; cases e)
  have hM:Mod K mg (hidT s₁.heap H):=⟨hKb,nsK hns,⟨mb,nsK hb,hbb⟩,let ⟨mc,h1,h2⟩:=hlim; ⟨mc,nsK h1,h2⟩⟩
  have e0:Env0 P w K mg (hidT s₁.heap H) callerA [] s₁ H:=⟨rfl,hM,fun b o e=>of_hidT e,Nat.le_of_eq (hidT_size _ _),trivial,fun b hb=>absurd (show b ∈ ([]:List Addr) from hb) (by simp),hok,.of_eq hg⟩
  refine codeAny_mono ((F _ hKb (nsK hns)).run callerA [] s₁ H ⟨[.ref a],[]⟩ [.ref a] [.ref a] _ _ hr e0 (hbind s₁ (.ref a)) (.cons rfl .nil) (hsp H hO hS)) fun r s' h=>?_
  cases r with
  | error e=>exact (hCX H e s' h).elim
  | ok fl =>
   cases fl with
   | next=>exact False.elim h
   | brk=>exact False.elim h
   | cont=>exact False.elim h
   | ret u =>
    obtain ⟨v,H',os,bare,un,hok',r',q⟩:=h
    have q':v = .bl true:=q
    subst q'
    obtain rfl:u = Value.bool true:=r'
    refine ⟨rfl,OldK.of_keep fun b o e=>?_,os,bare⟩
    cases q:H b with
    | none=>exact un.keep b o e q (by intro z; exact absurd (show b ∈ ([]:List Addr) from z) (by simp)) (by simp)
    | some u =>
     rcases hO b with z | ⟨ob,xs,z⟩
     ·rw [q] at z; cases z
     ·have z2:=un.frzs b ob _ z
      obtain ⟨e1,_⟩:=hok b _ z
      obtain ⟨e2,_⟩:=hok' b _ z2
      rw [e] at e1; cases e1
      exact e2
 cases hk:K.lookup a with
 | some o =>
  have e:=KX a o hk
  rw [ha] at e
  cases e
  refine core (fun _=>none) (fun _=>.inl rfl) (.inr ⟨_,vs.toArray,_,hk,rfl,rfl,rfl,by rw [List.size_toArray,lenV]; exact hl,by simpa using rv⟩) (fun b u z=>by have z':(none:Option HO) = some u:=z; cases z') (fun b z=>absurd rfl z) fun z=>absurd rfl z
 | none =>
  refine core (fun b=>if b = a then some (.frz { cls:=.type "list",data:=.seq vs.toArray } (.lst (ns.map V.int))) else none) (fun b=>?_) (.inl (.inr ⟨{ cls:=.type "list",data:=.seq vs.toArray },if_pos rfl⟩)) (fun b u z=>?_) (fun b z=>?_) fun _=>hk
  ·by_cases hb:b = a
   ·exact .inr ⟨_,_,if_pos hb⟩
   ·exact .inl (if_neg hb)
  ·by_cases hb:b = a
   ·have z':=(if_pos hb).symm.trans z
    cases z'
    subst hb
    exact ⟨ha,by rw [List.length_map]; exact hl,vs,_,rv,ha⟩
   ·have z':=(if_neg hb).symm.trans z
    cases z'
  ·by_cases hb:b = a
   ·exact hb
   ·exact absurd (if_neg hb) z
abbrev KOf {K:PySem.W.Frag} {h:Heap} (_:K.In h):PySem.W.Frag:=K
theorem walk_of {l:PySem.W.OpenLaw} {n k:Nat} {q:Program} {loose:List Str} {XP:(Str→Option Value)→Heap→Prop} {YP:World→Heap→Prop} {d:DefRec} {K:Params→PySem.W.Frag} {CX:World→CXT} {sp:World→Sp} {x:Str}
  (hn:l.most = some n) (hn2:n ≤ sizeLine) (hdf:d.params.defaults = []) (hr:Room k callerA)
  (hY:∀ (w:World) (h:Heap),YP w h→(K w.params).In h)
  (F:∀ (w:World) (mg:Str→Option Value) (fa:Addr) (h:Heap),(K w.params).In h→h.Ns mainGlobals mg→mg d.name = some (.ref fa) →
   ∃ fd:FuncData,(∀ (s:Shared) (u:Value),BindsTo s fd ⟨[u],[]⟩ [(x,u)]) ∧
    ∀ base:Heap,(K w.params).In base→base.Ns mainGlobals mg→FnOk l.prog w (K w.params) mg base (CX w) k fa fd [x] (sp w))
  (hsp:∀ (w:World) (H:Hp) (a:Addr) (ns:List Int),ns.length ≤ n→Only H→SqL (K w.params) H a (ns.map V.int)→sp w [.ref a] H (fun v _=>v = .bl true) fun _ _ _=>False)
  (hCX:∀ (w:World) (H:Hp) (s:Shared) (e:Value) (s':Shared),CX w [] H s (fun _ _ _=>False) e s'→False) :
  PySem.W.WalkO q loose XP YP l.row.toRowW d [] (fun f vs=>PySem.call f vs):=by
 refine Att.attach_call hn hdf fun w s₀ s₁ mg mb fa o pm cd doc a vs ns G Y ho hd hcd hmg hobj hints hlen hg=>?_
 have KX:=hY w _ Y
 obtain ⟨fd,hb,hF⟩:=F w mg fa _ KX G.T.g hmg
 exact law_call KX G.T.g G.T.b G.T.builtins G.T.nolimit hg hobj hints (Nat.le_trans hlen hn2) hr hF hb (fun H hO hS=>hsp w H a ns hlen hO hS) fun H e s'=>hCX w H s₁ e s'
theorem walk_ofK {l:PySem.W.OpenLaw} {n k:Nat} {q:Program} {loose:List Str} {XP:(Str→Option Value)→Heap→Prop} {YP:World→Heap→Prop} {d:DefRec} {K:Params→PySem.W.Frag} {CX:CXT} {sp:PySem.W.Frag→Sp} {x:Str}
  (hn:l.most = some n) (hn2:n ≤ sizeLine) (hdf:d.params.defaults = []) (hr:Room k callerA)
  (hY:∀ (w:World) (h:Heap),YP w h→(K w.params).In h)
  (F:∀ (w:World) (mg:Str→Option Value) (fa:Addr) (h:Heap),(K w.params).In h→h.Ns mainGlobals mg→mg d.name = some (.ref fa) →
   ∃ fd:FuncData,(∀ (s:Shared) (u:Value),BindsTo s fd ⟨[u],[]⟩ [(x,u)]) ∧
    ∀ base:Heap,(K w.params).In base→base.Ns mainGlobals mg→FnOk l.prog w (K w.params) mg base CX k fa fd [x] (sp (K w.params)))
  (hsp:∀ (K:PySem.W.Frag) (H:Hp) (a:Addr) (ns:List Int),ns.length ≤ n→Only H→SqL K H a (ns.map V.int)→sp K [.ref a] H (fun v _=>v = .bl true) fun _ _ _=>False)
  (hCX:∀ (H:Hp) (s:Shared) (e:Value) (s':Shared),CX [] H s (fun _ _ _=>False) e s'→False) :
  PySem.W.WalkO q loose XP YP l.row.toRowW d [] (fun f vs=>PySem.call f vs) :=
 walk_of (K:=K) (CX:=fun _=>CX) (sp:=fun w=>sp (K w.params)) hn hn2 hdf hr hY F (fun w H a ns h1 h2 h3=>hsp (K w.params) H a ns h1 h2 h3) fun _ H s e s'=>hCX H s e s'
def defArgs (s:Stmt):Arguments:=match s with
 | .FunctionDef _ a _ _ _ _ _ _ _ _=>a
 | _=>{ posonlyargs:=[],args:=[],vararg:=none,kwonlyargs:=[],kw_defaults:=[],kwarg:=none,defaults:=[] }
def defBody (s:Stmt):List Stmt:=match s with
 | .FunctionDef _ _ b _ _ _ _ _ _ _=>b
 | _=>[]
def defScope (s:Stmt):Scope:=match s with
 | .FunctionDef _ _ _ _ _ _ sc _ _ _=>sc
 | _=>{ kind:=.function,names:=[],isGenerator:=false,isCoroutine:=false }
abbrev CX0:CXT:=fun _ _ _ _ _ _=>False
abbrev E0:XK:=fun _ _ _=>False
theorem pass0 {X:Cx}:Passes CX0 X E0:=fun _ _ _ _ _ _ _ h=>h.elim
structure Fun (K:PySem.W.Frag) (x qual:Str) (st:Stmt) (f:Addr) (fd:FuncData):Prop where
 ex:∃ (oc:Value) (od:Option Addr) (kV doc pm:Value) (an:Option Addr) (cdv ct:Value) (osl:Array (Option Value)),
  fd = PySem.W.fnOf x qual (defArgs st) (defBody st) (defScope st) .none kV doc pm an cdv ct∧K.lookup f = some ⟨oc,od,.func fd,osl⟩∧PySem.W.codeIn K cdv qual = true
 kp:PySem.W.keepIn K (.ref f) = true
section
variable {P:Program} {w:World} {K:PySem.W.Frag} {mg:Str→Option Value} {base:Heap}
theorem Fun.ok {x qual:Str} {st:Stmt} {f:Addr} {fd:FuncData} {N ps:List Str} {k:Nat} {sp:Sp} (F:Fun K x qual st f fd) (S:FnScope N ps (defScope st)) (len:∀ vs H Q E,sp vs H Q E→vs.length = ps.length)
  (hbody:∀ (cdv:Value) (A:Around) (outer:List Env) (s:Shared) (H:Hp) (vs:List V) (Q:VK) (E:XK),Room k (A.deeper (envOfC qual (defScope st) s.heap.objs.size f cdv))→sp vs H Q E →
   ∃ t,PSs (cxOf CX0 P w K mg base N qual (defScope st) f cdv A outer s H E).nox (defBody st) t∧t { nx:=fun _ H'=>Q .non H',rt:=Q } (start N vs) H):FnOk P w K mg base CX0 (k + 1) f fd ps sp:=by
 obtain ⟨oc,od,kV,doc,pm,an,cdv,ct,osl,rfl,lk,hcd⟩:=F.ex
 refine fn_of lk hcd S len fun A outer s H vs Q E hr hsp=>?_
 obtain ⟨t,h,q⟩:=hbody cdv A outer s H vs Q E hr hsp
 exact ⟨t,h.nox,q⟩
theorem Fun.binds {x qual:Str} {st:Stmt} {f:Addr} {fd:FuncData} {ps:List Str} (F:Fun K x qual st f fd)
  (h:∀ (kV doc pm:Value) (an:Option Addr) (cdv ct:Value) (us:List Value),us.length = ps.length→bindArgs (PySem.W.fnOf x qual (defArgs st) (defBody st) (defScope st) .none kV doc pm an cdv ct) ⟨us,[]⟩ = pure (ps.zip us)):Binds K fd ps []:=by
 obtain ⟨oc,od,kV,doc,pm,an,cdv,ct,osl,rfl,lk,hcd⟩:=F.ex
 exact .all (h kV doc pm an cdv ct)
theorem fun_mk {x qual:Str} {st:Stmt} {f:Addr} {oc:Value} {od an:Option Addr} {osl:Array (Option Value)} {kV doc pm cdv ct:Value} (l:K.lookup f = some ⟨oc,od,.func (PySem.W.fnOf x qual (defArgs st) (defBody st) (defScope st) .none kV doc pm an cdv ct),osl⟩)
  (c:PySem.W.codeIn K cdv qual = true) (k:PySem.W.keepIn K (.ref f) = true):Fun K x qual st f (PySem.W.fnOf x qual (defArgs st) (defBody st) (defScope st) .none kV doc pm an cdv ct):=⟨⟨oc,od,kV,doc,pm,an,cdv,ct,osl,rfl,l,c⟩,k⟩
end
theorem hu_of {A:Around} {k:Nat} (hr:Room k A):A.units + 1 < cLine:=Nat.lt_of_le_of_lt (Nat.add_le_add_left (by decide:1 ≤ 64) _) hr.units
theorem small1000 {n:Nat} (h:n ≤ 1000):n < sizeLine:=Nat.lt_of_le_of_lt h (by decide)
section
variable {X:Cx}
theorem pv (i:Nat) {x:Str} {pos:Pos} (hN:X.N[i]? = some x:=by rfl) (hv:Vis X.env.scope x:=by first | exact Or.inl rfl | exact Or.inr (Or.inl rfl) | exact Or.inr (Or.inr rfl)) (hd:(x == ("__debug__" : Str)) = false:=by decide)
  (hcd:(x == ("__classdict__" : Str)) = false:=by decide):PE X (.Name x pos) (tVar i):=pe_var hN hv hd hcd
end
theorem iteF {A B:Prop} (h:B):if false = true then A else B:=by
 rw [if_neg Bool.false_ne_true]
 exact h
theorem iteT {A B:Prop} (h:A):if true = true then A else B:=by
 rw [if_pos rfl]
 exact h
theorem ite2 {c A B:Prop} [Decidable c] (h1:c→A) (h2:¬ c→B):if c then A else B:=by
 by_cases h:c
 ·rw [if_pos h]
  exact h1 h
 ·rw [if_neg h]
  exact h2 h
def Same (H H':Hp):Prop:=∀ b o,H b = some o→H' b = some o
theorem Same.refl (H:Hp):Same H H:=fun _ _ h=>h
theorem Same.trans {H H1 H2:Hp} (a:Same H H1) (b:Same H1 H2):Same H H2:=fun c o h=>b c o (a c o h)
theorem Same.free {H H':Hp} (e:Same H H') {l:Addr} (h:H' l = Option.none):H l = Option.none:=by
 cases q:H l with
 | none=>rfl
 | some o =>
  rw [e l o q] at h
  cases h
theorem Same.seq {K:PySem.W.Frag} {H H':Hp} {a:Addr} {xs:List V} (e:Same H H') (h:SqL K H a xs):SqL K H' a xs:=by
 rcases h with (h | ⟨o,h⟩) | h
 ·exact .inl (.inl (e _ _ h))
 ·exact .inl (.inr ⟨o,e _ _ h⟩)
 ·exact .inr h
def closIn (cells:List (Str × Addr)):List (Str × NameKind)→List (Str × Addr)→List (Str × Addr)
 | [],cs=>cs
 | (n,k) :: r,cs=>closIn cells r (if k == .free then (match cells.lookup n with | some c=>(n,c) :: cs | none=>cs) else cs)
def closOf (scope:Scope) (env:Env):List (Str × Addr):=closIn env.cells scope.names []
theorem closIn_run (env:Env):∀ (names:List (Str × NameKind)) (cs:List (Str × Addr)),(∀ x ∈ names,x.2 = .free→∃ c,env.cells.lookup x.1 = some c) →
  (forIn names cs fun (x:Str × NameKind) (r:List (Str × Addr))=>(if (x.2 == .free) = true then (do let a ← cellOf env x.1; pure (ForInStep.yield ((x.1,a) :: r))) else pure (ForInStep.yield r):Sem (ForInStep (List (Str × Addr))))) = pure (closIn env.cells names cs):=by
 intro names
 induction names with
 | nil=>intro cs _; rfl
 | cons x r ih =>
  intro cs h
  obtain ⟨n,k⟩:=x
  rw [List.forIn_cons]
  have hr:∀ y ∈ r,y.2 = .free→∃ c,env.cells.lookup y.1 = some c:=fun y hy=>h y (List.mem_cons_of_mem _ hy)
  unfold closIn
  by_cases hk:k = .free
  ·subst hk
   obtain ⟨c,hc⟩:=h (n,.free) List.mem_cons_self rfl
   have e:cellOf env n = pure c:=by unfold cellOf; rw [hc]
   rw [if_pos (show (NameKind.free == NameKind.free) = true from rfl),if_pos (show (NameKind.free == NameKind.free) = true from rfl),hc]
   show (cellOf env n >>= fun a=>_) >>= _ = _
   rw [e]
   exact ih _ hr
  ·have hb:(k == NameKind.free) = false:=by simpa using hk
   rw [if_neg (show ¬ (k == NameKind.free) = true by rw [hb]; exact Bool.false_ne_true),if_neg (show ¬ (k == NameKind.free) = true by rw [hb]; exact Bool.false_ne_true)]
   exact ih _ hr
theorem closureFor_of {scope:Scope} {env:Env} (h:∀ x ∈ scope.names,x.2 = .free→∃ c,env.cells.lookup x.1 = some c):closureFor scope env = pure (closOf scope env):=by
 have run:=closIn_run env scope.names [] h
 unfold closureFor closOf
 have e:(forIn scope.names ([]:List (Str × Addr)) fun (x:Str × NameKind) (r:List (Str × Addr))=>(match x with
   | (name,kind)=>if (kind == NameKind.free) = true then (do let a ← cellOf env name; pure (ForInStep.yield ((name,a) :: r))) else pure (ForInStep.yield r):Sem (ForInStep (List (Str × Addr))))) = pure (closIn env.cells scope.names []):=run
 show (forIn scope.names ([]:List (Str × Addr)) _ >>= fun cs=>pure cs) = _
 exact (congrArg (fun m:Sem (List (Str × Addr))=>m >>= fun cs=>pure cs) e)
theorem closIn_old (cells:List (Str × Addr)):∀ (names:List (Str × NameKind)) (cs:List (Str × Addr)),(∀ p ∈ cs,cells.lookup p.1 = some p.2)→∀ p ∈ closIn cells names cs,cells.lookup p.1 = some p.2
 | [],cs,h=>h
 | (n,k) :: r,cs,h=>by
  unfold closIn
  refine closIn_old cells r _ fun p hp=>?_
  by_cases hk:(k == NameKind.free) = true
  ·rw [if_pos hk] at hp
   cases e:cells.lookup n with
   | none=>rw [e] at hp; exact h p hp
   | some c =>
    rw [e] at hp
    rcases List.mem_cons.mp hp with rfl | hp
    ·exact e
    ·exact h p hp
  ·rw [if_neg hk] at hp
   exact h p hp
theorem closOf_old {scope:Scope} {env:Env} {x:Str} {c:Addr} (h:(closOf scope env).lookup x = some c):env.cells.lookup x = some c :=
 closIn_old env.cells scope.names [] (fun _ z=>nomatch z) (x,c) (PySem.mem_of_lookup h)
theorem lookup_isSome_of_mem {cs:List (Str × Addr)} {x:Str} {c:Addr} (h:(x,c) ∈ cs):∃ d,cs.lookup x = some d:=by
 induction cs with
 | nil=>cases h
 | cons p r ih =>
  obtain ⟨y,d⟩:=p
  by_cases e:x == y
  ·exact ⟨d,by rw [List.lookup_cons,e]⟩
  ·rcases List.mem_cons.mp h with z | z
   ·cases z; simp at e
   ·obtain ⟨d',q⟩:=ih z
    exact ⟨d',by simp only [Bool.not_eq_true] at e; rw [List.lookup_cons,e]; exact q⟩
theorem closIn_mono (cells:List (Str × Addr)):∀ (names:List (Str × NameKind)) (cs:List (Str × Addr)) (p:Str × Addr),p ∈ cs→p ∈ closIn cells names cs
 | [],_,_,h=>h
 | (n,k) :: r,cs,p,h=>by
  unfold closIn
  refine closIn_mono cells r _ p ?_
  split
  ·split
   ·exact List.mem_cons_of_mem _ h
   ·exact h
  ·exact h
theorem closIn_new (cells:List (Str × Addr)) {x:Str} {c:Addr} (hc:cells.lookup x = some c):∀ (names:List (Str × NameKind)) (cs:List (Str × Addr)),(x,NameKind.free) ∈ names→(x,c) ∈ closIn cells names cs
 | [],_,h=>nomatch h
 | (n,k) :: r,cs,h=>by
  unfold closIn
  rcases List.mem_cons.mp h with z | z
  ·cases z
   refine closIn_mono cells r _ _ ?_
   rw [if_pos (show (NameKind.free == NameKind.free) = true from rfl),hc]
   exact List.mem_cons_self
  ·exact closIn_new cells hc r _ z
theorem closOf_new {scope:Scope} {env:Env} {x:Str} {c:Addr} (h:(x,NameKind.free) ∈ scope.names) (hc:env.cells.lookup x = some c):(closOf scope env).lookup x = some c:=by
 obtain ⟨d,e⟩:=lookup_isSome_of_mem (closIn_new env.cells hc scope.names [] h)
 have e':(closOf scope env).lookup x = some d:=e
 rw [e',← closOf_old e',hc]
def blk (X:Cx) (scope:Scope) (N:List Str) (s:Shared) (H:Hp) (C:Addr) (fp:List Addr):Cx where
 prog:=X.prog
 w:=X.w
 K:=X.K
 mg:=X.mg
 base:=X.base
 A:=X.A
 N:=N
 s₀:=s
 H₀:=H
 env:=compEnvC scope (closOf scope X.env) C X.env
 outer:=X.stack
 stack:=X.stack
 ex:=fp
 fn:=fun _=>false
 calm:=X.calm
 pn:=[]
 xe:=fun _ _=>False
def capt (σ:St) (js:List Nat):St:=js.map fun j=>(σ[j]?).getD none
def capN (N:List Str) (js:List Nat):List Str:=js.map fun j=>(N[j]?).getD ""
def bst (n:Nat) (σ:St) (js:List Nat):St:=List.replicate n none ++ capt σ js
theorem bst_len {n:Nat} {σ:St} {js:List Nat}:(bst n σ js).length = n + js.length:=by unfold bst capt; simp
section
variable {P:Program} {w:World} {A:Around} {R:Result→Shared→Prop} {s:Shared}
theorem compLoop_by {elt tg iter:Expr} {ifs:List Expr} {scope:Scope} {pos:Pos} {it acc:Value} {env:Env} (J:Nat→Shared→Prop)
  (turn:∀ n s,J n s→wpAny (model P w) A (pyNext it) (fun r s1=>match r with
   | none=>R (.ok .next) s1
   | some v=>wpAny (model P w) A (letOwnedTupleGo tg it v) (fun _ s2=>wpAny (model P w) A (assign tg env v) (fun _ s3 =>
     wpAny (model P w) A (forIn ifs true fun c r=>if r = true then do let ok ← isTrue c env (eval c env); pure (ForInStep.yield ok) else pure (ForInStep.yield r)) (fun ok s4 =>
      if ok = true then wpAny (model P w) A (eval elt env) (fun x s5=>wpAny (model P w) A (call (.builtin "list.append") [acc,x]) (fun _ s6=>∃ m,m < n∧J m s6) (fun _ _=>False) s5) (fun _ _=>False) s4
      else ∃ m,m < n∧J m s4) (fun _ _=>False) s3) (fun _ _=>False) s2) (fun _ _=>False) s1) (fun _ _=>False) s)
  (n:Nat) (h:J n s):codeAny (model P w) A (.compLoop (.ListComp elt [⟨tg,iter,ifs,0⟩] scope pos) 0 it acc env) R s:=by
 have no:∀ {α:Type} {t:Sem α} {Q Q':α→Shared→Prop} {E:Value→Shared→Prop} {s:Shared},wpAny (model P w) A t Q (fun _ _=>False) s→(∀ a s,Q a s→Q' a s)→wpAny (model P w) A t Q' E s :=
  fun h hq=>wpAny_mono h hq fun _ _ f=>f.elim
 refine codeAny_loop rfl J (fun n s hJ=>?_) n h
 show wpAny _ A ((compTurn (.ListComp elt [⟨tg,iter,ifs,0⟩] scope pos) 0 it acc env).onRaise (fun x=>do noteFrame x env; theTreesLotGoes x)) _ _ s
 refine wpAny_noted ?_
 rw [compTurn_list]
 refine wpAny_bind (wpAny_standAt (wpAny_bind (no (turn n s hJ) fun r s1 h1=>?_)))
 cases r with
 | none=>exact wpAny_pure h1
 | some v =>
  refine wpAny_bind (no h1 fun _ s2 h2=>wpAny_bind (no h2 fun _ s3 h3=>wpAny_bind (no h3 fun ok s4 h4=>?_)))
  cases ok with
  | false=>exact wpAny_pure ⟨rfl,h4⟩
  | true=>exact wpAny_bind (wpAny_bind (no h4 fun x s5 h5=>wpAny_bind (no h5 fun _ s6 h6=>wpAny_pure (wpAny_pure ⟨rfl,h6⟩))))
end
def PTs (X:Cx) (ifs:List Expr) (t:TT):Prop :=
 ∀ (pins:List (Addr × Obj)) (s:Shared) (σ:St) (H:Hp) (Q:Bool→Hp→Prop),Inv X pins σ H s→t σ H Q →
  wpAny (model X.prog X.w) X.A (forIn ifs true fun c r=>if r = true then do let ok ← isTrue c X.env (eval c X.env); pure (ForInStep.yield ok) else pure (ForInStep.yield r)) (TP X pins σ Q) X.xe s
def tAll:TT:=fun _ H Q=>Q true H
theorem pts_nil {X:Cx}:PTs X [] tAll:=fun _ _ _ H _ I h=>wpAny_tests_nil ⟨H,I,h⟩
theorem pts_one {X:Cx} {c:Expr} {t:TT} (h:PT X c t):PTs X [c] t:=fun pins s σ H Q I hq=>wpAny_tests_one (h pins s σ H Q I hq)
def CompW (J:It) (n:Nat) (js:List Nat) (g:TG) (tc:TT) (te:TE) (Q:VK) (σ:St) (H1:Hp):Prop:=∃ W:Nat→Nat→List V→Hp→Prop,(∃ m,W 0 m [] H1)∧∀ i m ys H,W i m ys H →
 (J.stop i H∧ys.length ≤ sizeLine∧∀ l,H l = none→Q (.ref l) (upd H l (.lst ys))) ∨
 (J.go i H∧ys.length < sizeLine∧∃ N:List V→Hp→Prop,(∀ zs H',N zs H'→∃ m',m' < m∧W (i + 1) m' zs H')∧∀ x H',J.yld i H x H'→g x (bst n σ js) H' fun σ2 H2=>σ2.drop n = capt σ js∧tc σ2 H2 fun b H3 =>
  if b = true then te σ2 H3 fun v H4=>N (ys ++ [v]) H4 else N ys H3)
def tComp (n:Nat) (js:List Nat) (wi:TI) (g:TG) (tc:TT) (te:TE):TE:=fun σ H Q=>wi σ H fun J H1=>CompW J n js g tc te Q σ H1
section
variable {X:Cx}
structure Blk (X:Cx) (scope:Scope) (own:List Str) (js:List Nat):Prop where
 kind:scope.kind = .function
 nocell:∀ y ∈ scope.names,y.2 ≠ .cell
 names:∀ y ∈ scope.names,y.2 = .local→scope.names.lookup y.1 = some .local
 free:∀ y ∈ scope.names,y.2 = .free→X.env.kindOf y.1 = some .cell ∨ X.env.kindOf y.1 = some .free
 uniq:∀ x,(x,NameKind.free) ∈ scope.names→scope.names.lookup x = some .free
 nd:(own ++ capN X.N js).Nodup
 cap:∀ j ∈ js,j < X.N.length∧((X.N[j]?).getD "",NameKind.free) ∈ scope.names
def blkB (sc:Scope) (N:List Str) (scope:Scope) (own:List Str) (js:List Nat):Bool :=
 scope.kind == .function && scope.names.all (fun y=>y.2 != .cell) && scope.names.all (fun y=>y.2 != .local || scope.names.lookup y.1 == some .local) &&
 scope.names.all (fun y=>y.2 != .free || sc.names.lookup y.1 == some .cell || sc.names.lookup y.1 == some .free) && scope.names.all (fun y=>y.2 != .free || scope.names.lookup y.1 == some .free) &&
 decide (own ++ capN N js).Nodup && js.all (fun j=>decide (j < N.length) && scope.names.any fun y=>y.1 == (N[j]?).getD "" && y.2 == .free)
theorem Blk.of {scope:Scope} {own:List Str} {js:List Nat} (sc:Scope) (N:List Str) (h:blkB sc N scope own js = true:=by decide +kernel) (e1:X.env.scope = sc:=by rfl) (e2:X.N = N:=by rfl):Blk X scope own js:=by
 subst e1 e2
 unfold blkB at h
 simp only [Bool.and_eq_true,List.all_eq_true,decide_eq_true_eq,beq_iff_eq] at h
 obtain ⟨⟨⟨⟨⟨⟨h1,h2⟩,h3⟩,h4⟩,h5⟩,h6⟩,h7⟩:=h
 refine ⟨h1,fun y hy=>by simpa using h2 y hy,fun y hy e=>?_,fun y hy e=>?_,fun x hx=>?_,h6,fun j hj=>?_⟩
 ·have:=h3 y hy
  simpa [e] using this
 ·have:=h4 y hy
  simp only [e,bne_self_eq_false,Bool.false_or,Bool.or_eq_true,beq_iff_eq] at this
  exact this
 ·have:=h5 _ hx
  simpa using this
 ·obtain ⟨a,b⟩:=h7 j hj
  refine ⟨a,?_⟩
  obtain ⟨y,hy,e⟩:=List.any_eq_true.mp b
  simp only [Bool.and_eq_true,beq_iff_eq] at e
  obtain ⟨e1,e2⟩:=e
  rw [← e1,← e2]
  exact hy
theorem lookup_relabel {env:Env}:∀ {names:List (Str × NameKind)} {x:Str} {k:NameKind},
  (names.map fun (n,k)=>if (k == NameKind.free && env.scope.kind == .function && env.kindOf n == some .cell) then (n,NameKind.cell) else (n,k)).lookup x = some k→names.lookup x = some k ∨ (k = .cell∧names.lookup x = some .free)
 | [],_,_,h=>by simp at h
 | (n,q) :: r,x,k,h=>by
  have ih:=@lookup_relabel env r x k
  cases hx:x == n with
  | true =>
   by_cases hc:(q == NameKind.free && env.scope.kind == .function && env.kindOf n == some .cell) = true
   ·simp only [List.map_cons,if_pos hc,List.lookup_cons,hx] at h
    cases h
    simp only [Bool.and_eq_true,beq_iff_eq] at hc
    obtain ⟨⟨hq,_⟩,_⟩:=hc
    subst hq
    exact .inr ⟨rfl,by rw [List.lookup_cons,hx]⟩
   ·simp only [List.map_cons,if_neg hc,List.lookup_cons,hx] at h
    cases h
    exact .inl (by rw [List.lookup_cons,hx])
  | false =>
   have h':(r.map fun (n,k)=>if (k == NameKind.free && env.scope.kind == .function && env.kindOf n == some .cell) then (n,NameKind.cell) else (n,k)).lookup x = some k:=by
    by_cases hc:(q == NameKind.free && env.scope.kind == .function && env.kindOf n == some .cell) = true
    ·simp only [List.map_cons,if_pos hc,List.lookup_cons,hx] at h
     exact h
    ·simp only [List.map_cons,if_neg hc,List.lookup_cons,hx] at h
     exact h
   rcases ih h' with z | ⟨z,z'⟩
   ·exact .inl (by rw [List.lookup_cons,hx]; exact z)
   ·exact .inr ⟨z,by rw [List.lookup_cons,hx]; exact z'⟩
theorem blk_inv {scope:Scope} {own:List Str} {js:List Nat} {pins:List (Addr × Obj)} {σ:St} {H:Hp} {s:Shared} {fp:List Addr} {C:Addr} {h1:Heap} {tk:Nat} (B:Blk X scope own js) (I:Inv X pins σ H s)
  (hfp:∀ b ∈ fp,FpOk X pins H b) (hfo:∀ b ∈ fp,∃ o,s.heap.get? b = some o) (hC:s.heap.objs.size ≤ C) (hns:h1.Ns C fun _=>none) (hk:∀ b o,s.heap.get? b = some o→h1.get? b = some o) :
  Inv (blk X scope (own ++ capN X.N js) s H C fp) [] (bst own.length σ js) H { s with heap:=h1,toks:=tk }:=by
 have kindC:∀ x,(blk X scope (own ++ capN X.N js) s H C fp).env.kindOf x = some .cell ∨ (blk X scope (own ++ capN X.N js) s H C fp).env.kindOf x = some .free→(x,NameKind.free) ∈ scope.names:=fun x hx=>by
  have hx':(relabel scope X.env).names.lookup x = some .cell ∨ (relabel scope X.env).names.lookup x = some .free:=hx
  rcases hx' with z | z
  ·rcases lookup_relabel z with q | ⟨_,q⟩
   ·exact absurd rfl (B.nocell _ (PySem.mem_of_lookup q))
   ·exact PySem.mem_of_lookup q
  ·rcases lookup_relabel z with q | ⟨_,q⟩
   ·exact PySem.mem_of_lookup q
   ·exact PySem.mem_of_lookup q
 have has:∀ x,(x,NameKind.free) ∈ scope.names→∃ c,X.env.cells.lookup x = some c:=fun x hx=>I.ok.has x (B.free (x,.free) hx rfl)
 have old:∀ {x c},(closOf scope X.env).lookup x = some c→X.env.cells.lookup x = some c:=fun e=>closOf_old e
 have cellLt:∀ {x c},X.env.cells.lookup x = some c→c < s.heap.objs.size:=fun {x c} e=>by
  obtain ⟨v,o,ho,_⟩:=I.cell x c e
  exact Heap.lt_size ho
 have fpLt:∀ b ∈ fp,b < s.heap.objs.size:=fun b hb=>let ⟨_,e⟩:=hfo b hb; Heap.lt_size e
 have fsOk:∀ b ∈ frs X.stack,b ∈ X.env.locals :: X.fs:=I.stkSub
 refine ⟨⟨I.ok.mod,?_,I.ok.glob,I.ok.blt,hC,fun x y c e1 e2=>I.ok.inj x y c (old e1) (old e2),fun x hx=>?_,fun x c z _=>absurd z Bool.false_ne_true,I.ok.hd,I.ok.frames,.inl rfl,fun b hb=>⟨?_,fun x c e=>?_⟩,I.bs,Nat.le_trans I.ok.bsz I.sz,
   fun b o e hb=>?_,fun b hb hf=>?_,I.stack,I.stkFree⟩,rfl,I.bare,Un.kept hk,⟨_,hns,fun i x v e1 e2 e3=>?_⟩,fun x c e=>?_,?_,fun x c e=>I.freeC x c (old e),fun p hp=>absurd hp (by show p ∉ [] ++ []; simp),I.hok.kept hk,?_⟩
 ·show (relabel scope X.env).kind = .function
  exact B.kind
 ·obtain ⟨c,e⟩:=has x (kindC x hx)
  exact ⟨c,closOf_new (kindC x hx) e⟩
 ·exact Nat.ne_of_lt (Nat.lt_of_lt_of_le (fpLt b hb) hC)
 ·exact (hfp b hb).2.2.2.2.1 x c (old e)
 ·have e1:=I.bs b o e
  obtain ⟨f0,f1,f2,f3,f4,f5⟩:=hfp b hb
  rcases f3 with z | z
  ·exact I.ok.noex b o e z
  ·exact absurd (Nat.lt_of_lt_of_le (Heap.lt_size (I.ok.bs b o e).1) z) (Nat.lt_irrefl _)
 ·obtain ⟨f0,f1,f2,f3,f4,f5⟩:=hfp b hb
  rcases List.mem_cons.mp (fsOk b hf) with z | z
  ·exact f1 z
  ·exact f2 z
 ·-- a captured name's value
  have hi:own.length ≤ i:=by
   rcases Nat.lt_or_ge i own.length with z | z
   ·exfalso
    have e2':(List.replicate own.length (none:Option V) ++ capt σ js)[i]? = some (some v):=e2
    rw [List.getElem?_append_left (by simpa using z),List.getElem?_replicate] at e2'
    split at e2' <;> cases e2'
   ·exact z
  have e1':(own ++ capN X.N js)[i]? = some x:=e1
  have e2':(List.replicate own.length (none:Option V) ++ capt σ js)[i]? = some (some v):=e2
  rw [List.getElem?_append_right hi] at e1'
  rw [List.getElem?_append_right (by simpa using hi),List.length_replicate] at e2'
  unfold capN at e1'
  unfold capt at e2'
  rw [List.getElem?_map] at e1' e2'
  cases ej:js[i - own.length]? with
  | none=>rw [ej] at e1'; cases e1'
  | some j =>
   rw [ej] at e1' e2'
   have e1'':(X.N[j]?).getD "" = x:=Option.some.inj e1'
   have e2'':(σ[j]?).getD none = some v:=Option.some.inj e2'
   obtain ⟨hj,hm⟩:=B.cap j (List.mem_of_getElem? ej)
   have eN:X.N[j]? = some x:=by
    rw [List.getElem?_eq_getElem hj] at e1'' ⊢
    exact congrArg some e1''
   have eS:σ[j]? = some (some v):=by
    cases q:σ[j]? with
    | none=>rw [q] at e2''; cases e2''
    | some u=>rw [q] at e2''; exact congrArg some e2''
   rw [e1''] at hm
   obtain ⟨m,_,hl⟩:=I.loc
   have hv:Vis X.env.scope x:=by
    rcases B.free (x,.free) hm rfl with z | z
    ·exact .inr (.inl z)
    ·exact .inr (.inr z)
   obtain ⟨u,r,l⟩:=hl j x v eN eS hv
   obtain ⟨c,hc⟩:=has x hm
   refine ⟨u,r,.inr ⟨?_,c,closOf_new hm hc,?_⟩⟩
   ·rcases e3 with z | z | z
    ·exfalso
     have z':(relabel scope X.env).names.lookup x = some .local:=z
     rcases lookup_relabel z' with q | ⟨q,_⟩
     ·rw [B.uniq x hm] at q
      cases q
     ·cases q
    ·exact .inl z
    ·exact .inr z
   ·rcases l with ⟨k1,_⟩ | ⟨k2,c2,e2,ic⟩
    ·rcases B.free (x,.free) hm rfl with t | t <;> (rw [k1] at t; cases t)
    ·rw [hc] at e2; cases e2
     obtain ⟨o,ho,hd⟩:=ic
     exact ⟨o,hk c o ho,hd⟩
 ·obtain ⟨v,o,ho,hd⟩:=I.cell x c (old e)
  exact ⟨v,o,hk c o ho,hd⟩
 ·exact I.hok.fresh hC
 ·rw [bst_len]
  show _ = (own ++ capN X.N js).length
  unfold capN
  simp
end
section
variable {X:Cx}
theorem Inv.young {pins:List (Addr × Obj)} {σ:St} {H:Hp} {s:Shared} {h':Heap} {c:Addr} (I:Inv X pins σ H s) (hs:Heap.SameBut c s.heap h') (hn:H c = none) (h1:X.s₀.heap.objs.size ≤ c) (hL:c ≠ X.env.locals)
  (h2:∀ x d,X.env.cells.lookup x = some d→d ≠ c) (h3:∀ p ∈ X.pn ++ pins,p.1 ≠ c):Inv X pins σ H { s with heap:=h' } :=
 I.turned (t':=s.toks) (fun b o hb e=>(hs.2 b hb).trans e) hn hL (.inr h1) h2 h3
theorem Inv.track {pins:List (Addr × Obj)} {σ:St} {H:Hp} {s:Shared} {D:Addr} {ys:List V} {its:List Value} {n:Nat} (I:Inv X pins σ H s) (hn:H D = none) (h1:X.s₀.heap.objs.size ≤ D) (hL:D ≠ X.env.locals)
  (h2:∀ x d,X.env.cells.lookup x = some d→d ≠ D) (h3:∀ p ∈ X.pn ++ pins,p.1 ≠ D) (hz:ys.length ≤ sizeLine) (r:Vals ys its) (e:s.heap.get? D = some { cls:=.type "list",data:=.seq its.toArray n }) :
  Inv X pins σ (upd H D (.lst ys)) s:=by
 have ne:∀ {b u},H b = some u→b ≠ D:=fun {b u} q=>ne_of_none q hn
 refine ⟨I.ok,I.os,I.bare,⟨I.base.keep,I.base.slot,fun b o q z hx=>?_,I.base.there,fun b xs q=>?_,fun b o u q=>?_,fun b ps q=>?_⟩,I.loc,I.cell,?_,fun x c q=>?_,fun p hp=>?_,fun b o q=>?_,I.len⟩
 ·rw [upd_ne (Nat.ne_of_lt (Nat.lt_of_lt_of_le (Heap.lt_size q) h1))]
  exact I.base.free b o q z hx
 ·have q':=I.base.tups b xs q
  rw [upd_ne (ne q')]; exact q'
 ·have q':=I.base.frzs b o u q
  rw [upd_ne (ne q')]; exact q'
 ·obtain ⟨more,q'⟩:=I.base.tbls b ps q
  exact ⟨more,by rw [upd_ne (ne q')]; exact q'⟩
 ·rw [upd_ne (Ne.symm hL)]; exact I.free
 ·rw [upd_ne (h2 x c q)]; exact I.freeC x c q
 ·obtain ⟨a1,a2,a3⟩:=I.pin p hp
  exact ⟨a1,by rw [upd_ne (h3 p hp)]; exact a2,a3⟩
 ·by_cases hb:b = D
  ·subst hb
   rw [upd_same] at q
   cases q
   exact ⟨hz,its,n,r,e⟩
  ·rw [upd_ne hb] at q
   refine (I.hok b o q).stay (fun _ _ _ z=>z) (fun c z=>?_) fun c xs z=>?_
   ·rw [upd_ne (ne z)]; exact z
   ·rw [upd_ne (ne z)]; exact z
def Behind (X:Cx) (pins:List (Addr × Obj)) (σ:St) (Q:VK) (C:Addr) (acc:Value) (s':Shared):Prop :=
 ∃ (D:Addr) (H:Hp) (m:Str→Option Value),acc = .ref D∧s'.heap.Ns C m∧Inv X pins σ H s'∧H C = none∧X.s₀.heap.objs.size ≤ C∧C ≠ X.env.locals∧(∀ x d,X.env.cells.lookup x = some d→d ≠ C)∧(∀ p ∈ X.pn ++ pins,p.1 ≠ C)∧Q (.ref D) H
theorem comp_block {elt tg iter:Expr} {ifs:List Expr} {scope:Scope} {pos:Pos} {own:List Str} {js:List Nat} {g:TG} {tc:TT} {te:TE} {Q:VK} {pins:List (Addr × Obj)} {σ:St} {s2:Shared} {itv:Value} {E:Value→Shared→Prop}
  {RR:Value→Addr→Result→Shared→Prop} (hc:X.calm = true) (B:Blk X scope own js) (hg:∀ s H C fp,(own ++ capN X.N js).Nodup→PG (blk X scope (own ++ capN X.N js) s H C fp) tg g) (ht:∀ s H C fp,PTs (blk X scope (own ++ capN X.N js) s H C fp) ifs tc)
  (he:∀ s H C fp,PE (blk X scope (own ++ capN X.N js) s H C fp) elt te)
  (h:PIE X pins σ tg (fun J H1=>CompW J own.length js g tc te Q σ H1) itv s2)
  (hR:∀ C acc s',Behind X pins σ Q C acc s'→RR acc C (.ok .next) s') :
  wpAny (model X.prog X.w) X.A (newList []) (fun acc s3=>wpAny (model X.prog X.w) X.A (newFunctionEnv scope X.env.globals (closOf scope X.env) [] X.env.qual none .none (some X.env)) (fun cenv s4 =>
   codeAny (model X.prog X.w) X.A (.compStart (.ListComp elt [⟨tg,iter,ifs,0⟩] scope pos) 0 itv acc { cenv with scope:=relabel scope X.env }) (RR acc cenv.locals) s4) E s3) E s2:=by
 obtain ⟨it,fp,tn,J,H2,rfl,I2,T,st2,f2,W,⟨m0,w0⟩,turn⟩:=h
 refine wpAny_newObj_type (wpAny_newFunctionEnv B.nocell (by intro y hy; simp at hy) (fun h1 hns1 hsb1=>?_) B.kind)
 generalize hPu:s2.heap.push { cls:=.type "list",dict:=none,data:=.seq ([]:List Value).toArray } = Pu at hns1 hsb1 ⊢
 dsimp only at hns1 hsb1 ⊢
 have hDC:Pu.objs.size = s2.heap.objs.size + 1:=by rw [← hPu,Heap.size_push]
 generalize hD:s2.heap.objs.size = D at hDC ⊢
 have gD:Pu.get? D = some { cls:=.type "list",dict:=none,data:=.seq ([]:List Value).toArray }:=by
  rw [← hPu,← hD]; exact Heap.get?_push_size _ rfl
 generalize hC:Pu.objs.size = C at hns1 hsb1 hDC ⊢
 have ltDC:D < C:=by rw [hDC]; exact Nat.lt_succ_self D
 have neDC:D ≠ C:=Nat.ne_of_lt ltDC
 have keep1:∀ b o,s2.heap.get? b = some o→h1.get? b = some o:=fun b o e=>by
  have hb:b < D:=by rw [← hD]; exact Heap.lt_size e
  have hb2:b ≠ C:=Nat.ne_of_lt (Nat.lt_trans hb ltDC)
  refine (hsb1.2 b hb2).trans (Heap.get?_push_of_some _ ?_)
  rw [← hPu]
  exact Heap.get?_push_of_some _ e
 have gD1:h1.get? D = some { cls:=.type "list",dict:=none,data:=.seq ([]:List Value).toArray }:=(hsb1.2 D neDC).trans (Heap.get?_push_of_some _ gD)
 have szD:s2.heap.objs.size ≤ D:=Nat.le_of_eq hD
 have szC:s2.heap.objs.size ≤ C:=Nat.le_trans szD (Nat.le_of_lt ltDC)
 have old:∀ {b:Addr},b < s2.heap.objs.size→b ≠ D∧b ≠ C:=fun hb=>⟨Nat.ne_of_lt (Nat.lt_of_lt_of_le hb szD),Nat.ne_of_lt (Nat.lt_of_lt_of_le hb szC)⟩
 have fpo:∀ b ∈ fp,∃ o,s2.heap.get? b = some o:=fun b hb=>let ⟨o,e,_⟩:=T.obj 0 _ st2 b hb; ⟨o,e⟩
 have fpD:∀ b ∈ fp,b ≠ D∧b ≠ C:=fun b hb=>by
  obtain ⟨o,e⟩:=fpo b hb
  exact old (Heap.lt_size e)
 have clD:∀ x d,X.env.cells.lookup x = some d→d ≠ D∧d ≠ C:=fun x d e=>by
  obtain ⟨v,o,ho,_⟩:=I2.cell x d e
  exact old (Heap.lt_size ho)
 have pinD:∀ p ∈ X.pn ++ pins,p.1 ≠ D∧p.1 ≠ C:=fun p hp=>by
  exact old (Heap.lt_size (I2.pin p hp).1)
 have locD:D ≠ X.env.locals∧C ≠ X.env.locals:=by
  exact ⟨(old I2.lt).1.symm,(old I2.lt).2.symm⟩
 let Y:=blk X scope (own ++ capN X.N js) s2 H2 C fp
 have IB:Inv Y [] (bst own.length σ js) H2 { s2 with heap:=h1,toks:=s2.toks + ([]:List (Str × Value)).length }:=blk_inv B I2 f2 fpo szC hns1 keep1
 have fpB:∀ {H':Hp} {pl:List (Addr × Obj)},(∀ b ∈ fp,H' b = none)→(∀ p ∈ pl,p.1 = D)→∀ b ∈ fp,FpOk Y pl H' b:=fun {H' pl} hn hp b hb=>by
  obtain ⟨f0,f1,f3,f4,f5,f6⟩:=f2 b hb
  refine ⟨hn b hb,(fpD b hb).2,fun z=>?_,.inl hb,fun x c e=>f5 x c (closOf_old e),fun p q=>?_⟩
  ·rcases List.mem_cons.mp (I2.stkSub b z) with z | z
   ·exact f1 z
   ·exact f3 z
  ·have q':p ∈ pl:=by simpa [Y,blk] using q
   rw [hp p q']
   exact (fpD b hb).1.symm
 have clB:∀ x d,Y.env.cells.lookup x = some d→d ≠ D:=fun x d e=>(clD x d (closOf_old e)).1
 have notFs:D ∉ Y.fs:=fun z=>by
  obtain ⟨_,o,ho,_⟩:=IB.ok.funs.mem z
  exact (old (Heap.lt_size (show s2.heap.get? D = some o from ho))).1 rfl
 have loop:∀ s3:Shared,s3 = { s2 with heap:=h1,toks:=s2.toks + ([]:List (Str × Value)).length } →
   codeAny (model X.prog X.w) X.A (.compLoop (.ListComp elt [⟨tg,iter,ifs,0⟩] scope pos) 0 (.ref it) (.ref D) (compEnvC scope (closOf scope X.env) C X.env)) (RR (.ref D) C) s3:=by
  rintro s3 rfl
  refine compLoop_by (fun n s'=>∃ (i:Nat) (ys:List V) (its:List Value) (k:Nat) (H':Hp),Inv Y [] (bst own.length σ js) H' s'∧tn i s'.heap∧(∀ b ∈ fp,H' b = none)∧H' D = none∧Vals ys its ∧
   s'.heap.get? D = some { cls:=.type "list",data:=.seq its.toArray k }∧W i n ys H') ?_ m0 ⟨0,[],[],0,H2,IB,T.keep 0 _ _ st2 (fun b hb o e=>keep1 b o e),fun b hb=>(f2 b hb).1,I2.hok.fresh szD,.nil,gD1,w0⟩
  rintro n s3 ⟨i,ys,its,k,H3,I3,st3,fr3,hD3,r3,g3,w3⟩
  have I3p:Inv Y [(D,{ cls:=.type "list",data:=.seq its.toArray k })] (bst own.length σ js) H3 s3:=I3.pins_of fun p hp=>by
   have e:p = (D,{ cls:=.type "list",data:=.seq its.toArray k }):=by simpa using hp
   subst e
   exact ⟨g3,hD3,neDC,notFs,fun v z=>by cases z⟩
  have f3:∀ b ∈ fp,FpOk Y [(D,{ cls:=.type "list",data:=.seq its.toArray k })] H3 b:=fpB fr3 fun p hp=>by
   have e:p = (D,{ cls:=.type "list",data:=.seq its.toArray k }):=by simpa using hp
   rw [e]
  rcases turn i n ys H3 w3 with ⟨stop,hz,qn⟩ | ⟨go,hz,N,hN,step⟩
  ·refine thn (T.done Y rfl rfl rfl hc i _ s3 _ H3 (fun _ _=>False) I3p f3 st3 stop) fun r s4 ⟨hr,I4⟩=>?_
   subst hr
   refine hR C _ s4 ?_
   have g4:=(I4.pin (D,{ cls:=.type "list",data:=.seq its.toArray k }) (by simp [Y,blk])).1
   obtain ⟨m,hn4,_⟩:=id I4.loc
   have un:Un (frs X.stack) fp H2 H3 s2.heap s4.heap:=I4.base
   have I5:Inv X pins σ H3 s4:=I2.call' I4.os un I4.hok I4.bare fun b hb=>let ⟨_,b1,_,b3,b4,b5⟩:=f2 b hb; ⟨b3,b1,b4,b5⟩
   have I6:=I5.track (ys:=ys) (its:=its) (n:=k) hD3 (Nat.le_trans I2.sz szD) locD.1 (fun x d e=>(clD x d e).1) (fun p hp=>(pinD p hp).1) hz r3 g4
   refine ⟨D,_,m,rfl,hn4,I6,?_,Nat.le_trans I2.sz szC,locD.2,fun x d e=>(clD x d e).2,fun p hp=>(pinD p hp).2,qn D hD3⟩
   rw [upd_ne (Ne.symm neDC)]
   exact I4.free
  ·refine thn (T.item Y rfl rfl rfl hc i _ s3 _ H3 (fun _ _=>False) I3p f3 st3 go) fun r s4 ⟨u,hr,h4⟩=>?_
   subst hr
   refine thn h4 fun _ s5 ⟨x,H5,I5,r5,y5,st5,fr5⟩=>?_
   have f5:∀ b ∈ fp,FpOk Y [(D,{ cls:=.type "list",data:=.seq its.toArray k })] H5 b:=fun b hb=>⟨fr5 b hb,(f3 b hb).2⟩
   have I5':=I5.pinned f5 (T.obj _ _ st5)
   refine thn (hg s2 H2 C fp B.nd _ s5 _ H5 x u _ I5' r5 (step x H5 y5)) fun _ s6 ⟨σ6,H6,I6,d6,q6⟩=>?_
   refine thn (ht s2 H2 C fp _ s6 σ6 H6 _ I6 q6) fun ok s7 ⟨H7,I7,q7⟩=>?_
   have after:∀ {s8:Shared} {H8:Hp},Inv Y ([(D,{ cls:=.type "list",data:=.seq its.toArray k })] ++ pinsAt fp s5.heap) σ6 H8 s8 →
     s8.heap.get? D = some { cls:=.type "list",data:=.seq its.toArray k }∧H8 D = none∧tn (i + 1) s8.heap∧(∀ b ∈ fp,H8 b = none)∧Inv Y [] (bst own.length σ js) H8 s8:=fun {s8 H8} I8=>by
    have p8:=I8.pin (D,{ cls:=.type "list",data:=.seq its.toArray k }) (by simp [Y,blk])
    refine ⟨p8.1,p8.2.1,T.keep _ _ _ st5 fun b hb o e=>(I8.pin (b,o) (List.mem_append_right _ (List.mem_append_right _ (mem_pinsAt hb e)))).1,fun b hb=>?_,?_⟩
    ·obtain ⟨o,e,_⟩:=T.obj _ _ st5 b hb
     exact (I8.pin (b,o) (List.mem_append_right _ (List.mem_append_right _ (mem_pinsAt hb e)))).2.1
    ·refine (I8.pins_of (pins':=[]) fun p hp=>absurd hp (by simp [Y,blk])).weak ?_ fun j v e=>?_
     ·rw [I8.len,bst_len]
      show _ = (own ++ capN X.N js).length
      unfold capN
      simp
     ·rcases Nat.lt_or_ge j own.length with z | z
      ·exfalso
       unfold bst at e
       rw [List.getElem?_append_left (by simpa using z),List.getElem?_replicate] at e
       split at e <;> cases e
      ·unfold bst at e
       rw [List.getElem?_append_right (by simpa using z),List.length_replicate,← d6,List.getElem?_drop] at e
       rw [← e]
       congr 1
       omega
   cases ok with
   | false =>
    rw [if_neg Bool.false_ne_true] at q7 ⊢
    obtain ⟨m',hm,w7⟩:=hN _ _ q7
    obtain ⟨a1,a2,a3,a4,a5⟩:=after I7
    exact ⟨m',hm,i + 1,ys,its,k,H7,a5,a3,a4,a2,r3,a1,w7⟩
   | true =>
    rw [if_pos rfl] at q7 ⊢
    refine thn (he s2 H2 C fp _ s7 σ6 H7 _ I7 q7) fun u8 s8 ⟨v8,H8,I8,r8,n8⟩=>?_
    obtain ⟨m',hm,w8⟩:=hN _ _ n8
    obtain ⟨a1,a2,a3,a4,a5⟩:=after I8
    have hsz:its.toArray.size < sizeLine:=by rw [List.size_toArray,← r3.length]; exact hz
    refine call_meets F.slot_list_append ⟨_,a1,rfl⟩ F.entry_list_append (F.args_list_append_2 _ _) (PySem.list_append D its.toArray k u8 (by omega)) ⟨a1,?_⟩
    have q9:=PySem.IsL.update a1 (fun xs=>xs.push u8)
    have sb:Heap.SameBut D s8.heap (s8.heap.update D (Obj.mapSeq fun xs=>xs.push u8)):=Heap.SameBut.update ..
    have I9:=a5.young sb a2 szD neDC clB (fun p hp=>absurd hp (by show p ∉ [] ++ []; simp))
    have fin:∃ k',(s8.heap.update D (Obj.mapSeq fun xs=>xs.push u8)).get? D = some { cls:=.type "list",data:=.seq (its ++ [u8]).toArray k' }:=⟨_,by
     rw [show (its ++ [u8]).toArray = its.toArray.push u8 by simp]
     exact q9⟩
    obtain ⟨k',fin⟩:=fin
    exact ⟨m',hm,i + 1,ys ++ [v8],its ++ [u8],k',H8,I9,T.keep _ _ _ a3 (fun b hb o e=>(sb.2 b (fpD b hb).1).trans e),a4,a2,r3.append (.cons r8 .nil),fin,w8⟩
 exact codeAny_compStart_list (loop _ rfl) (T.self _ 0 _ _ _ (T.keep 0 _ _ st2 fun b hb o e=>keep1 b o e) (loop _ rfl))
theorem pe_comp {elt tg iter:Expr} {ifs:List Expr} {scope:Scope} {pos:Pos} (own:List Str) (js:List Nat) {wi:TI} {g:TG} {tc:TT} {te:TE} (hc:X.calm = true) (B:Blk X scope own js) (hi:PI X tg iter wi)
  (hg:∀ s H C fp,(own ++ capN X.N js).Nodup→PG (blk X scope (own ++ capN X.N js) s H C fp) tg g) (ht:∀ s H C fp,PTs (blk X scope (own ++ capN X.N js) s H C fp) ifs tc) (he:∀ s H C fp,PE (blk X scope (own ++ capN X.N js) s H C fp) elt te)
  (hs:∀ x,foldedSetIterable iter X.env x = pure x:=by intro _; rfl):PE X (.ListComp elt [⟨tg,iter,ifs,0⟩] scope pos) (tComp own.length js wi g tc te):=by
 intro pins s σ H Q I h
 have hcl:closureFor scope X.env = pure (closOf scope X.env):=closureFor_of fun x hx hf=>I.ok.has x.1 (B.free x hx hf)
 rw [eval_ListComp]
 refine wpAny_comprehension_free (use:=none) rfl hs hcl B.kind B.names (thn (hi pins s σ H _ I h) fun v s1 h1=>thn h1 fun itv s2 h2=>?_)
 refine comp_block (RR:=fun acc C=>compPost (model X.prog X.w) X.A X.xe none (EP X pins σ Q) acc C) hc B hg ht he h2 fun C acc s' hb=>?_
 obtain ⟨D,H',m,rfl,hn,I',c1,c2,c3,c4,c5,q⟩:=hb
 exact ⟨m,hn,fun h' hs'=>⟨.ref D,H',I'.young hs' c1 c2 c3 c4 c5,rfl,q⟩⟩
theorem ps_setC {elt tg iter:Expr} {ifs:List Expr} {scope:Scope} {pos pos' spos:Pos} {i:Nat} {x:Str} (own:List Str) (js:List Nat) {wi:TI} {g:TG} {tc:TT} {te:TE} (hN:X.N.Nodup) (hi:X.N[i]? = some x) (hx:Loc X.env.scope x)
  (hc:X.calm = true) (B:Blk X scope own js) (hit:PI X tg iter wi)
  (hg:∀ s H C fp,(own ++ capN X.N js).Nodup→PG (blk X scope (own ++ capN X.N js) s H C fp) tg g) (ht:∀ s H C fp,PTs (blk X scope (own ++ capN X.N js) s H C fp) ifs tc) (he:∀ s H C fp,PE (blk X scope (own ++ capN X.N js) s H C fp) elt te)
  (hf:X.fn x = true ∨ X.env.scope.names.lookup x = some .local:=by first | exact .inl rfl | exact .inr rfl | assumption)
  (hw:swapsWith (.ListComp elt [⟨tg,iter,ifs,0⟩] scope pos) (some (.Name x pos')) spos.line X.env = pure true:=by rfl)
  (hs:∀ x,foldedSetIterable iter X.env x = pure x:=by intro _; rfl) :
  PS X (.Assign [.Name x pos'] (.ListComp elt [⟨tg,iter,ifs,0⟩] scope pos) spos) (fun D σ H=>tComp own.length js wi g tc te σ H fun v H'=>D.nx (σ.set i (some v)) H'):=by
 intro pins s σ H D I h
 have hcl:closureFor scope X.env = pure (closOf scope X.env):=closureFor_of fun x hx hf=>I.ok.has x.1 (B.free x hx hf)
 rw [exec_Assign_Name_used _ _ _ _ hw]
 refine wpAny_bind (wpAny_standAt (wpAny_bind ?_))
 show wpAny _ X.A (do let _ ← comprehension (.ListComp elt [⟨tg,iter,ifs,0⟩] scope pos) scope X.env _ (newList []) false (eval iter X.env) (some (assign (.Name x pos') X.env))) _ _ s
 refine wpAny_bind (thn (Q:=fun _ s'=>SP X pins D .next s') (wpAny_comprehension_free (use:=some (assign (.Name x pos') X.env)) rfl hs hcl B.kind B.names (thn (hit pins s σ H _ I h) fun v s1 h1=>thn h1 fun itv s2 h2=>?_)) fun _ s' q=>wpAny_pure (wpAny_pure q))
 refine comp_block (Q:=fun v H'=>D.nx (σ.set i (some v)) H') (RR:=fun acc C=>compPost (model X.prog X.w) X.A X.xe (some (assign (.Name x pos') X.env)) (fun _ s'=>SP X pins D .next s') acc C) hc B hg ht he h2 fun C acc s' hb=>?_
 obtain ⟨l,H',m,rfl,hn,I',c1,c2,c3,c4,c5,q⟩:=hb
 show wpAny _ X.A (assign (.Name x pos') X.env (.ref l)) _ _ _
 refine wpAny_assign_Name (store_ok2 (v:=.ref l) I' hN hi hx rfl (fun s3 I3 ⟨a,sb,ha⟩=>?_) hf)
 have ne:C ≠ a:=by
  rcases ha with z | z
  ·rw [z]; exact c3
  ·exact (c4 x a z).symm
 exact ⟨m,hn.sameBut sb ne,fun h' hs'=>⟨_,H',I3.young hs' c1 c2 c3 c4 c5,q⟩⟩
end
section
variable {X:Cx}
def Dv (j:Int):Prop:=0 < j∧j.natAbs.log2 < 9000
theorem Dv.small {j:Int} (h:0 < j) (h2:j < 1073741824):Dv j:=⟨h,by
 have e:j.natAbs ≠ 0:=by omega
 have:j.natAbs.log2 < 30:=(Nat.log2_lt e).mpr (by omega)
 omega⟩
theorem op_fdivL:OpR X (binaryOp .FloorDiv) (rI (fun _ j=>Dv j) fun i j=>.int (i / j)):=opI fun i j _ _ _ _ _ hc q=>by
 rw [← Int.fdiv_eq_ediv_of_nonneg i (Int.le_of_lt hc.1)] at q
 exact floordiv_int (Int.ne_of_gt hc.1) q (.inl (PyProof.noPylong_of_log2 hc.2))
def isaT (t T:String):Option Bool:=if (Value.type t == Value.type T) = true then some true else if PySem.W.kitMeta T = true then (fastBuiltinMro t).map (·.contains (.type T)) else none
theorem isaT_int_int:isaT "int" "int" = some true:=by decide +kernel
theorem isaT_int_bool:isaT "int" "bool" = some false:=by decide +kernel
theorem isaT_int_tuple:isaT "int" "tuple" = some false:=by decide +kernel
theorem isaT_bool_int:isaT "bool" "int" = some true:=by decide +kernel
theorem isaT_bool_bool:isaT "bool" "bool" = some true:=by decide +kernel
theorem isaT_bool_tuple:isaT "bool" "tuple" = some false:=by decide +kernel
theorem isaT_str_int:isaT "str" "int" = some false:=by decide +kernel
theorem isaT_str_tuple:isaT "str" "tuple" = some false:=by decide +kernel
theorem isaT_non_int:isaT "NoneType" "int" = some false:=by decide +kernel
theorem isaT_non_tuple:isaT "NoneType" "tuple" = some false:=by decide +kernel
theorem isaT_list_int:isaT "list" "int" = some false:=by decide +kernel
theorem isaT_list_tuple:isaT "list" "tuple" = some false:=by decide +kernel
theorem isaT_tuple_int:isaT "tuple" "int" = some false:=by decide +kernel
theorem isaT_tuple_tuple:isaT "tuple" "tuple" = some true:=by decide +kernel
theorem isaT_kit {K:PySem.W.Frag} {t T:String}:PySem.W.kitOne K (.type t) (.type T) = isaT t T:=rfl
theorem pe_ty {x:Str} {T:String} {pos:Pos} (hg:Gl X x) (hm:X.mg x = none) (hv:bootBuiltins x = some (.type T)) (hn:x ≠ "__name__" := by decide) (hd:(x == ("__debug__" : Str)) = false:=by decide):PE X (.Name x pos) (tC (.ty T)) :=
 pe_bltn hg hm hv rfl hn hd
structure OkN (P:Program) (w:World) (K:PySem.W.Frag) (mg:Str→Option Value) (base:Heap) (k:Nat) (x:Str) (ps:List Str) (sp:Sp):Prop where
 ex:∃ f fd,mg x = some (.ref f)∧PySem.W.keepIn K (.ref f) = true∧Binds K fd ps []∧(∃ oc od osl,K.lookup f = some ⟨oc,od,.func fd,osl⟩)∧FnOk P w K mg base CX0 k f fd ps sp
theorem pe_fn {k:Nat} {x:Str} {ps:List Str} {sp:Sp} {p pos:Pos} {e:Expr} {es:List Expr} {t:TA} (F:OkN X.prog X.w X.K X.mg X.base k x ps sp) (hr:Room k X.A) (ha:PA X (e :: es) t) (hg:Gl X x:=by rfl)
  (hdb:(x == ("__debug__" : Str)) = false:=by decide) (he:starEach (e :: es) X.env = (false,eval e X.env) :: starEach es X.env:=by rfl) (hpl:(backTo pos (starEach es X.env)).any (·.1) = false:=by rfl) :
  PE X (.Call (.Name x p) (e :: es) [] pos) (tCall sp [] E0 t):=by
 obtain ⟨f,fd,hm,hk,hb,lk,F⟩:=F.ex
 exact pe_call F hr hg hm hk hb .nil pass0 ha hdb he hpl
structure DefN (K:PySem.W.Frag) (mg:Str→Option Value) (x:Str) (st:Stmt) (ps:List Str):Prop where
 ex:∃ f fd,mg x = some (.ref f)∧Fun K x x st f fd∧∀ us:List Value,us.length = ps.length→bindArgs fd ⟨us,[]⟩ = pure (ps.zip us)
theorem DefN.ok {P:Program} {w:World} {K:PySem.W.Frag} {mg:Str→Option Value} {base:Heap} {x:Str} {st:Stmt} {N ps:List Str} {k:Nat} {sp:Sp} (D:DefN K mg x st ps) (S:FnScope N ps (defScope st)) (len:∀ vs H Q E,sp vs H Q E→vs.length = ps.length)
  (hbody:∀ (f:Addr) (cdv:Value) (A:Around) (outer:List Env) (s:Shared) (H:Hp) (vs:List V) (Q:VK) (E:XK),Room k (A.deeper (envOfC x (defScope st) s.heap.objs.size f cdv))→sp vs H Q E →
   ∃ t,PSs (cxOf CX0 P w K mg base N x (defScope st) f cdv A outer s H E).nox (defBody st) t∧t { nx:=fun _ H'=>Q .non H',rt:=Q } (start N vs) H):OkN P w K mg base (k + 1) x ps sp:=by
 obtain ⟨f,fd,hm,F,hb⟩:=D.ex
 refine ⟨f,fd,hm,F.kp,.all hb,?_,F.ok S len fun cdv A outer s H vs Q E hr h=>hbody f cdv A outer s H vs Q E hr h⟩
 obtain ⟨oc,od,kV,doc,pm,an,cdv,ct,osl,_,lk,_⟩:=F.ex
 exact ⟨oc,od,osl,lk⟩
theorem OkN.mono {P:Program} {w:World} {K:PySem.W.Frag} {mg:Str→Option Value} {base:Heap} {x:Str} {ps:List Str} {j k:Nat} {sp:Sp} (F:OkN P w K mg base j x ps sp) (h:j ≤ k):OkN P w K mg base k x ps sp:=by
 obtain ⟨f,fd,hm,hk,hb,lk,F⟩:=F.ex
 exact ⟨f,fd,hm,hk,hb,lk,F.mono h⟩
theorem def_mk {K:PySem.W.Frag} {mg:Str→Option Value} {h:Heap} {x:Str} {st:Stmt} {ps:List Str} {f:Addr} {oc:Value} {od an:Option Addr} {osl:Array (Option Value)} {kV doc pm cdv ct:Value} (KX:K.In h) (G:h.Ns mainGlobals mg)
  (a:PySem.W.nsIn K mainGlobals x = some (some (.ref f))) (l:K.lookup f = some ⟨oc,od,.func (PySem.W.fnOf x x (defArgs st) (defBody st) (defScope st) .none kV doc pm an cdv ct),osl⟩)
  (c:PySem.W.codeIn K cdv x = true) (k:PySem.W.keepIn K (.ref f) = true)
  (hb:∀ (kV doc pm:Value) (an:Option Addr) (cdv ct:Value) (us:List Value),us.length = ps.length→bindArgs (PySem.W.fnOf x x (defArgs st) (defBody st) (defScope st) .none kV doc pm an cdv ct) ⟨us,[]⟩ = pure (ps.zip us)):DefN K mg x st ps :=
 ⟨f,_,PySem.W.mg_of KX G a,fun_mk l c k,fun us hl=>hb kV doc pm an cdv ct us hl⟩
theorem law_fin {P:Program} {w:World} {K:PySem.W.Frag} {mg:Str→Option Value} {x p:Str} {st:Stmt} {k:Nat} {fa:Addr} {sp:Sp} (D:DefN K mg x st [p]) (hfa:mg x = some (.ref fa))
  (F:∀ base:Heap,OkN P w K mg base k x [p] sp):∃ fd:FuncData,(∀ (s:Shared) (v:Value),BindsTo s fd ⟨[v],[]⟩ [(p,v)])∧∀ base:Heap,K.In base→base.Ns mainGlobals mg→FnOk P w K mg base CX0 k fa fd [p] sp:=by
 obtain ⟨f,fd,hm,F0,hb⟩:=D.ex
 obtain ⟨oc,od,kV,doc,pm,an,cdv,ct,osl,_,lk,_⟩:=F0.ex
 refine ⟨fd,fun s v=>.of_eq (hb [v] rfl),fun base _ _=>?_⟩
 obtain ⟨f',fd',hm',_,_,⟨oc',od',osl',lk'⟩,G⟩:=(F base).ex
 rw [hfa] at hm'
 cases hm'
 rw [hfa] at hm
 cases hm
 rw [lk] at lk'
 cases lk'
 exact G
end
structure BI (mg:Str→Option Value):Prop where
 len_:mg "len" = none
 range_:mg "range" = none
 isinstance_:mg "isinstance" = none
 int_:mg "int" = none
 bool_:mg "bool" = none
 list_:mg "list" = none
 tuple_:mg "tuple" = none
 str_:mg "str" = none
 sum_:mg "sum" = none
 all_:mg "all" = none
 max_:mg "max" = none
 min_:mg "min" = none
 sorted_:mg "sorted" = none
 set_:mg "set" = none
 zip_:mg "zip" = none
 enumerate_:mg "enumerate" = none
 reversed_:mg "reversed" = none
 dict_:mg "dict" = none
 any_:mg "any" = none
 abs_:mg "abs" = none
theorem bi_mk {K:PySem.W.Frag} {mg:Str→Option Value} {h:Heap} (KX:K.In h) (G:h.Ns mainGlobals mg)
  (len_:PySem.W.nsIn K mainGlobals "len" = some none) (range_:PySem.W.nsIn K mainGlobals "range" = some none) (isinstance_:PySem.W.nsIn K mainGlobals "isinstance" = some none) (int_:PySem.W.nsIn K mainGlobals "int" = some none) (bool_:PySem.W.nsIn K mainGlobals "bool" = some none) (list_:PySem.W.nsIn K mainGlobals "list" = some none) (tuple_:PySem.W.nsIn K mainGlobals "tuple" = some none) (str_:PySem.W.nsIn K mainGlobals "str" = some none) (sum_:PySem.W.nsIn K mainGlobals "sum" = some none) (all_:PySem.W.nsIn K mainGlobals "all" = some none) (max_:PySem.W.nsIn K mainGlobals "max" = some none) (min_:PySem.W.nsIn K mainGlobals "min" = some none) (sorted_:PySem.W.nsIn K mainGlobals "sorted" = some none) (set_:PySem.W.nsIn K mainGlobals "set" = some none) (zip_:PySem.W.nsIn K mainGlobals "zip" = some none) (enumerate_:PySem.W.nsIn K mainGlobals "enumerate" = some none) (reversed_:PySem.W.nsIn K mainGlobals "reversed" = some none) (dict_:PySem.W.nsIn K mainGlobals "dict" = some none) (any_:PySem.W.nsIn K mainGlobals "any" = some none) (abs_:PySem.W.nsIn K mainGlobals "abs" = some none):BI mg :=
 ⟨PySem.W.mg_none_of KX G len_,PySem.W.mg_none_of KX G range_,PySem.W.mg_none_of KX G isinstance_,PySem.W.mg_none_of KX G int_,PySem.W.mg_none_of KX G bool_,PySem.W.mg_none_of KX G list_,PySem.W.mg_none_of KX G tuple_,PySem.W.mg_none_of KX G str_,PySem.W.mg_none_of KX G sum_,PySem.W.mg_none_of KX G all_,PySem.W.mg_none_of KX G max_,PySem.W.mg_none_of KX G min_,PySem.W.mg_none_of KX G sorted_,PySem.W.mg_none_of KX G set_,PySem.W.mg_none_of KX G zip_,PySem.W.mg_none_of KX G enumerate_,PySem.W.mg_none_of KX G reversed_,PySem.W.mg_none_of KX G dict_,PySem.W.mg_none_of KX G any_,PySem.W.mg_none_of KX G abs_⟩
def Grow (t:Addr) (H H':Hp):Prop:=∀ b o,H b = some o→b ≠ t→H' b = some o
theorem Grow.refl {t:Addr} {H:Hp}:Grow t H H:=fun _ _ h _=>h
theorem Grow.trans {t:Addr} {H H1 H2:Hp} (a:Grow t H H1) (b:Grow t H1 H2):Grow t H H2:=fun c o h n=>b c o (a c o h n) n
theorem Grow.upd {t:Addr} {H H':Hp} (g:Grow t H H') (o:HO):Grow t H (L2.upd H' t o):=fun b u h n=>by rw [upd_ne n]; exact g b u h n
theorem Grow.new {t l:Addr} {H H':Hp} {o:HO} (g:Grow t H H') (h:H' l = none):Grow t H (L2.upd H' l o):=fun b u e n=>by
 have:=g b u e n
 rw [upd_ne (ne_of_none this h)]; exact this
theorem Same.grow {t:Addr} {H H':Hp} (s:Same H H'):Grow t H H':=fun b o h _=>s b o h
theorem Same.new {H H':Hp} {l:Addr} {o:HO} (s:Same H H') (h:H' l = none):Same H (L2.upd H' l o):=fun b u e=>by
 have:=s b u e
 rw [upd_ne (ne_of_none this h)]; exact this
theorem Same.seqT {K:PySem.W.Frag} {H H':Hp} {a:Addr} {xs:List V} (e:Same H H') (h:SqT K H a xs):SqT K H' a xs:=by
 rcases h with (h | ⟨o,h⟩) | h
 ·exact .inl (.inl (e _ _ h))
 ·exact .inl (.inr ⟨o,e _ _ h⟩)
 ·exact .inr h
theorem Grow.seq {K:PySem.W.Frag} {t:Addr} {H H':Hp} {a:Addr} {xs:List V} {kvs:List (Key × V)} (g:Grow t H H') (ht:H t = some (.dK kvs)) (h:SqL K H a xs):SqL K H' a xs:=by
 rcases h with (h | ⟨o,h⟩) | h
 ·exact .inl (.inl (g _ _ h (ne_of h ht (by intro z; cases z))))
 ·exact .inl (.inr ⟨o,g _ _ h (ne_of h ht (by intro z; cases z))⟩)
 ·exact .inr h
def tapeK (c:Addr) (sp lf:Int):List (Key × V):=[(Sum.inr "cells",.ref c),(Sum.inr "spot",.int sp),(Sum.inr "left",.int lf)]
theorem cs_ne:¬ ((Sum.inr ("cells" : Str):Key) = Sum.inr ("spot" : Str)):=by decide +kernel
theorem cl_ne:¬ ((Sum.inr ("cells" : Str):Key) = Sum.inr ("left" : Str)):=by decide +kernel
theorem sl_ne:¬ ((Sum.inr ("spot" : Str):Key) = Sum.inr ("left" : Str)):=by decide +kernel
theorem tape_cells {c:Addr} {sp lf:Int}:valV (tapeK c sp lf) (Sum.inr "cells" : Key) = some (.ref c):=by
 simp [valV,tapeK]
theorem tape_spot {c:Addr} {sp lf:Int}:valV (tapeK c sp lf) (Sum.inr "spot" : Key) = some (.int sp):=by
 simp only [valV,tapeK,List.find?_cons,decide_eq_false cs_ne,decide_true,Option.map_some]
theorem tape_left {c:Addr} {sp lf:Int}:valV (tapeK c sp lf) (Sum.inr "left" : Key) = some (.int lf):=by
 simp only [valV,tapeK,List.find?_cons,decide_eq_false cl_ne,decide_eq_false sl_ne,decide_true,Option.map_some]
theorem put_left {c:Addr} {sp lf x:Int}:putK (tapeK c sp lf) (Sum.inr "left" : Key) (.int x) = tapeK c sp x:=by
 unfold putK
 rw [if_pos (by simp [tapeK])]
 simp only [tapeK,List.map_cons,List.map_nil,if_neg cl_ne,if_neg sl_ne,if_pos]
theorem put_spot {c:Addr} {sp lf x:Int}:putK (tapeK c sp lf) (Sum.inr "spot" : Key) (.int x) = tapeK c x lf:=by
 unfold putK
 rw [if_pos (by simp [tapeK])]
 simp only [tapeK,List.map_cons,List.map_nil,if_neg cs_ne,if_pos,if_neg (show ¬ ((Sum.inr ("left" : Str):Key) = Sum.inr ("spot" : Str)) from fun e=>sl_ne e.symm)]
theorem tape_made {c:Addr}:mergeK [] [((Sum.inr ("cells" : Str):Key),V.ref c),((Sum.inr ("spot" : Str):Key),V.int 0),((Sum.inr ("left" : Str):Key),V.int 0)] = tapeK c 0 0:=by
 simp only [mergeK,List.foldl_cons,List.foldl_nil]
 have e1:putK ([]:List (Key × V)) (Sum.inr ("cells" : Str)) (V.ref c) = [((Sum.inr ("cells" : Str):Key),V.ref c)]:=by simp [putK]
 have e2:putK [((Sum.inr ("cells" : Str):Key),V.ref c)] (Sum.inr ("spot" : Str)) (V.int 0) = [((Sum.inr ("cells" : Str):Key),V.ref c),((Sum.inr ("spot" : Str):Key),V.int 0)]:=by
  unfold putK
  rw [if_neg (by simp only [List.any_cons,List.any_nil,decide_eq_false cs_ne]; simp)]
  rfl
 have e3:putK [((Sum.inr ("cells" : Str):Key),V.ref c),((Sum.inr ("spot" : Str):Key),V.int 0)] (Sum.inr ("left" : Str)) (V.int 0) = tapeK c 0 0:=by
  unfold putK
  rw [if_neg (by simp only [List.any_cons,List.any_nil,decide_eq_false cl_ne,decide_eq_false sl_ne]; simp)]
  rfl
 rw [e1,e2,e3]
def Tape (K:PySem.W.Frag) (H:Hp) (t:Addr) (n:Nat):Prop:=∃ (c:Addr) (ns:List Int) (sp lf:Int),H t = some (.dK (tapeK c sp lf))∧SqL K H c (ns.map V.int)∧0 ≤ sp∧sp ≤ n∧0 ≤ lf
theorem Tape.more {K:PySem.W.Frag} {H:Hp} {t:Addr} {n m:Nat} (T:Tape K H t n) (h:n ≤ m):Tape K H t m:=by
 obtain ⟨c,ns,sp,lf,a,b,c1,c2,c3⟩:=T
 exact ⟨c,ns,sp,lf,a,b,c1,by omega,c3⟩
theorem Tape.dict {K:PySem.W.Frag} {H:Hp} {t:Addr} {n:Nat} (T:Tape K H t n):∃ kvs,H t = some (.dK kvs):=by
 obtain ⟨c,ns,sp,lf,a,_⟩:=T
 exact ⟨_,a⟩
theorem Tape.same {K:PySem.W.Frag} {H H':Hp} {t:Addr} {n:Nat} (T:Tape K H t n) (s:Same H H'):Tape K H' t n:=by
 obtain ⟨c,ns,sp,lf,a,b,r⟩:=T
 exact ⟨c,ns,sp,lf,s _ _ a,s.seq b,r⟩
theorem Tape.put {K:PySem.W.Frag} {H:Hp} {t c:Addr} {ns:List Int} {sp lf sp' lf':Int} {n:Nat} (a:H t = some (.dK (tapeK c sp lf))) (b:SqL K H c (ns.map V.int)) (h1:0 ≤ sp') (h2:sp' ≤ n) (h3:0 ≤ lf'):Tape K (upd H t (.dK (tapeK c sp' lf'))) t n :=
 ⟨c,ns,sp',lf',upd_same,Grow.seq (Grow.refl.upd _) a b,h1,h2,h3⟩
theorem cut63 {ns:List Int}:cutV (ns.map V.int) none (some 63) = (ns.take 63).map V.int:=by
 unfold cutV
 have e0:HT.sIx (ns.map V.int).length 0 none = 0:=rfl
 rw [e0,List.drop_zero,Nat.sub_zero,List.map_take]
 show List.take (HT.sIx _ _ (some ((63:Nat):Int))) _ = _
 rw [HT.sIx_nat]
 rcases Nat.le_total 63 (ns.map V.int).length with h | h
 ·rw [Nat.min_eq_left h]
 ·rw [Nat.min_eq_right h,List.take_of_length_le (Nat.le_refl _),List.take_of_length_le h]
end L2
namespace L2
theorem drawn {Q:Int→Hp→Prop} {m x:Int} {H':Hp} (hm:0 < m) (k:∀ r:Nat,(r:Int) < m→Q (r:Nat) H'):Q (x % m) H':=by
 obtain ⟨r,e⟩:=Int.eq_ofNat_of_zero_le (Int.emod_nonneg x (Int.ne_of_gt hm))
 have:=Int.emod_lt_of_pos x hm
 rw [e] at this ⊢
 exact k r this
theorem seedOk {y:Int}:-(2 ^ 64) < y % 2147483647∧y % 2147483647 < 2 ^ 64:=by omega
theorem dv64:Dv 64:=Dv.small (by decide) (by decide)
end L2
namespace L2
open PySem PySem.Spec PyProof.Rows
theorem and_nat (a b:Nat):Builtin.bitAnd (a:Int) (b:Int) = ((a &&& b:Nat):Int):=by
 unfold Builtin.bitAnd
 rw [decide_eq_true (Int.natCast_nonneg a),decide_eq_true (Int.natCast_nonneg b)]
 simp
theorem or_nat (a b:Nat):Builtin.bitOr (a:Int) (b:Int) = ((a ||| b:Nat):Int):=by
 unfold Builtin.bitOr Builtin.bitAnd Builtin.bitNot
 rw [decide_eq_false (show ¬ (0:Int) ≤ -(a:Int) - 1 by omega),decide_eq_false (show ¬ (0:Int) ≤ -(b:Int) - 1 by omega)]
 have h1:(-(-(a:Int) - 1) - 1).toNat = a:=by omega
 have h2:(-(-(b:Int) - 1) - 1).toNat = b:=by omega
 simp only [h1,h2]
 omega
theorem xor_and_nat:∀ (a b:Nat),(a ^^^ b) + 2 * (a &&& b) = a + b:=by
 intro a
 induction a using Nat.strongRecOn with
 | ind a ih =>
  intro b
  by_cases h0:a = 0
  ·subst h0; simp
  ·have h:=ih (a / 2) (by omega) (b / 2)
   have e1:(a ^^^ b) / 2 = a / 2 ^^^ b / 2:=Nat.xor_div_two
   have e2:(a &&& b) / 2 = a / 2 &&& b / 2:=Nat.and_div_two
   have e3:(a ^^^ b) % 2 = (a + b) % 2:=by
    have:=Nat.testBit_xor a b 0
    rw [Nat.testBit_zero,Nat.testBit_zero,Nat.testBit_zero] at this
    rcases Nat.mod_two_eq_zero_or_one a with p | p <;> rcases Nat.mod_two_eq_zero_or_one b with q | q <;> rcases Nat.mod_two_eq_zero_or_one (a ^^^ b) with r | r <;> simp [p,q,r] at this <;> omega
   have e4:(a &&& b) % 2 = (a % 2) * (b % 2):=by
    have:=Nat.testBit_and a b 0
    rw [Nat.testBit_zero,Nat.testBit_zero,Nat.testBit_zero] at this
    rcases Nat.mod_two_eq_zero_or_one a with p | p <;> rcases Nat.mod_two_eq_zero_or_one b with q | q <;> rcases Nat.mod_two_eq_zero_or_one (a &&& b) with r | r <;> simp [p,q,r] at this <;> simp [p,q,r]
   rcases Nat.mod_two_eq_zero_or_one a with p | p <;> rcases Nat.mod_two_eq_zero_or_one b with q | q <;> rw [p,q] at e4 <;> omega
theorem xor_nat (a b:Nat):Builtin.bitXor (a:Int) (b:Int) = ((a ^^^ b:Nat):Int):=by
 unfold Builtin.bitXor
 rw [or_nat,and_nat]
 have h1:(a ||| b) + (a &&& b) = a + b:=by
  have:=xor_and_nat a b
  have e:(a ||| b) = (a ^^^ b) + (a &&& b):=by
   have h2:=xor_and_nat (a ^^^ b) (a &&& b)
   have h3:(a ^^^ b) &&& (a &&& b) = 0:=by
    apply Nat.eq_of_testBit_eq
    intro i
    simp only [Nat.testBit_and,Nat.testBit_xor,Nat.zero_testBit]
    cases a.testBit i <;> cases b.testBit i <;> rfl
   have h4:(a ^^^ b) ^^^ (a &&& b) = a ||| b:=by
    apply Nat.eq_of_testBit_eq
    intro i
    simp only [Nat.testBit_and,Nat.testBit_xor,Nat.testBit_or]
    cases a.testBit i <;> cases b.testBit i <;> rfl
   rw [h3,h4] at h2
   omega
  omega
 have:=xor_and_nat a b
 omega
theorem shl_nat (k:Nat):(1:Int) * (2:Int) ^ ((k:Int).toNat) = ((1 <<< k:Nat):Int):=by
 rw [Int.toNat_natCast,Nat.shiftLeft_eq,Int.one_mul,Nat.one_mul]
 simp
def spLaw (K:PySem.W.Frag):Sp:=fun vs H Q _=>∃ (a:Addr) (ns:List Int),vs = [.ref a]∧SqL K H a (ns.map V.int)∧ns.length ≤ 63∧∀ H',Q (.bl true) H'
theorem bt_len:bootBuiltins "len" = some (.builtin "len"):=by decide +kernel
theorem bt_range:bootBuiltins "range" = some (.type "range"):=by decide +kernel
theorem bt_isinstance:bootBuiltins "isinstance" = some (.builtin "isinstance"):=by decide +kernel
theorem bt_int:bootBuiltins "int" = some (.type "int"):=by decide +kernel
theorem bt_bool:bootBuiltins "bool" = some (.type "bool"):=by decide +kernel
theorem bt_list:bootBuiltins "list" = some (.type "list"):=by decide +kernel
theorem bt_tuple:bootBuiltins "tuple" = some (.type "tuple"):=by decide +kernel
theorem bt_all:bootBuiltins "all" = some (.builtin "all"):=by decide +kernel
theorem bt_max:bootBuiltins "max" = some (.builtin "max"):=by decide +kernel
theorem bt_min:bootBuiltins "min" = some (.builtin "min"):=by decide +kernel
theorem bt_sorted:bootBuiltins "sorted" = some (.builtin "sorted"):=by decide +kernel
theorem bt_enumerate:bootBuiltins "enumerate" = some (.type "enumerate"):=by decide +kernel
theorem bt_reversed:bootBuiltins "reversed" = some (.type "reversed"):=by decide +kernel
section
variable {X:Cx} {a b e o:Expr} {es:List Expr} {ta tb te to:TE} {t:TA} {pos apos cpos:Pos} (K:PySem.W.Frag)
theorem ix_seqK (hK:X.K = K:=by rfl):IxR X (rIx K):=by subst hK; exact ix_seq
theorem sl_listK (hK:X.K = K:=by rfl):SlR X (rSlL K):=by subst hK; exact sl_list
theorem call_lenK (hK:X.K = K:=by rfl):CallR X (.builtin "len") (fun xs H Q=>∃ p ys,xs = [.ref p]∧(SqL K H p ys ∨ SqT K H p ys)∧Q (.int ys.length) H):=by subst hK; exact call_len_seq
theorem call_listK (hK:X.K = K:=by rfl):CallR X (.type "list") (fun xs H Q=>∃ p ys,xs = [.ref p]∧(SqL K H p ys ∨ SqT K H p ys)∧∀ l,H l = none→Q (.ref l) (upd H l (.lst ys))):=by subst hK; exact call_list_of
theorem call_tupleK (hK:X.K = K:=by rfl):CallR X (.type "tuple") (fun xs H Q=>∃ p ys,xs = [.ref p]∧((SqL K H p ys∧∀ l,H l = none→Q (.ref l) (upd H l (.tup ys))) ∨ (SqT K H p ys∧Q (.ref p) H))):=by subst hK; exact call_tuple_of
theorem pg_tupK {es:List Expr} {k:Nat} {t:TGs} {n:Nat} (hc:X.calm = true) (h:PGs X es t) (hn:(assignEach es X.env).length = n:=by rfl) (hst:(assignEach es X.env).findIdx? (·.1) = none:=by rfl) (hK:X.K = K:=by rfl) :
  PG X (.Tuple es k pos) (gTup K n t):=by subst hK; exact pg_tup hc h hn hst
variable {name:Str} {T id:String} {r:V→List V→Hp→VK→Prop}
theorem pe_bm0K (pa:PlainAttrs T) (slot:Slot T name id) (hty:typeOf (.builtin id) = pure (.type "method_descriptor")) (hm:MtR X id r) (ho:PE X o to)
  (hbase:attributeBase o name X.env (eval o X.env) = eval o X.env:=by rfl) (hline:(apos.endLine == cpos.line) = true:=by rfl) (hK:X.K = K:=by rfl):PE X (.Call (.Attribute o name apos) [] [] cpos) (tBM0 K T r to):=by
 subst hK; exact pe_bm0 pa slot hty hm ho hbase hline
theorem pe_bmK (pa:PlainAttrs T) (slot:Slot T name id) (hty:typeOf (.builtin id) = pure (.type "method_descriptor")) (hm:MtR X id r) (ho:PE X o to) (ha:PA X (e :: es) t)
  (hbase:attributeBase o name X.env (eval o X.env) = eval o X.env:=by rfl)
  (hfew:((backTo cpos (starEach (e :: es) X.env)).all (fun x=>!x.1) && (backToKw cpos (keywordEach [] X.env)).all (fun x=>x.1.isSome) && decide ((e :: es).length + ([]:List Keyword).length + (if ([]:List Keyword).isEmpty then 0 else 1) < 30)) = true:=by rfl)
  (hline:(apos.endLine == cpos.line) = true:=by rfl) (he:starEach (e :: es) X.env = (false,eval e X.env) :: starEach es X.env:=by rfl) (hpl:(backTo cpos (starEach es X.env)).any (·.1) = false:=by rfl)
  (hK:X.K = K:=by rfl):PE X (.Call (.Attribute o name apos) (e :: es) [] cpos) (tBM K T r to t):=by
 subst hK
 exact pe_bm pa slot hty hm ho ha hbase hfew hline he hpl
end
inductive D where
 | non | bl (b:Bool) | int (i:Int) | str (x:Str) | tup (ds:List D) | lst (ds:List D)
def StT (H:Hp) (a:Addr) (xs:List V):Prop:=H a = some (.tup xs)
theorem StT.sq {K:PySem.W.Frag} {H:Hp} {a:Addr} {xs:List V} (h:StT H a xs):SqT K H a xs:=SqT.of h
instance {K:PySem.W.Frag} {H:Hp} {a:Addr} {xs:List V}:Coe (StT H a xs) (SqT K H a xs):=⟨StT.sq⟩
def StL (H:Hp) (a:Addr) (xs:List V):Prop:=H a = some (.lst xs)
theorem StL.sq {K:PySem.W.Frag} {H:Hp} {a:Addr} {xs:List V} (h:StL H a xs):SqL K H a xs:=SqL.of h
instance {K:PySem.W.Frag} {H:Hp} {a:Addr} {xs:List V}:Coe (StL H a xs) (SqL K H a xs):=⟨StL.sq⟩
mutual
def RepD (K:PySem.W.Frag) (H:Hp):V→D→Prop
 | v,.non=>v = .non
 | v,.bl b=>v = .bl b
 | v,.int i=>v = .int i
 | v,.str x=>v = .str x
 | v,.tup ds=>∃ a vs,v = .ref a∧StT H a vs∧RepDs K H vs ds
 | v,.lst ds=>∃ a vs,v = .ref a∧StL H a vs∧RepDs K H vs ds
def RepDs (K:PySem.W.Frag) (H:Hp):List V→List D→Prop
 | [],[]=>True
 | v :: vs,d :: ds=>RepD K H v d∧RepDs K H vs ds
 | _,_=>False
end
mutual
def eqD:D→D→Bool
 | .non,.non=>true
 | .bl a,.bl b=>a == b
 | .bl a,.int b=>(if a then 1 else 0) == b
 | .int a,.bl b=>a == (if b then 1 else 0)
 | .int a,.int b=>a == b
 | .str a,.str b=>a == b
 | .tup ds,.tup es=>eqDs ds es
 | .lst ds,.lst es=>eqDs ds es
 | _,_=>false
def eqDs:List D→List D→Bool
 | [],[]=>true
 | d :: ds,e :: es=>eqD d e && eqDs ds es
 | _,_=>false
end
mutual
def D.depth:D→Nat
 | .tup ds=>depths ds + 1
 | .lst ds=>depths ds + 1
 | _=>0
def depths:List D→Nat
 | []=>0
 | d :: ds=>max d.depth (depths ds)
end
section
variable {K:PySem.W.Frag} {H H':Hp}
theorem RepDs.length:∀ {vs:List V} {ds:List D},RepDs K H vs ds→vs.length = ds.length
 | [],[],_=>rfl
 | v :: vs,d :: ds,h=>by
  unfold RepDs at h
  rw [List.length_cons,List.length_cons,RepDs.length h.2]
 | [],d :: ds,h=>by unfold RepDs at h; exact h.elim
 | v :: vs,[],h=>by unfold RepDs at h; exact h.elim
theorem RepDs.get:∀ {vs:List V} {ds:List D} {i:Nat} {d:D},RepDs K H vs ds→ds[i]? = some d→∃ v,vs[i]? = some v∧RepD K H v d
 | [],[],_,_,_,e=>by simp at e
 | v :: vs,d :: ds,0,_,h,e=>by
  unfold RepDs at h
  simp at e; subst e
  exact ⟨v,rfl,h.1⟩
 | v :: vs,d :: ds,i + 1,_,h,e=>by
  unfold RepDs at h
  obtain ⟨u,a,b⟩:=RepDs.get (i:=i) h.2 (by simpa using e)
  exact ⟨u,by simpa using a,b⟩
 | [],d :: ds,_,_,h,_=>by unfold RepDs at h; exact h.elim
 | v :: vs,[],_,_,h,_=>by unfold RepDs at h; exact h.elim
theorem RepDs.getV:∀ {vs:List V} {ds:List D} {i:Nat} {v:V},RepDs K H vs ds→vs[i]? = some v→∃ d,ds[i]? = some d∧RepD K H v d
 | [],[],_,_,_,e=>by simp at e
 | v :: vs,d :: ds,0,_,h,e=>by
  unfold RepDs at h
  simp at e; subst e
  exact ⟨d,rfl,h.1⟩
 | v :: vs,d :: ds,i + 1,_,h,e=>by
  unfold RepDs at h
  obtain ⟨u,a,b⟩:=RepDs.getV (i:=i) h.2 (by simpa using e)
  exact ⟨u,by simpa using a,b⟩
 | [],d :: ds,_,_,h,_=>by unfold RepDs at h; exact h.elim
 | v :: vs,[],_,_,h,_=>by unfold RepDs at h; exact h.elim
theorem RepDs.append:∀ {vs ws:List V} {ds es:List D},RepDs K H vs ds→RepDs K H ws es→RepDs K H (vs ++ ws) (ds ++ es)
 | [],ws,[],es,_,h=>h
 | v :: vs,ws,d :: ds,es,h,h'=>by
  unfold RepDs at h
  show RepDs K H (v :: (vs ++ ws)) (d :: (ds ++ es))
  unfold RepDs
  exact ⟨h.1,RepDs.append h.2 h'⟩
 | [],_,d :: ds,_,h,_=>by unfold RepDs at h; exact h.elim
 | v :: vs,_,[],_,h,_=>by unfold RepDs at h; exact h.elim
theorem RepDs.one {v:V} {d:D} (h:RepD K H v d):RepDs K H [v] [d]:=by unfold RepDs; exact ⟨h,by unfold RepDs; trivial⟩
theorem RepDs.nil:RepDs K H [] []:=by unfold RepDs; trivial
theorem RepDs.cons {v:V} {d:D} {vs:List V} {ds:List D} (h:RepD K H v d) (t:RepDs K H vs ds):RepDs K H (v :: vs) (d :: ds):=by unfold RepDs; exact ⟨h,t⟩
theorem repInts:∀ {vs:List V} {ns:List Int},RepDs K H vs (ns.map D.int)↔vs = ns.map V.int
 | [],[]=>by simp [RepDs]
 | v :: vs,n :: ns=>by
  have ih:=@repInts vs ns
  rw [List.map_cons,List.map_cons]
  unfold RepDs RepD
  rw [ih]
  constructor
  ·rintro ⟨rfl,rfl⟩; rfl
  ·intro h; injection h with h1 h2; exact ⟨h1,h2⟩
 | [],n :: ns=>by rw [List.map_cons]; unfold RepDs; simp
 | v :: vs,[]=>by rw [List.map_nil]; unfold RepDs; simp
mutual
theorem RepD.keep (hl:∀ a vs,StL H a vs→StL H' a vs) (ht:∀ a vs,StT H a vs→StT H' a vs):∀ {v:V} {d:D},RepD K H v d→RepD K H' v d
 | v,.non,h=>by unfold RepD at h ⊢; exact h
 | v,.bl b,h=>by unfold RepD at h ⊢; exact h
 | v,.int i,h=>by unfold RepD at h ⊢; exact h
 | v,.str x,h=>by unfold RepD at h ⊢; exact h
 | v,.tup ds,h=>by
  unfold RepD at h ⊢
  obtain ⟨a,vs,e,h1,h2⟩:=h
  exact ⟨a,vs,e,ht _ _ h1,RepDs.keep hl ht h2⟩
 | v,.lst ds,h=>by
  unfold RepD at h ⊢
  obtain ⟨a,vs,e,h1,h2⟩:=h
  exact ⟨a,vs,e,hl _ _ h1,RepDs.keep hl ht h2⟩
theorem RepDs.keep (hl:∀ a vs,StL H a vs→StL H' a vs) (ht:∀ a vs,StT H a vs→StT H' a vs):∀ {vs:List V} {ds:List D},RepDs K H vs ds→RepDs K H' vs ds
 | [],[],_=>RepDs.nil
 | v :: vs,d :: ds,h=>by
  unfold RepDs at h ⊢
  exact ⟨RepD.keep hl ht h.1,RepDs.keep hl ht h.2⟩
 | [],d :: ds,h=>by unfold RepDs at h; exact h.elim
 | v :: vs,[],h=>by unfold RepDs at h; exact h.elim
end
theorem RepD.same {v:V} {d:D} (h:RepD K H v d) (s:Same H H'):RepD K H' v d:=h.keep (fun _ _ q=>s _ _ q) fun _ _ q=>s _ _ q
theorem RepDs.same {vs:List V} {ds:List D} (h:RepDs K H vs ds) (s:Same H H'):RepDs K H' vs ds:=h.keep (fun _ _ q=>s _ _ q) fun _ _ q=>s _ _ q
theorem Grow.seqT {t:Addr} {a:Addr} {xs:List V} {kvs:List (Key × V)} (g:Grow t H H') (ht:H t = some (.dK kvs)) (h:SqT K H a xs):SqT K H' a xs:=by
 rcases h with (h | ⟨o,h⟩) | h
 ·exact .inl (.inl (g _ _ h (ne_of h ht (by intro z; cases z))))
 ·exact .inl (.inr ⟨o,g _ _ h (ne_of h ht (by intro z; cases z))⟩)
 ·exact .inr h
theorem RepD.grow {v:V} {d:D} {t:Addr} {kvs:List (Key × V)} (h:RepD K H v d) (g:Grow t H H') (ht:H t = some (.dK kvs)):RepD K H' v d:=h.keep (fun _ _ q=>g _ _ q (ne_of q ht (by intro z; cases z))) fun _ _ q=>g _ _ q (ne_of q ht (by intro z; cases z))
theorem RepDs.grow {vs:List V} {ds:List D} {t:Addr} {kvs:List (Key × V)} (h:RepDs K H vs ds) (g:Grow t H H') (ht:H t = some (.dK kvs)):RepDs K H' vs ds:=h.keep (fun _ _ q=>g _ _ q (ne_of q ht (by intro z; cases z))) fun _ _ q=>g _ _ q (ne_of q ht (by intro z; cases z))
end
mutual
theorem eqD_refl:∀ d:D,eqD d d = true
 | .non=>by simp [eqD]
 | .bl b=>by simp [eqD]
 | .int i=>by simp [eqD]
 | .str x=>by simp [eqD]
 | .tup ds=>by unfold eqD; exact eqDs_refl ds
 | .lst ds=>by unfold eqD; exact eqDs_refl ds
theorem eqDs_refl:∀ ds:List D,eqDs ds ds = true
 | []=>by simp [eqDs]
 | d :: ds=>by unfold eqDs; rw [eqD_refl d,eqDs_refl ds]; rfl
end
section
variable {X:Cx} {pins:List (Addr × Obj)} {σ:St} {H:Hp} {s:Shared}
mutual
theorem repD_inj (I:Inv X pins σ H s):∀ {v:V} {d e:D},RepD X.K H v d→RepD X.K H v e→d = e
 | v,.non,e,h,h'=>by
  unfold RepD at h; subst h
  cases e <;> (unfold RepD at h'; first | rfl | (obtain ⟨_,_,z,_⟩:=h'; cases z) | cases h')
 | v,.bl b,e,h,h'=>by
  unfold RepD at h; subst h
  cases e <;> (unfold RepD at h'; first | (cases h'; rfl) | (obtain ⟨_,_,z,_⟩:=h'; cases z) | cases h')
 | v,.int b,e,h,h'=>by
  unfold RepD at h; subst h
  cases e <;> (unfold RepD at h'; first | (cases h'; rfl) | (obtain ⟨_,_,z,_⟩:=h'; cases z) | cases h')
 | v,.str b,e,h,h'=>by
  unfold RepD at h; subst h
  cases e <;> (unfold RepD at h'; first | (cases h'; rfl) | (obtain ⟨_,_,z,_⟩:=h'; cases z) | cases h')
 | v,.tup ds,e,h,h'=>by
  unfold RepD at h
  obtain ⟨a,vs,rfl,h1,h2⟩:=h
  cases e with
  | tup es =>
   unfold RepD at h'
   obtain ⟨b,ws,z,g1,g2⟩:=h'
   cases z
   rw [I.tuple_inj g1.sq h1.sq] at g2
   rw [repDs_inj I h2 g2]
  | lst es =>
   unfold RepD at h'
   obtain ⟨b,ws,z,g1,g2⟩:=h'
   cases z
   obtain ⟨_,_,⟨o,n,e1,c1,_⟩,_⟩:=I.list (StL.sq g1)
   obtain ⟨_,_,⟨o',e2,c2,_⟩,_⟩:=I.tuple h1.sq
   rw [e1] at e2; cases e2
   rw [c1] at c2
   exact absurd c2 (by decide)
  | non=>unfold RepD at h'; cases h'
  | bl _=>unfold RepD at h'; cases h'
  | int _=>unfold RepD at h'; cases h'
  | str _=>unfold RepD at h'; cases h'
 | v,.lst ds,e,h,h'=>by
  unfold RepD at h
  obtain ⟨a,vs,rfl,h1,h2⟩:=h
  cases e with
  | lst es =>
   unfold RepD at h'
   obtain ⟨b,ws,z,g1,g2⟩:=h'
   cases z
   rw [I.list_inj (StL.sq g1) (StL.sq h1)] at g2
   rw [repDs_inj I h2 g2]
  | tup es =>
   unfold RepD at h'
   obtain ⟨b,ws,z,g1,g2⟩:=h'
   cases z
   obtain ⟨_,_,⟨o,n,e1,c1,_⟩,_⟩:=I.list (StL.sq h1)
   obtain ⟨_,_,⟨o',e2,c2,_⟩,_⟩:=I.tuple g1.sq
   rw [e1] at e2; cases e2
   rw [c1] at c2
   exact absurd c2 (by decide)
  | non=>unfold RepD at h'; cases h'
  | bl _=>unfold RepD at h'; cases h'
  | int _=>unfold RepD at h'; cases h'
  | str _=>unfold RepD at h'; cases h'
theorem repDs_inj (I:Inv X pins σ H s):∀ {vs:List V} {ds es:List D},RepDs X.K H vs ds→RepDs X.K H vs es→ds = es
 | [],[],[],_,_=>rfl
 | v :: vs,d :: ds,e :: es,h,h'=>by
  unfold RepDs at h h'
  rw [repD_inj I h.1 h'.1,repDs_inj I h.2 h'.2]
 | [],d :: ds,_,h,_=>by unfold RepDs at h; exact h.elim
 | v :: vs,[],_,h,_=>by unfold RepDs at h; exact h.elim
 | [],_,d :: ds,_,h=>by unfold RepDs at h; exact h.elim
 | v :: vs,_,[],_,h=>by unfold RepDs at h; exact h.elim
end
end
theorem in1_units (A:Around):A.in1.units = A.units + 1:=rfl
theorem depths_get:∀ {ds:List D} {j:Nat} {d:D},ds[j]? = some d→d.depth ≤ depths ds
 | [],_,_,h=>by simp at h
 | d :: ds,0,_,h=>by simp at h; subst h; unfold depths; omega
 | d :: ds,j + 1,e,h=>by
  have:=depths_get (ds:=ds) (j:=j) (by simpa using h)
  unfold depths; omega
def eqAtI (ds es:List D) (j:Nat):Bool:=match ds[j]?,es[j]? with
 | some d,some e=>eqD d e
 | _,_=>true
theorem eqDs_range:∀ {ds es:List D},ds.length = es.length→(List.range ds.length).all (eqAtI ds es) = eqDs ds es
 | [],[],_=>by simp [eqDs]
 | d :: ds,e :: es,h=>by
  have ih:=eqDs_range (ds:=ds) (es:=es) (by simpa using h)
  rw [List.length_cons,List.range_succ_eq_map,List.all_cons,List.all_map]
  unfold eqDs
  rw [← ih]
  congr 1
 | [],_ :: _,h=>by simp at h
 | _ :: _,[],h=>by simp at h
theorem eqDs_lengths:∀ {ds es:List D},ds.length ≠ es.length→eqDs ds es = false
 | [],[],h=>absurd rfl h
 | [],_ :: _,_=>by simp [eqDs]
 | _ :: _,[],_=>by simp [eqDs]
 | d :: ds,e :: es,h=>by
  unfold eqDs
  rw [eqDs_lengths (ds:=ds) (es:=es) (by simpa using h),Bool.and_false]
section
variable {X:Cx} {pins:List (Addr × Obj)} {σ:St} {H:Hp} {s:Shared}
theorem items_eq (I:Inv X pins σ H s) {m:Nat} (ih:∀ {A:Around} {v u:V} {vv uu:Value} {d e:D},d.depth ≤ m→A.units + m < cLine→RelV v vv→RelV u uu→RepD X.K H v d→RepD X.K H u e→SeqAt.EqAt A s vv uu (eqD d e)) {A:Around} (hu:A.units + m < cLine)
  {vs us:List V} {vvs uus:List Value} {ds es:List D} (hd:depths ds ≤ m) (rv:Vals vs vvs) (ru:Vals us uus) (hv:RepDs X.K H vs ds) (he:RepDs X.K H us es) :
  ∀ j (h1:j < vvs.toArray.size) (h2:j < uus.toArray.size),SeqAt.EqAt A s vvs.toArray[j] uus.toArray[j] (eqAtI ds es j):=by
 intro j h1 h2
 rw [List.size_toArray] at h1 h2
 have l1:=rv.length
 have l2:=ru.length
 have g1:vs[j]? = some vs[j]:=List.getElem?_eq_getElem (by omega)
 have g2:us[j]? = some us[j]:=List.getElem?_eq_getElem (by omega)
 obtain ⟨x,ex,rx⟩:=rv.get g1
 obtain ⟨y,ey,ry⟩:=ru.get g2
 obtain ⟨d,ed,rd⟩:=hv.getV g1
 obtain ⟨e,ee,re⟩:=he.getV g2
 rw [List.getElem?_eq_getElem h1] at ex
 rw [List.getElem?_eq_getElem h2] at ey
 cases ex
 cases ey
 have:eqAtI ds es j = eqD d e:=by unfold eqAtI; rw [ed,ee]
 rw [this,List.getElem_toArray,List.getElem_toArray]
 exact ih (Nat.le_trans (depths_get ed) hd) hu rx ry rd re
theorem rcStep (I:Inv X pins σ H s) (n:Nat) (ih:0 < n→∀ {A:Around} {v u:V} {vv uu:Value} {d e:D},d.depth ≤ n - 1→A.units + (n - 1) < cLine→RelV v vv→RelV u uu→RepD X.K H v d→RepD X.K H u e→SeqAt.EqAt A s vv uu (eqD d e))
  {A:Around} {v u:V} {vv uu:Value} {d e:D} (hd:d.depth ≤ n) (hu:A.units + n < cLine) (rv:RelV v vv) (ru:RelV u uu) (hv:RepD X.K H v d) (he:RepD X.K H u e):SeqAt.RcAt A s vv uu (eqD d e)∧SeqAt.EqAt A s vv uu (eqD d e):=by
 have hu0:A.units < cLine:=by omega
 have isL:∀ {a xs},StL H a xs→∃ its:List Value,Vals xs its∧s.heap.IsList a its.toArray:=fun q=>by
  obtain ⟨its,r,p,_⟩:=I.list q.sq
  exact ⟨its,r,p.isList⟩
 have isT:∀ {a xs},StT H a xs→∃ its:List Value,Vals xs its∧s.heap.IsTuple a its.toArray:=fun q=>by
  obtain ⟨its,r,p,_⟩:=I.tuple q.sq
  exact ⟨its,r,p⟩
 cases d with
 | non =>
  unfold RepD at hv; subst hv; cases rv
  cases e with
  | non=>unfold RepD at he; subst he; cases ru; exact ⟨.none_none,.same _⟩
  | bl b=>unfold RepD at he; subst he; cases ru; exact ⟨.none_bool _,.none_bool _⟩
  | int b=>unfold RepD at he; subst he; obtain ⟨t,rfl⟩:=ru; exact ⟨.none_int _ _,.none_int _ _⟩
  | str b=>unfold RepD at he; subst he; obtain ⟨t,rfl⟩:=ru; exact ⟨.none_str _ _,.none_str _ _⟩
  | tup es=>unfold RepD at he; obtain ⟨a,vs,rfl,q,_⟩:=he; cases ru; obtain ⟨its,_,q⟩:=isT q; exact ⟨.none_tuple q hu0,.none_tuple q hu0⟩
  | lst es=>unfold RepD at he; obtain ⟨a,vs,rfl,q,_⟩:=he; cases ru; obtain ⟨its,_,q⟩:=isL q; exact ⟨.none_list q hu0,.none_list q hu0⟩
 | bl x =>
  unfold RepD at hv; subst hv; cases rv
  cases e with
  | non=>unfold RepD at he; subst he; cases ru; exact ⟨.bool_none _,.bool_none _⟩
  | bl b=>unfold RepD at he; subst he; cases ru; exact ⟨.bool_bool _ _,.bool_bool _ _⟩
  | int b=>unfold RepD at he; subst he; obtain ⟨t,rfl⟩:=ru; exact ⟨.bool_int _ _ _,.bool_int _ _ _⟩
  | str b=>unfold RepD at he; subst he; obtain ⟨t,rfl⟩:=ru; exact ⟨.bool_str _ _ _,.bool_str _ _ _⟩
  | tup es=>unfold RepD at he; obtain ⟨a,vs,rfl,q,_⟩:=he; cases ru; obtain ⟨its,_,q⟩:=isT q; exact ⟨.bool_tuple _ q hu0,.bool_tuple _ q hu0⟩
  | lst es=>unfold RepD at he; obtain ⟨a,vs,rfl,q,_⟩:=he; cases ru; obtain ⟨its,_,q⟩:=isL q; exact ⟨.bool_list _ q hu0,.bool_list _ q hu0⟩
 | int x =>
  unfold RepD at hv; subst hv; obtain ⟨t0,rfl⟩:=rv
  cases e with
  | non=>unfold RepD at he; subst he; cases ru; exact ⟨.int_none _ _,.int_none _ _⟩
  | bl b=>unfold RepD at he; subst he; cases ru; exact ⟨.int_bool _ _ _,.int_bool _ _ _⟩
  | int b=>unfold RepD at he; subst he; obtain ⟨t,rfl⟩:=ru; exact ⟨.int_int _ _ _ _,.int_int _ _ _ _⟩
  | str b=>unfold RepD at he; subst he; obtain ⟨t,rfl⟩:=ru; exact ⟨.int_str _ _ _ _,.int_str _ _ _ _⟩
  | tup es=>unfold RepD at he; obtain ⟨a,vs,rfl,q,_⟩:=he; cases ru; obtain ⟨its,_,q⟩:=isT q; exact ⟨.int_tuple _ _ q hu0,.int_tuple _ _ q hu0⟩
  | lst es=>unfold RepD at he; obtain ⟨a,vs,rfl,q,_⟩:=he; cases ru; obtain ⟨its,_,q⟩:=isL q; exact ⟨.int_list _ _ q hu0,.int_list _ _ q hu0⟩
 | str x =>
  unfold RepD at hv; subst hv; obtain ⟨t0,rfl⟩:=rv
  cases e with
  | non=>unfold RepD at he; subst he; cases ru; exact ⟨.str_none _ _,.str_none _ _⟩
  | bl b=>unfold RepD at he; subst he; cases ru; exact ⟨.str_bool _ _ _,.str_bool _ _ _⟩
  | int b=>unfold RepD at he; subst he; obtain ⟨t,rfl⟩:=ru; exact ⟨.str_int _ _ _ _,.str_int _ _ _ _⟩
  | str b=>unfold RepD at he; subst he; obtain ⟨t,rfl⟩:=ru; exact ⟨.str_str _ _ _ _,.str_str _ _ _ _⟩
  | tup es=>unfold RepD at he; obtain ⟨a,vs,rfl,q,_⟩:=he; cases ru; obtain ⟨its,_,q⟩:=isT q; exact ⟨.str_tuple _ _ q hu0,.str_tuple _ _ q hu0⟩
  | lst es=>unfold RepD at he; obtain ⟨a,vs,rfl,q,_⟩:=he; cases ru; obtain ⟨its,_,q⟩:=isL q; exact ⟨.str_list _ _ q hu0,.str_list _ _ q hu0⟩
 | tup ds =>
  have hv0:=hv
  unfold RepD at hv
  obtain ⟨a,vs,rfl,q,hq⟩:=hv
  cases rv
  obtain ⟨its,r1,q1⟩:=isT q
  cases e with
  | non=>unfold RepD at he; subst he; cases ru; exact ⟨.tuple_none q1 hu0,.tuple_none q1 hu0⟩
  | bl b=>unfold RepD at he; subst he; cases ru; exact ⟨.tuple_bool _ q1 hu0,.tuple_bool _ q1 hu0⟩
  | int b=>unfold RepD at he; subst he; obtain ⟨t,rfl⟩:=ru; exact ⟨.tuple_int _ _ q1 hu0,.tuple_int _ _ q1 hu0⟩
  | str b=>unfold RepD at he; subst he; obtain ⟨t,rfl⟩:=ru; exact ⟨.tuple_str _ _ q1 hu0,.tuple_str _ _ q1 hu0⟩
  | lst es=>unfold RepD at he; obtain ⟨b,ws,rfl,g,_⟩:=he; cases ru; obtain ⟨its2,_,g1⟩:=isL g; exact ⟨.tuple_list q1 g1 hu0,.tuple_list q1 g1 hu0⟩
  | tup es =>
   have he0:=he
   unfold RepD at he
   obtain ⟨b,ws,rfl,g,hg⟩:=he
   cases ru
   obtain ⟨its2,r2,g1⟩:=isT g
   have hd':depths ds + 1 ≤ n:=by simpa [D.depth] using hd
   have l1:=r1.length
   have l2:=r2.length
   have m1:=hq.length
   have m2:=hg.length
   have rc:SeqAt.RcAt A s (.ref a) (.ref b) (eqD (.tup ds) (.tup es)):=by
    have:=SeqAt.RcAt.tuples (e:=eqAtI ds es) q1 g1 hu0 (items_eq I (fun {A} {v} {u} {vv} {uu} {d} {e}=>ih (by omega) (A:=A)) (A:=A.in1) (by rw [in1_units]; omega) (m:=n - 1) (by omega) r1 r2 hq hg)
    rw [List.size_toArray,List.size_toArray] at this
    unfold eqD
    by_cases hl:ds.length = es.length
    ·have z:(its.length == its2.length) = true:=by rw [beq_iff_eq]; omega
     have mm:min its.length its2.length = ds.length:=by omega
     rw [z,Bool.and_true,mm,eqDs_range hl] at this
     exact this
    ·have z:(its.length == its2.length) = false:=by rw [beq_eq_false_iff_ne]; omega
     rw [z,Bool.and_false] at this
     rw [eqDs_lengths hl]
     exact this
   refine ⟨rc,?_⟩
   by_cases hab:a = b
   ·subst hab
    rw [repD_inj I hv0 he0,eqD_refl]
    exact .same _
   ·exact .of_refs hab rc
 | lst ds =>
  have hv0:=hv
  unfold RepD at hv
  obtain ⟨a,vs,rfl,q,hq⟩:=hv
  cases rv
  obtain ⟨its,r1,q1⟩:=isL q
  cases e with
  | non=>unfold RepD at he; subst he; cases ru; exact ⟨.list_none q1 hu0,.list_none q1 hu0⟩
  | bl b=>unfold RepD at he; subst he; cases ru; exact ⟨.list_bool _ q1 hu0,.list_bool _ q1 hu0⟩
  | int b=>unfold RepD at he; subst he; obtain ⟨t,rfl⟩:=ru; exact ⟨.list_int _ _ q1 hu0,.list_int _ _ q1 hu0⟩
  | str b=>unfold RepD at he; subst he; obtain ⟨t,rfl⟩:=ru; exact ⟨.list_str _ _ q1 hu0,.list_str _ _ q1 hu0⟩
  | tup es=>unfold RepD at he; obtain ⟨b,ws,rfl,g,_⟩:=he; cases ru; obtain ⟨its2,_,g1⟩:=isT g; exact ⟨.list_tuple q1 g1 hu0,.list_tuple q1 g1 hu0⟩
  | lst es =>
   have he0:=he
   unfold RepD at he
   obtain ⟨b,ws,rfl,g,hg⟩:=he
   cases ru
   obtain ⟨its2,r2,g1⟩:=isL g
   have hd':depths ds + 1 ≤ n:=by simpa [D.depth] using hd
   have l1:=r1.length
   have l2:=r2.length
   have m1:=hq.length
   have m2:=hg.length
   have rc:SeqAt.RcAt A s (.ref a) (.ref b) (eqD (.lst ds) (.lst es)):=by
    unfold eqD
    by_cases hl:ds.length = es.length
    ·have:=SeqAt.RcAt.lists (e:=eqAtI ds es) q1 g1 (by rw [List.size_toArray,List.size_toArray]; omega) hu0 (items_eq I (fun {A} {v} {u} {vv} {uu} {d} {e}=>ih (by omega) (A:=A)) (A:=A.in1) (by rw [in1_units]; omega) (m:=n - 1) (by omega) r1 r2 hq hg)
     rw [List.size_toArray,show its.length = ds.length by omega,eqDs_range hl] at this
     exact this
    ·rw [eqDs_lengths hl]
     exact SeqAt.RcAt.lists_lengths q1 g1 (by rw [List.size_toArray,List.size_toArray,bne_iff_ne]; omega) hu0
   refine ⟨rc,?_⟩
   by_cases hab:a = b
   ·subst hab
    rw [repD_inj I hv0 he0,eqD_refl]
    exact .same _
   ·exact .of_refs hab rc
theorem rcAt_D (I:Inv X pins σ H s):∀ (n:Nat) {A:Around} {v u:V} {vv uu:Value} {d e:D},d.depth ≤ n→A.units + n < cLine→RelV v vv→RelV u uu→RepD X.K H v d→RepD X.K H u e →
  SeqAt.RcAt A s vv uu (eqD d e)∧SeqAt.EqAt A s vv uu (eqD d e):=by
 intro n
 induction n with
 | zero=>exact fun hd hu=>rcStep I 0 (fun hlt=>absurd hlt (by omega)) hd hu
 | succ n ih=>exact fun hd hu=>rcStep I (n + 1) (fun _ A v u vv uu d e h1 h2 h3 h4 h5 h6=>(ih (A:=A) h1 h2 h3 h4 h5 h6).2) hd hu
end
section
variable {X:Cx} (K:PySem.W.Frag)
def rEqD (K:PySem.W.Frag):R2:=fun x y H Q=>∃ d e,RepD K H x d∧RepD K H y e∧d.depth ≤ 60∧Q (.bl (eqD d e)) H
def rNeD (K:PySem.W.Frag):R2:=fun x y H Q=>∃ d e,RepD K H x d∧RepD K H y e∧d.depth ≤ 60∧Q (.bl (!eqD d e)) H
theorem op_eqD (hu:X.A.units + 64 < cLine) (hK:X.K = K:=by rfl):OpR X (compareOp .Eq) (rEqD K):=by
 subst hK
 intro pins s σ H x y v u Q I rx ry h
 obtain ⟨d,e,hd,he,hz,q⟩:=h
 exact (rcAt_D I 60 hz (by omega) rx ry hd he).1 X.prog X.w _ _ ⟨.bl _,H,I,rfl,q⟩
theorem rcne_D {pins:List (Addr × Obj)} {σ:St} {H:Hp} {s:Shared} (I:Inv X pins σ H s) {A:Around} {v u:V} {vv uu:Value} {d e:D} (hd:d.depth ≤ 60) (hu:A.units + 61 < cLine) (rv:RelV v vv) (ru:RelV u uu) (hv:RepD X.K H v d) (he:RepD X.K H u e) :
  SeqAt.RcNeAt A s vv uu (!eqD d e):=by
 have hu0:A.units < cLine:=by omega
 have isL:∀ {a xs},StL H a xs→∃ its:List Value,Vals xs its∧s.heap.IsList a its.toArray:=fun q=>by
  obtain ⟨its,r,p,_⟩:=I.list q.sq
  exact ⟨its,r,p.isList⟩
 have isT:∀ {a xs},StT H a xs→∃ its:List Value,Vals xs its∧s.heap.IsTuple a its.toArray:=fun q=>by
  obtain ⟨its,r,p,_⟩:=I.tuple q.sq
  exact ⟨its,r,p⟩
 cases d with
 | non =>
  unfold RepD at hv; subst hv; cases rv
  cases e with
  | non=>unfold RepD at he; subst he; cases ru; exact .none_none
  | bl b=>unfold RepD at he; subst he; cases ru; exact .none_bool _
  | int b=>unfold RepD at he; subst he; obtain ⟨t,rfl⟩:=ru; exact .none_int _ _
  | str b=>unfold RepD at he; subst he; obtain ⟨t,rfl⟩:=ru; exact .none_str _ _
  | tup es=>unfold RepD at he; obtain ⟨a,vs,rfl,q,_⟩:=he; cases ru; obtain ⟨its,_,q⟩:=isT q; exact .none_tuple q hu0
  | lst es=>unfold RepD at he; obtain ⟨a,vs,rfl,q,_⟩:=he; cases ru; obtain ⟨its,_,q⟩:=isL q; exact .none_list q hu0
 | bl x =>
  unfold RepD at hv; subst hv; cases rv
  cases e with
  | non=>unfold RepD at he; subst he; cases ru; exact .bool_none _
  | bl b=>unfold RepD at he; subst he; cases ru; exact .bool_bool _ _
  | int b=>unfold RepD at he; subst he; obtain ⟨t,rfl⟩:=ru; exact .bool_int _ _ _
  | str b=>unfold RepD at he; subst he; obtain ⟨t,rfl⟩:=ru; exact .bool_str _ _ _
  | tup es=>unfold RepD at he; obtain ⟨a,vs,rfl,q,_⟩:=he; cases ru; obtain ⟨its,_,q⟩:=isT q; exact .bool_tuple _ q hu0
  | lst es=>unfold RepD at he; obtain ⟨a,vs,rfl,q,_⟩:=he; cases ru; obtain ⟨its,_,q⟩:=isL q; exact .bool_list _ q hu0
 | int x =>
  unfold RepD at hv; subst hv; obtain ⟨t0,rfl⟩:=rv
  cases e with
  | non=>unfold RepD at he; subst he; cases ru; exact .int_none _ _
  | bl b=>unfold RepD at he; subst he; cases ru; exact .int_bool _ _ _
  | int b=>unfold RepD at he; subst he; obtain ⟨t,rfl⟩:=ru; exact .int_int _ _ _ _
  | str b=>unfold RepD at he; subst he; obtain ⟨t,rfl⟩:=ru; exact .int_str _ _ _ _
  | tup es=>unfold RepD at he; obtain ⟨a,vs,rfl,q,_⟩:=he; cases ru; obtain ⟨its,_,q⟩:=isT q; exact .int_tuple _ _ q hu0
  | lst es=>unfold RepD at he; obtain ⟨a,vs,rfl,q,_⟩:=he; cases ru; obtain ⟨its,_,q⟩:=isL q; exact .int_list _ _ q hu0
 | str x =>
  unfold RepD at hv; subst hv; obtain ⟨t0,rfl⟩:=rv
  cases e with
  | non=>unfold RepD at he; subst he; cases ru; exact .str_none _ _
  | bl b=>unfold RepD at he; subst he; cases ru; exact .str_bool _ _ _
  | int b=>unfold RepD at he; subst he; obtain ⟨t,rfl⟩:=ru; exact .str_int _ _ _ _
  | str b=>unfold RepD at he; subst he; obtain ⟨t,rfl⟩:=ru; exact .str_str _ _ _ _
  | tup es=>unfold RepD at he; obtain ⟨a,vs,rfl,q,_⟩:=he; cases ru; obtain ⟨its,_,q⟩:=isT q; exact .str_tuple _ _ q hu0
  | lst es=>unfold RepD at he; obtain ⟨a,vs,rfl,q,_⟩:=he; cases ru; obtain ⟨its,_,q⟩:=isL q; exact .str_list _ _ q hu0
 | tup ds =>
  unfold RepD at hv
  obtain ⟨a,vs,rfl,q,hq⟩:=hv
  cases rv
  obtain ⟨its,r1,q1⟩:=isT q
  cases e with
  | non=>unfold RepD at he; subst he; cases ru; exact .tuple_none q1 hu0
  | bl b=>unfold RepD at he; subst he; cases ru; exact .tuple_bool _ q1 hu0
  | int b=>unfold RepD at he; subst he; obtain ⟨t,rfl⟩:=ru; exact .tuple_int _ _ q1 hu0
  | str b=>unfold RepD at he; subst he; obtain ⟨t,rfl⟩:=ru; exact .tuple_str _ _ q1 hu0
  | lst es=>unfold RepD at he; obtain ⟨b,ws,rfl,g,_⟩:=he; cases ru; obtain ⟨its2,_,g1⟩:=isL g; exact .tuple_list q1 g1 hu0
  | tup es =>
   unfold RepD at he
   obtain ⟨b,ws,rfl,g,hg⟩:=he
   cases ru
   obtain ⟨its2,r2,g1⟩:=isT g
   have hd':depths ds + 1 ≤ 60:=by simpa [D.depth] using hd
   have l1:=r1.length
   have l2:=r2.length
   have m1:=hq.length
   have m2:=hg.length
   have:=SeqAt.RcNeAt.tuples (e:=eqAtI ds es) q1 g1 hu0 (items_eq I (fun {A} {v} {u} {vv} {uu} {d} {e} a1 a2 a3 a4 a5 a6=>(rcAt_D I 60 a1 a2 a3 a4 a5 a6).2) (A:=A.in1) (by rw [in1_units]; omega) (m:=60) (by omega) r1 r2 hq hg)
   rw [List.size_toArray,List.size_toArray] at this
   unfold eqD
   by_cases hl:ds.length = es.length
   ·have z:(its.length == its2.length) = true:=by rw [beq_iff_eq]; omega
    have mm:min its.length its2.length = ds.length:=by omega
    rw [z,Bool.and_true,mm,eqDs_range hl] at this
    exact this
   ·have z:(its.length == its2.length) = false:=by rw [beq_eq_false_iff_ne]; omega
    rw [z,Bool.and_false] at this
    rw [eqDs_lengths hl]
    exact this
 | lst ds =>
  unfold RepD at hv
  obtain ⟨a,vs,rfl,q,hq⟩:=hv
  cases rv
  obtain ⟨its,r1,q1⟩:=isL q
  cases e with
  | non=>unfold RepD at he; subst he; cases ru; exact .list_none q1 hu0
  | bl b=>unfold RepD at he; subst he; cases ru; exact .list_bool _ q1 hu0
  | int b=>unfold RepD at he; subst he; obtain ⟨t,rfl⟩:=ru; exact .list_int _ _ q1 hu0
  | str b=>unfold RepD at he; subst he; obtain ⟨t,rfl⟩:=ru; exact .list_str _ _ q1 hu0
  | tup es=>unfold RepD at he; obtain ⟨b,ws,rfl,g,_⟩:=he; cases ru; obtain ⟨its2,_,g1⟩:=isT g; exact .list_tuple q1 g1 hu0
  | lst es =>
   unfold RepD at he
   obtain ⟨b,ws,rfl,g,hg⟩:=he
   cases ru
   obtain ⟨its2,r2,g1⟩:=isL g
   have hd':depths ds + 1 ≤ 60:=by simpa [D.depth] using hd
   have l1:=r1.length
   have l2:=r2.length
   have m1:=hq.length
   have m2:=hg.length
   unfold eqD
   by_cases hl:ds.length = es.length
   ·have:=SeqAt.RcNeAt.lists (e:=eqAtI ds es) q1 g1 (by rw [List.size_toArray,List.size_toArray]; omega) hu0 (items_eq I (fun {A} {v} {u} {vv} {uu} {d} {e} a1 a2 a3 a4 a5 a6=>(rcAt_D I 60 a1 a2 a3 a4 a5 a6).2) (A:=A.in1) (by rw [in1_units]; omega) (m:=60) (by omega) r1 r2 hq hg)
    rw [List.size_toArray,show its.length = ds.length by omega,eqDs_range hl] at this
    exact this
   ·rw [eqDs_lengths hl]
    exact SeqAt.RcNeAt.lists_lengths q1 g1 (by rw [List.size_toArray,List.size_toArray,bne_iff_ne]; omega) hu0
theorem op_neD (hu:X.A.units + 64 < cLine) (hK:X.K = K:=by rfl):OpR X (compareOp .NotEq) (rNeD K):=by
 subst hK
 intro pins s σ H x y v u Q I rx ry h
 obtain ⟨d,e,hd,he,hz,q⟩:=h
 exact rcne_D I hz (by omega) rx ry hd he X.prog X.w _ _ ⟨.bl _,H,I,rfl,q⟩
theorem call_allK (hc:X.calm = true) (hK:X.K = K:=by rfl):CallR X (.builtin "all") (fun xs H Q=>∃ (p:Addr) (bs:List Bool),xs = [.ref p]∧SqL K H p (bs.map V.bl)∧Q (.bl (bs.all id)) H):=by
 subst hK
 intro pins s σ H xs us Q I r h
 obtain ⟨p,bs,rfl,hq,q⟩:=h
 obtain ⟨u,rfl,ru⟩:=vals1 r
 cases ru
 obtain ⟨its,rv,pl,hz⟩:=I.list hq
 refine call_all_walk (wpAny_pyIter_list pl.isList ?_)
 have hne:p ≠ s.heap.objs.size:=Nat.ne_of_lt (by obtain ⟨o,n,e,_⟩:=pl; exact Heap.lt_size e)
 have hl:its.length = bs.length:=by have:=rv.length; rw [List.length_map] at this; omega
 refine ⟨s.heap.objs.size,_,_,_,_,_,fun i=>bs.getD i true,rfl,Walks.list (A:=X.A.in1) (show X.A.in1.handled = none from I.ok.hd hc) s.heap.objs.size p hne its.toArray,⟨⟨_,Heap.get?_push_size _ rfl,rfl,rfl⟩,?_⟩,fun i v s' Q' E' hv hQ'=>?_,fun h' tk hk=>?_⟩
 ·exact pl.isList.at fun o e=>Heap.get?_push_of_some _ e
 ·have hv':its[i]? = some v:=by simpa using hv
  have hi:i < its.length:=(List.getElem?_eq_some_iff.mp hv').1
  obtain ⟨w,e1,e2⟩:=rv.get (i:=i) (x:=V.bl bs[i]) (by rw [List.getElem?_map,List.getElem?_eq_getElem (by omega)]; rfl)
  rw [hv'] at e1; cases e1
  cases e2
  have hQ2:Q' (bs.getD i true) s':=hQ'
  rw [List.getD_eq_getElem?_getD,List.getElem?_eq_getElem (by omega)] at hQ2
  exact wpAny_truthy_bool hQ2
 ·rw [List.size_toArray,hl]
  have e:((List.range bs.length).all fun i=>bs.getD i true) = bs.all id:=by
   rw [Bool.eq_iff_iff]
   simp only [List.all_eq_true,List.mem_range,id]
   constructor
   ·intro g b hb
    obtain ⟨i,hi,rfl⟩:=List.getElem_of_mem hb
    have:=g i hi
    rw [List.getD_eq_getElem?_getD,List.getElem?_eq_getElem hi] at this
    exact this
   ·intro g i hi
    rw [List.getD_eq_getElem?_getD,List.getElem?_eq_getElem hi]
    exact g _ (List.getElem_mem _)
  rw [e]
  refine ⟨.bl (bs.all id),H,I.kept fun b o e=>?_,rfl,q⟩
  refine hk b o (fun z=>?_) (Heap.get?_push_of_some _ e)
  rw [List.mem_singleton.mp z] at e
  exact absurd (Heap.lt_size e) (Nat.lt_irrefl _)
end
abbrev natsV (ks:List Nat):List V:=ks.map fun j=>V.int (j:Nat)
abbrev natsD (ks:List Nat):List D:=ks.map fun j=>D.int (j:Nat)
theorem repNats {K:PySem.W.Frag} {H:Hp}:∀ {vs:List V} {ks:List Nat},RepDs K H vs (natsD ks)↔vs = natsV ks:=by
 intro vs ks
 have:=@repInts K H vs (ks.map fun j=>((j:Nat):Int))
 rw [List.map_map,List.map_map] at this
 exact this
theorem depth_nats:∀ ks:List Nat,depths (natsD ks) = 0
 | []=>by simp [depths]
 | a :: r=>by
  have:=depth_nats r
  show depths (D.int (a:Nat) :: natsD r) = 0
  unfold depths
  rw [this]
  simp [D.depth]
section
variable {X:Cx}
theorem call_rangeO:CallR X (.type "range") (fun xs H Q=>∃ j:Int,xs = [.int j]∧∀ p,H p = none→Q (.ref p) (upd H p (.rng 0 j))):=by
 intro pins s σ H xs us Q I r h
 obtain ⟨j,rfl,q⟩:=h
 obtain ⟨u,rfl,t,rfl⟩:=vals1 r
 refine call_range_1 ?_
 exact ⟨.ref s.heap.objs.size,upd H s.heap.objs.size (.rng 0 j),I.laid (fun b u e=>Heap.get?_push_of_some _ e) (Nat.le_refl _) ⟨_,_,_,Heap.get?_push_size _ rfl⟩,rfl,q _ (I.hok.fresh (Nat.le_refl _))⟩
theorem call_listR (hc:X.calm = true):CallR X (.type "list") (fun xs H Q=>∃ (p:Addr) (n:Nat),xs = [.ref p]∧H p = some (.rng 0 (n:Nat))∧n ≤ 1000000∧∀ l,H l = none→Q (.ref l) (upd H l (.lst (natsV (List.range n))))):=by
 intro pins s σ H xs us Q I r h
 obtain ⟨p,n,rfl,hp,hn,q⟩:=h
 obtain ⟨u,rfl,ru⟩:=vals1 r
 cases ru
 obtain ⟨t,u,v,e⟩:=(show ObjOk X.prog X.w H s.heap p (.rng 0 (n:Nat)) from I.hok p _ hp)
 have hsz:Builtin.Range.rangeSize 0 (n:Int) 1 = (n:Nat):=by rw [rangeSize_one]; split <;> omega
 refine call_list_range (I.ok.hd hc) (show IsRange s.heap p 0 n 1 t u v from e) (small_one (by omega) (by omega) (by omega) (by omega)) hsz (Nat.le_trans hn (by decide)) fun h' tk acc c hk hl hi=>?_
 have hv:Vals (natsV (List.range n)) acc.toList:=by
  obtain ⟨h1,h2⟩:=hi
  have gen:∀ (m:Nat) (us:List Value),us.length = m→(∀ (i:Nat) (v:Value),us[i]? = some v→∃ t,v = Value.int (0 + (i:Int) * 1) t)→Vals (natsV (List.range m)) us:=by
   intro m
   induction m with
   | zero=>intro us e _; cases us with | nil=>exact .nil | cons _ _=>cases e
   | succ m ih =>
    intro us e hx
    have e1:us = us.take m ++ [us[m]]:=by
     rw [List.take_append_getElem]
     exact (List.take_of_length_le (by omega)).symm
    rw [e1,List.range_succ]
    unfold natsV
    rw [List.map_append]
    refine Vals.append (ih _ (by rw [List.length_take]; omega) fun i v hv=>?_) ?_
    ·rw [List.getElem?_take] at hv
     split at hv
     ·exact hx i v hv
     ·cases hv
    ·obtain ⟨t,ht⟩:=hx m us[m] (List.getElem?_eq_getElem (by omega))
     rw [ht]
     exact .cons ⟨t,by simp⟩ .nil
  refine gen n acc.toList (by simpa using h1) fun i v hv=>?_
  have hv':acc[i]? = some v:=by simpa using hv
  exact h2 i v hv'
 refine ⟨.ref s.heap.objs.size,upd H s.heap.objs.size (.lst (natsV (List.range n))),I.laid (t':=tk) (fun b o e=>hk b o e) (Nat.le_refl _) ?_,rfl,q _ (I.hok.fresh (Nat.le_refl _))⟩
 refine ⟨?_,acc.toList,c,hv,by simpa using hl⟩
 rw [List.length_map,List.length_range]
 exact Nat.le_trans hn (by decide)
end
theorem PSs.pre {X:Cx} {sts:List Stmt} {u P:TS} (h:PSs X sts u) (hw:∀ D σ H,P D σ H→u D σ H):PSs X sts P:=fun pins s σ H D I hp=>h pins s σ H D I (hw D σ H hp)
section
variable {X:Cx}
theorem pe_gc {x:Str} {v:V} {pos:Pos} (h:∃ u,X.mg x = some u∧RelV v u) (hg:Gl X x) (hd:(x == ("__debug__" : Str)) = false:=by decide):PE X (.Name x pos) (tC v):=by
 obtain ⟨u,hm,r⟩:=h
 exact pe_glob hg hm r hd
end
structure Net where
 m:Nat
 js:List (Nat × Nat)
 os:List Nat
abbrev pairD (p:Nat × Nat):D:=.tup [.int (p.1:Nat),.int (p.2:Nat)]
def netD (N:Net):D:=.tup [.int (N.m:Nat),.tup (N.js.map pairD),.tup (natsD N.os)]
def stepRows (rows:List Nat) (p:Nat × Nat):List Nat:=rows ++ [rows.getD p.1 0 ^^^ rows.getD p.2 0]
def ownRows (m:Nat):List Nat:=(List.range m).map fun k=>1 <<< k
def rowsN (N:Net):List Nat:=N.js.foldl stepRows (ownRows N.m)
def okIx:Nat→List (Nat × Nat)→Prop
 | _,[]=>True
 | n,p :: r=>p.1 < p.2∧p.2 < n∧okIx (n + 1) r
def okJs:List Nat→List (Nat × Nat)→Prop
 | _,[]=>True
 | rows,p :: r=>p.1 < p.2∧p.2 < rows.length∧rows.getD p.1 0 ≠ rows.getD p.2 0∧okJs (stepRows rows p) r
structure IsNet (N:Net):Prop where
 m1:1 ≤ N.m
 m12:N.m ≤ 12
 jl:N.js.length ≤ 132
 js:okJs (ownRows N.m) N.js
 o1:1 ≤ N.os.length
 o24:N.os.length ≤ 24
 os:∀ o ∈ N.os,o < N.m + N.js.length
theorem step_len (rows:List Nat) (p:Nat × Nat):(stepRows rows p).length = rows.length + 1:=by simp [stepRows]
theorem okJs_ix:∀ {js:List (Nat × Nat)} {rows:List Nat},okJs rows js→okIx rows.length js
 | [],_,_=>trivial
 | p :: r,rows,h=>by
  obtain ⟨h1,h2,_,h4⟩:=h
  have:=okJs_ix h4
  rw [step_len] at this
  exact ⟨h1,h2,this⟩
theorem okIx_get:∀ {js:List (Nat × Nat)} {n i:Nat} {p:Nat × Nat},okIx n js→js[i]? = some p→p.1 < p.2∧p.2 < n + i
 | [],_,_,_,_,h=>by simp at h
 | q :: r,n,0,p,h,e=>by
  simp at e; subst e
  exact ⟨h.1,by have:=h.2.1; omega⟩
 | q :: r,n,i + 1,p,h,e=>by
  have:=okIx_get (n:=n + 1) (i:=i) (p:=p) h.2.2 (by simpa using e)
  exact ⟨this.1,by omega⟩
theorem okJs_get:∀ {js:List (Nat × Nat)} {rows:List Nat} {i:Nat} {p:Nat × Nat},okJs rows js→js[i]? = some p →
  ((js.take i).foldl stepRows rows).getD p.1 0 ≠ ((js.take i).foldl stepRows rows).getD p.2 0
 | [],_,_,_,_,h=>by simp at h
 | q :: r,rows,0,p,h,e=>by
  simp at e; subst e
  exact h.2.2.1
 | q :: r,rows,i + 1,p,h,e=>okJs_get (js:=r) (rows:=stepRows rows q) (i:=i) (p:=p) h.2.2.2 (by simpa using e)
theorem fold_len (js:List (Nat × Nat)):∀ rows:List Nat,(js.foldl stepRows rows).length = rows.length + js.length:=by
 induction js with
 | nil=>intro rows; rfl
 | cons p r ih=>intro rows; rw [List.foldl_cons,ih,step_len,List.length_cons]; omega
theorem fold_snoc {js:List (Nat × Nat)} {i:Nat} {p:Nat × Nat} (h:js[i]? = some p) (rows:List Nat):(js.take (i + 1)).foldl stepRows rows = stepRows ((js.take i).foldl stepRows rows) p:=by
 rw [List.take_add_one,h,Option.toList_some,List.foldl_append]
 rfl
theorem own_len (m:Nat):(ownRows m).length = m:=by simp [ownRows]
theorem rows_len (N:Net):(rowsN N).length = N.m + N.js.length:=by unfold rowsN; rw [fold_len,own_len]
def tyD:D→String
 | .non => "NoneType" | .bl _ => "bool" | .int _ => "int" | .str _ => "str" | .tup _ => "tuple" | .lst _ => "list"
theorem call_isaD (K:PySem.W.Frag) {X:Cx} (hK:X.K = K:=by rfl):CallR X (.builtin "isinstance") (fun xs H Q=>∃ x d T b,xs = [x,.ty T]∧RepD K H x d∧isaT (tyD d) T = some b∧Q (.bl b) H):=by
 subst hK
 intro pins s σ H xs us Q I r h
 obtain ⟨x,d,T,b,rfl,hd,e,q⟩:=h
 cases r with
 | cons r1 rr =>
  cases rr with
  | cons r2 rr =>
   cases rr
   cases (show _ = Value.type T from r2)
   have e':∀ {t:String},tyD d = t→PySem.W.kitOne X.K (.type t) (.type T) = some b:=fun {t} z=>by rw [← z]; exact isaT_kit.trans e
   have fin:∀ tk,EP X pins σ Q (.bool b) { s with toks:=tk }:=fun tk=>⟨.bl b,H,I.tok tk,rfl,q⟩
   cases d with
   | non=>unfold RepD at hd; subst hd; exact isinst_ok I r1 .non (e' rfl) fin
   | bl y=>unfold RepD at hd; subst hd; exact isinst_ok I r1 (.bl y) (e' rfl) fin
   | int y=>unfold RepD at hd; subst hd; exact isinst_ok I r1 (.int y) (e' rfl) fin
   | str y=>unfold RepD at hd; subst hd; exact isinst_ok I r1 (.str y) (e' rfl) fin
   | tup ds =>
    unfold RepD at hd
    obtain ⟨a,vs,rfl,hq,_⟩:=hd
    cases r1
    obtain ⟨its,_,⟨o,h1,h2,_⟩,_⟩:=I.tuple hq.sq
    exact PySem.W.kia_one PySem.W.kitx_tuple I.kIn ⟨o,h1,h2⟩ (e' rfl) (fun z=>nomatch z) fin
   | lst ds =>
    unfold RepD at hd
    obtain ⟨a,vs,rfl,hq,_⟩:=hd
    cases r1
    obtain ⟨its,_,⟨o,n,h1,h2,_⟩,_⟩:=I.list (StL.sq hq)
    exact PySem.W.kia_one PySem.W.kitx_list I.kIn ⟨o,h1,h2⟩ (e' rfl) (fun z=>nomatch z) fin
def PairsAt (K:PySem.W.Frag) (H:Hp):List V→List (Nat × Nat)→Prop
 | [],[]=>True
 | v :: vs,p :: ps=>(∃ a,v = .ref a∧StT H a [.int (p.1:Nat),.int (p.2:Nat)])∧PairsAt K H vs ps
 | _,_=>False
section
variable {K:PySem.W.Frag} {H H':Hp}
def KeepT (K:PySem.W.Frag) (H H':Hp):Prop:=∀ a xs,StT H a xs→StT H' a xs
theorem KeepT.trans {H1:Hp} (a:KeepT K H H1) (b:KeepT K H1 H'):KeepT K H H':=fun x xs q=>b x xs (a x xs q)
theorem PairsAt.keep (k:KeepT K H H'):∀ {vs:List V} {ps:List (Nat × Nat)},PairsAt K H vs ps→PairsAt K H' vs ps
 | [],[],_=>trivial
 | v :: vs,p :: ps,⟨⟨a,e,h⟩,t⟩=>⟨⟨a,e,k _ _ h⟩,t.keep k⟩
 | [],_ :: _,h=>h.elim
 | _ :: _,[],h=>h.elim
theorem PairsAt.snoc {v:V} {p:Nat × Nat} (hv:∃ a,v = .ref a∧StT H a [.int (p.1:Nat),.int (p.2:Nat)]):∀ {vs:List V} {ps:List (Nat × Nat)},PairsAt K H vs ps→PairsAt K H (vs ++ [v]) (ps ++ [p])
 | [],[],_=>⟨hv,trivial⟩
 | _ :: _,_ :: _,⟨h,t⟩=>⟨h,t.snoc hv⟩
 | [],_ :: _,h=>h.elim
 | _ :: _,[],h=>h.elim
theorem PairsAt.length:∀ {vs:List V} {ps:List (Nat × Nat)},PairsAt K H vs ps→vs.length = ps.length
 | [],[],_=>rfl
 | _ :: _,_ :: _,⟨_,t⟩=>by rw [List.length_cons,List.length_cons,t.length]
 | [],_ :: _,h=>h.elim
 | _ :: _,[],h=>h.elim
theorem PairsAt.rep:∀ {vs:List V} {ps:List (Nat × Nat)},PairsAt K H vs ps→RepDs K H vs (ps.map pairD)
 | [],[],_=>RepDs.nil
 | v :: vs,p :: ps,⟨⟨a,e,h⟩,t⟩=>by
  refine RepDs.cons ?_ t.rep
  unfold RepD
  exact ⟨a,_,e,h,RepDs.cons (by unfold RepD; rfl) (RepDs.one (by unfold RepD; rfl))⟩
 | [],_ :: _,h=>h.elim
 | _ :: _,[],h=>h.elim
theorem Grow.keepT {t:Addr} {kvs:List (Key × V)} (g:Grow t H H') (ht:H t = some (.dK kvs)):KeepT K H H':=fun _ _ q=>g _ _ q (ne_of q ht (by intro z; cases z))
theorem Same.keepT (s:Same H H'):KeepT K H H':=fun _ _ q=>s _ _ q
end
theorem okJs_snoc:∀ {js:List (Nat × Nat)} {rows:List Nat} {p:Nat × Nat},okJs rows js→p.1 < p.2→p.2 < rows.length + js.length→(js.foldl stepRows rows).getD p.1 0 ≠ (js.foldl stepRows rows).getD p.2 0→okJs rows (js ++ [p])
 | [],rows,p,_,h1,h2,h3=>⟨h1,by simpa using h2,h3,trivial⟩
 | q :: r,rows,p,h,h1,h2,h3=>⟨h.1,h.2.1,h.2.2.1,okJs_snoc h.2.2.2 h1 (by rw [step_len]; simp at h2; omega) h3⟩
structure Mid (K:PySem.W.Frag) (t lr lj:Addr) (m:Nat) (js:List (Nat × Nat)) (H0 H:Hp):Prop where
 rows:H lr = some (.lst (natsV (js.foldl stepRows (ownRows m))))
 joins:∃ ps,H lj = some (.lst ps)∧PairsAt K H ps js
 ok:okJs (ownRows m) js
 gr:Grow t H0 H
 fr:H0 lr = none
 fj:H0 lj = none
 ne:lr ≠ lj
 td:∃ kvs,H t = some (.dK kvs)
theorem Mid.grow {K:PySem.W.Frag} {t lr lj:Addr} {m:Nat} {js:List (Nat × Nat)} {H0 H H':Hp} (M:Mid K t lr lj m js H0 H) (g:Grow t H H') (T:∃ kvs,H' t = some (.dK kvs)):Mid K t lr lj m js H0 H':=by
 obtain ⟨kvs,ht⟩:=M.td
 obtain ⟨ps,h1,h2⟩:=M.joins
 exact ⟨g _ _ M.rows (ne_of M.rows ht (by intro z; cases z)),⟨ps,g _ _ h1 (ne_of h1 ht (by intro z; cases z)),h2.keep (g.keepT ht)⟩,M.ok,M.gr.trans g,M.fr,M.fj,M.ne,T⟩
theorem Mid.len {K:PySem.W.Frag} {t lr lj:Addr} {m:Nat} {js:List (Nat × Nat)} {H0 H:Hp} (M:Mid K t lr lj m js H0 H):(natsV (js.foldl stepRows (ownRows m))).length = m + js.length:=by
 rw [List.length_map,fold_len,own_len]
inductive Sv where
 | un | vl (d:D) | ow (ds:List D) | tp (n:Nat) | dk (kvs:List (Key × D)) | dt (kvs:List (List Key × D)) | ex (C:Addr) (fs:Option (List (Str × D))) | sc (ns:List Int) | px (d:D) (C:Addr) (fs:Option (List (Str × D))) | xl (es:List (Addr × Option (List (Str × D))))
def Sv.own:Sv→Bool
 | .ow _=>true
 | .tp _=>true
 | .dk _=>true
 | .dt _=>true
 | _=>false
abbrev En:=List Sv
inductive R where
 | d (d:D) | o (i:Nat) | n (s:Sv) | t (n:String) | x (s:Sv)
abbrev R.f (ds:List D):R:=.n (.ow ds)
def gt:En→Nat→Sv
 | [],_=>.un
 | s :: _,0=>s
 | _ :: r,n + 1=>gt r n
def pt:En→Nat→Sv→En
 | [],_,_=>[]
 | _ :: r,0,s=>s :: r
 | x :: r,n + 1,s=>x :: pt r n s
theorem pt_len:∀ (ρ:En) (i:Nat) (s:Sv),(pt ρ i s).length = ρ.length
 | [],_,_=>rfl
 | _ :: _,0,_=>rfl
 | x :: r,n + 1,s=>by simp [pt,pt_len r n s]
theorem gt_pt_ne:∀ (ρ:En) (i j:Nat) (s:Sv),i ≠ j→gt (pt ρ i s) j = gt ρ j
 | [],_,_,_,_=>rfl
 | _ :: _,0,0,_,h=>absurd rfl h
 | _ :: _,0,j + 1,_,_=>rfl
 | x :: r,i + 1,0,s,_=>rfl
 | x :: r,i + 1,j + 1,s,h=>gt_pt_ne r i j s (by omega)
theorem gt_pt:∀ (ρ:En) (i:Nat) (s:Sv),i < ρ.length→gt (pt ρ i s) i = s
 | [],_,_,h=>by simp at h
 | _ :: _,0,_,_=>rfl
 | x :: r,i + 1,s,h=>gt_pt r i s (by simpa using h)
theorem gt_out:∀ (ρ:En) (i:Nat),ρ.length ≤ i→gt ρ i = .un
 | [],_,_=>rfl
 | x :: r,0,h=>by simp at h
 | x :: r,i + 1,h=>gt_out r i (by simpa using h)
theorem own_lt {ρ:En} {i:Nat} (h:(gt ρ i).own = true):i < ρ.length:=by
 rcases Nat.lt_or_ge i ρ.length with q | q
 ·exact q
 ·rw [gt_out ρ i q] at h; cases h
def owned (σ:St) (ρ:En) (a:Addr):Prop:=∃ i,(gt ρ i).own = true∧σ[i]? = some (some (.ref a))
open Classical in
noncomputable def hid (H:Hp) (S:Addr→Prop):Hp:=fun a=>if S a then none else H a
theorem hid_some {H:Hp} {S:Addr→Prop} {a:Addr} {o:HO}:hid H S a = some o↔¬ S a∧H a = some o:=by
 unfold hid
 split
 ·rename_i h; simp [h]
 ·rename_i h; simp [h]
theorem hid_of {H:Hp} {S:Addr→Prop} {a:Addr} {o:HO} (h:¬ S a) (e:H a = some o):hid H S a = some o:=hid_some.mpr ⟨h,e⟩
theorem hid_same {H H':Hp} {S S':Addr→Prop} (h:∀ a o,H a = some o→¬ S a→H' a = some o∧¬ S' a):Same (hid H S) (hid H' S'):=fun a o e=>by
 obtain ⟨n,e⟩:=hid_some.mp e
 obtain ⟨e',n'⟩:=h a o e n
 exact hid_of n' e'
theorem hid_sub {H:Hp} {S:Addr→Prop}:Same (hid H S) H:=fun a o e=>(hid_some.mp e).2
structure Fr where
 H0:Hp
 Z:Addr→Prop
 M:Addr→Prop
 I:Nat→Addr→Prop
 P:Nat→Addr→Prop
def Fr.pin (F:Fr) (i:Nat) (a:Addr):Prop:=F.I i a ∨ F.P i a
def hs (F:Fr) (σ:St) (ρ:En):Addr→Prop:=fun a=>F.Z a ∨ owned σ ρ a
def exP (e C:Addr) (od:Option Addr):Heap→Prop:=fun h=>∃ oe vs,h.get? e = some oe∧oe.cls = .ref C∧oe.dict = od∧oe.data = .fields vs
def exD (K:PySem.W.Frag) (Hh:Hp):Option (List (Str × D))→Option Addr→Prop
 | none,none=>True
 | some fs,some dx=>∃ ks,Hh dx = some (.xd ks)∧ks.map Prod.fst = fs.map Prod.fst∧RepDs K Hh (ks.map Prod.snd) (fs.map Prod.snd)
 | _,_=>False
theorem exD.same {K:PySem.W.Frag} {Hh Hh':Hp}:∀ {fs:Option (List (Str × D))} {od:Option Addr},exD K Hh fs od→Same Hh Hh'→exD K Hh' fs od
 | none,none,h,_=>h
 | some fs,some dx,⟨ks,h1,h2,h3⟩,g=>⟨ks,g _ _ h1,h2,h3.same g⟩
 | none,some _,h,_=>h.elim
 | some _,none,h,_=>h.elim
def Exs (K:PySem.W.Frag) (Hh:Hp):List V→List (Addr × Option (List (Str × D)))→Prop
 | [],[]=>True
 | x :: vs,c :: es=>(∃ e od,x = .ref e∧Hh e = some (.ext (exP e c.1 od))∧exD K Hh c.2 od)∧Exs K Hh vs es
 | _,_=>False
theorem Exs.same {K:PySem.W.Frag} {Hh Hh':Hp}:∀ {vs:List V} {es:List (Addr × Option (List (Str × D)))},Exs K Hh vs es→Same Hh Hh'→Exs K Hh' vs es
 | [],[],h,_=>h
 | x :: vs,c :: es,⟨⟨e,od,h1,h2,h3⟩,h4⟩,g=>⟨⟨e,od,h1,g _ _ h2,h3.same g⟩,Exs.same h4 g⟩
 | [],_ :: _,h,_=>h.elim
 | _ :: _,[],h,_=>h.elim
def SvOk (K:PySem.W.Frag) (Hh H:Hp) (v:Option (Option V)):Sv→Prop
 | .xl es=>∃ l vs,v = some (some (.ref l))∧Hh l = some (.lst vs)∧Exs K Hh vs es
 | .px d C fs=>∃ p x e od,v = some (some (.ref p))∧Hh p = some (.tup [x,.ref e])∧RepD K Hh x d∧Hh e = some (.ext (exP e C od))∧exD K Hh fs od
 | .sc ns=>∃ c,v = some (some (.ref c))∧SqL K Hh c (List.map V.int ns)
 | .ex C fs=>∃ e od,v = some (some (.ref e))∧Hh e = some (.ext (exP e C od))∧exD K Hh fs od
 | .un=>True
 | .vl d=>∃ x,v = some (some x)∧RepD K Hh x d
 | .ow ds=>∃ l vs,v = some (some (.ref l))∧H l = some (.lst vs)∧RepDs K Hh vs ds
 | .tp n=>∃ t c ns sp lf,v = some (some (.ref t))∧H t = some (.dK (tapeK c sp lf))∧SqL K Hh c (List.map V.int ns)∧0 ≤ sp∧sp ≤ n∧0 ≤ lf
 | .dk kvs=>∃ t ks,v = some (some (.ref t))∧H t = some (.dK ks)∧ks.map Prod.fst = kvs.map Prod.fst∧RepDs K Hh (ks.map Prod.snd) (kvs.map Prod.snd)
 | .dt kvs=>∃ t ks,v = some (some (.ref t))∧H t = some (.dT ks)∧ks.map Prod.fst = kvs.map Prod.fst∧RepDs K Hh (ks.map Prod.snd) (kvs.map Prod.snd)
theorem SvOk.keep {K:PySem.W.Frag} {Hh Hh' H H':Hp} {v:Option (Option V)} {s:Sv} (h:SvOk K Hh H v s) (g:Same Hh Hh') (k:∀ l o,s.own = true→v = some (some (.ref l))→H l = some o→H' l = some o):SvOk K Hh' H' v s:=by
 cases s with
 | un=>trivial
 | vl d=>obtain ⟨x,e,r⟩:=h; exact ⟨x,e,r.same g⟩
 | ow ds=>obtain ⟨l,vs,e,a,r⟩:=h; exact ⟨l,vs,e,k _ _ rfl e a,r.same g⟩
 | tp n=>obtain ⟨t,c,ns,sp,lf,e,a,b,r⟩:=h; exact ⟨t,c,ns,sp,lf,e,k _ _ rfl e a,g.seq b,r⟩
 | dk kvs=>obtain ⟨t,ks,e,a,b,r⟩:=h; exact ⟨t,ks,e,k _ _ rfl e a,b,r.same g⟩
 | dt kvs=>obtain ⟨t,ks,e,a,b,r⟩:=h; exact ⟨t,ks,e,k _ _ rfl e a,b,r.same g⟩
 | ex C fs=>obtain ⟨t,od,e,a,b⟩:=h; exact ⟨t,od,e,g _ _ a,b.same g⟩
 | sc ns=>obtain ⟨c,e,a⟩:=h; exact ⟨c,e,g.seq a⟩
 | px d C fs=>obtain ⟨p,x,e,od,a,b,c,d',e'⟩:=h; exact ⟨p,x,e,od,a,g _ _ b,c.same g,g _ _ d',e'.same g⟩
 | xl es=>obtain ⟨p,vs,a,b,c⟩:=h; exact ⟨p,vs,a,g _ _ b,c.same g⟩
theorem SvOk.alive {K:PySem.W.Frag} {Hh H:Hp} {v:Option (Option V)} {s:Sv} (h:SvOk K Hh H v s) (ho:s.own = true):∃ l o,v = some (some (.ref l))∧H l = some o:=by
 cases s with
 | un=>cases ho
 | vl d=>cases ho
 | ow ds=>obtain ⟨l,vs,e,a,r⟩:=h; exact ⟨l,_,e,a⟩
 | tp n=>obtain ⟨t,c,ns,sp,lf,e,a,b,r⟩:=h; exact ⟨t,_,e,a⟩
 | dk kvs=>obtain ⟨t,ks,e,a,b,r⟩:=h; exact ⟨t,_,e,a⟩
 | dt kvs=>obtain ⟨t,ks,e,a,b,r⟩:=h; exact ⟨t,_,e,a⟩
 | ex C fs=>cases ho
 | sc ns=>cases ho
 | px d C fs=>cases ho
 | xl es=>cases ho
def Nt (H:Hp) (a:Addr):Prop:=H a ≠ none∧∀ xs,H a ≠ some (.tup xs)
theorem nt_upd {H:Hp} {a l:Addr} {o:HO} (al:a ≠ l) (h:Nt H a):Nt (upd H l o) a:=by unfold Nt; rw [upd_ne al]; exact h
structure Rel (K:PySem.W.Frag) (F:Fr) (σ:St) (ρ:En) (H:Hp):Prop where
 len:σ.length = ρ.length
 fr:∀ a o,F.H0 a = some o→¬ F.M a→H a = some o
 zl:∀ a,F.Z a→Nt H a
 zo:∀ a,owned σ ρ a→¬ F.Z a
 ow:∀ i a,(gt ρ i).own = true→σ[i]? = some (some (.ref a))→(F.I i a∧F.M a) ∨ F.H0 a = none
 mi:∀ i a,F.pin i a→σ[i]? = some (some (.ref a))
 ml:∀ a,F.M a→F.H0 a ≠ none
 ma:∀ a,F.M a→H a ≠ none
 nd:∀ i j a,(gt ρ i).own = true→(gt ρ j).own = true→σ[i]? = some (some (.ref a))→σ[j]? = some (some (.ref a))→i = j
 sl:∀ i,SvOk K (hid H (hs F σ ρ)) H σ[i]? (gt ρ i)
structure Kp (σ:St) (ρ ρ':En) (H H':Hp):Prop where
 st:∀ a o,H a = some o→¬ owned σ ρ a→H' a = some o
 sb:∀ i,(gt ρ' i).own = true→(gt ρ i).own = true
theorem Kp.so {σ:St} {ρ ρ':En} {H H':Hp} (k:Kp σ ρ ρ' H H') {a:Addr} (h:owned σ ρ' a):owned σ ρ a:=by
 obtain ⟨i,hi,e⟩:=h
 exact ⟨i,k.sb i hi,e⟩
theorem Kp.refl {σ:St} {ρ:En} {H:Hp}:Kp σ ρ ρ H H:=⟨fun _ _ e _=>e,fun _ h=>h⟩
theorem Kp.trans {σ:St} {ρ ρ1 ρ2:En} {H H1 H2:Hp} (a:Kp σ ρ ρ1 H H1) (b:Kp σ ρ1 ρ2 H1 H2):Kp σ ρ ρ2 H H2 :=
 ⟨fun x o e n=>b.st x o (a.st x o e n) fun z=>n (a.so z),fun x z=>a.sb x (b.sb x z)⟩
theorem Kp.fresh {σ:St} {ρ:En} {H:Hp} {l:Addr} {o:HO} (h:H l = none):Kp σ ρ ρ H (upd H l o) :=
 ⟨fun a u e _=>by rw [upd_ne (ne_of_none e h)]; exact e,fun _ h=>h⟩
section
variable {K:PySem.W.Frag} {F:Fr} {σ:St} {ρ ρ':En} {H H':Hp}
theorem owned_alive (r:Rel K F σ ρ H) {a:Addr} (h:owned σ ρ a):H a ≠ none:=by
 obtain ⟨i,hi,e⟩:=h
 obtain ⟨l,o,e',h'⟩:=(r.sl i).alive hi
 rw [e] at e'; injection e' with e'; injection e' with e'; injection e' with e'
 rw [e',h']; exact fun z=>nomatch z
theorem hs_alive (r:Rel K F σ ρ H) {a:Addr} (h:hs F σ ρ a):H a ≠ none:=by
 rcases h with h | h
 ·exact (r.zl a h).1
 ·exact owned_alive r h
theorem SvOk.nt {K:PySem.W.Frag} {Hh H:Hp} {v:Option (Option V)} {s:Sv} (h:SvOk K Hh H v s) (ho:s.own = true):∃ l,v = some (some (.ref l))∧Nt H l:=by
 cases s with
 | un=>cases ho
 | vl d=>cases ho
 | ow ds=>obtain ⟨l,vs,e,a,r⟩:=h; exact ⟨l,e,by rw [a]; exact (fun z=>nomatch z),by rw [a]; exact fun _ z=>nomatch z⟩
 | tp n=>obtain ⟨l,c,ns,sp,lf,e,a,b,r⟩:=h; exact ⟨l,e,by rw [a]; exact (fun z=>nomatch z),by rw [a]; exact fun _ z=>nomatch z⟩
 | dk kvs=>obtain ⟨l,ks,e,a,b,r⟩:=h; exact ⟨l,e,by rw [a]; exact (fun z=>nomatch z),by rw [a]; exact fun _ z=>nomatch z⟩
 | dt kvs=>obtain ⟨l,ks,e,a,b,r⟩:=h; exact ⟨l,e,by rw [a]; exact (fun z=>nomatch z),by rw [a]; exact fun _ z=>nomatch z⟩
 | ex C fs=>cases ho
 | sc ns=>cases ho
 | px d C fs=>cases ho
 | xl es=>cases ho
theorem owned_nt (r:Rel K F σ ρ H) {a:Addr} (h:owned σ ρ a):Nt H a:=by
 obtain ⟨i,hi,e⟩:=h
 obtain ⟨l,e',h'⟩:=(r.sl i).nt hi
 rw [e] at e'; injection e' with e'; injection e' with e'; injection e' with e'
 rw [e']; exact h'
theorem hs_nt (r:Rel K F σ ρ H) {a:Addr} (h:hs F σ ρ a):Nt H a:=by
 rcases h with h | h
 ·exact r.zl a h
 ·exact owned_nt r h
theorem fresh_vis (r:Rel K F σ ρ H) {l:Addr} (h:H l = none):¬ hs F σ ρ l:=fun z=>hs_alive r z h
theorem fresh_H0 (r:Rel K F σ ρ H) {l:Addr} (h:H l = none):F.H0 l = none:=by
 cases h0:F.H0 l with
 | none=>rfl
 | some o =>
  by_cases q:F.M l
  ·exact absurd h (r.ma l q)
  ·have:=r.fr l o h0 q
   rw [h] at this; cases this
theorem Kp.vis (k:Kp σ ρ ρ' H H'):Same (hid H (hs F σ ρ)) (hid H' (hs F σ ρ')):=hid_same fun a o e n =>
 ⟨k.st a o e fun z=>n (.inr z),fun z=>by
  rcases z with z | z
  ·exact n (.inl z)
  ·exact n (.inr (k.so z))⟩
theorem grow_alive {a:Addr} (g:Same H H') (h:H a ≠ none):H' a ≠ none:=fun e=>by
 cases h':H a with
 | none=>exact h h'
 | some o=>rw [g a o h'] at e; cases e
theorem grow_nt {a:Addr} (g:Same H H') (h:Nt H a):Nt H' a:=by
 cases h':H a with
 | none=>exact (h.1 h').elim
 | some o =>
  have e:=g a o h'
  unfold Nt
  rw [e,← h']; exact h
theorem Rel.grow (r:Rel K F σ ρ H) (g:Same H H'):Rel K F σ ρ H' where
 len:=r.len
 fr:=fun a o e n=>g a o (r.fr a o e n)
 zl:=fun a z=>grow_nt g (r.zl a z)
 zo:=r.zo
 ow:=r.ow
 mi:=r.mi
 ml:=r.ml
 ma:=fun a z=>grow_alive g (r.ma a z)
 nd:=r.nd
 sl:=fun i=>(r.sl i).keep (hid_same fun a o e n=>⟨g a o e,n⟩) fun l o _ _ e=>g l o e
theorem Rel.fresh (r:Rel K F σ ρ H) {l:Addr} {o:HO} (h:H l = none):Rel K F σ ρ (upd H l o):=r.grow ((Same.refl H).new h)
theorem pt_out:∀ (ρ:En) (i:Nat) (s:Sv),ρ.length ≤ i→pt ρ i s = ρ
 | [],_,_,_=>rfl
 | x :: r,0,s,h=>by simp at h
 | x :: r,i + 1,s,h=>by simp [pt,pt_out r i s (by simpa using h)]
theorem own_set {i j:Nat} {s:Sv} (hs:s.own = false) (hj:(gt (pt ρ i s) j).own = true):i ≠ j∧(gt ρ j).own = true:=by
 by_cases ij:i = j
 ·subst ij
  rcases Nat.lt_or_ge i ρ.length with q | q
  ·rw [gt_pt ρ i s q,hs] at hj; cases hj
  ·rw [gt_out _ i (by rw [pt_len]; exact q)] at hj; cases hj
 ·rw [gt_pt_ne ρ i j s ij] at hj
  exact ⟨ij,hj⟩
theorem Rel.setS (r:Rel K F σ ρ H) {i:Nat} {v:V} {s:Sv} (hs':s.own = false) (hd:SvOk K (hid H (hs F σ ρ)) H (some (some v)) s) (hm:∀ a,¬ F.pin i a):Rel K F (σ.set i (some v)) (pt ρ i s) H:=by
 rcases Nat.lt_or_ge i ρ.length with hi | hi
 case inr =>
  rw [pt_out ρ i s hi,List.set_eq_of_length_le (by rw [r.len]; exact hi)]; exact r
 have sub:∀ a,owned (σ.set i (some v)) (pt ρ i s) a→owned σ ρ a:=fun a ⟨j,hj,e⟩=>by
  obtain ⟨ij,hj⟩:=own_set hs' hj
  rw [List.getElem?_set_ne ij] at e
  exact ⟨j,hj,e⟩
 have vis:Same (hid H (hs F σ ρ)) (hid H (hs F (σ.set i (some v)) (pt ρ i s))):=hid_same fun a o e n=>⟨e,fun z=>n (z.imp id (sub a))⟩
 refine ⟨by rw [List.length_set,pt_len,r.len],r.fr,r.zl,fun a h=>r.zo a (sub a h),fun j a hj e=>?_,fun j a h=>?_,r.ml,r.ma,fun j k a hj hk ej ek=>?_,fun j=>?_⟩
 ·obtain ⟨ij,hj⟩:=own_set hs' hj
  rw [List.getElem?_set_ne ij] at e
  exact r.ow j a hj e
 ·have:i ≠ j:=fun e=>hm a (e ▸ h)
  rw [List.getElem?_set_ne this]; exact r.mi j a h
 ·obtain ⟨nj,hj⟩:=own_set hs' hj
  obtain ⟨nk,hk⟩:=own_set hs' hk
  rw [List.getElem?_set_ne nj] at ej
  rw [List.getElem?_set_ne nk] at ek
  exact r.nd j k a hj hk ej ek
 ·by_cases ij:i = j
  ·subst ij
   rw [gt_pt ρ i _ hi,List.getElem?_set_self (by rw [r.len]; exact hi)]
   exact hd.keep vis fun l o ho=>by rw [hs'] at ho; cases ho
  ·rw [gt_pt_ne ρ i j _ ij,List.getElem?_set_ne ij]
   exact (r.sl j).keep vis fun l o _ _ e=>e
theorem Rel.set (r:Rel K F σ ρ H) {i:Nat} {v:V} {d:D} (hd:RepD K (hid H (hs F σ ρ)) v d) (hm:∀ a,¬ F.pin i a):Rel K F (σ.set i (some v)) (pt ρ i (.vl d)) H :=
 r.setS rfl ⟨v,rfl,hd⟩ hm
theorem Rel.setF (r:Rel K F σ ρ H) {i:Nat} {l:Addr} {o:HO} {s:Sv} (hs':s.own = true) (hd:SvOk K (hid H (hs F σ ρ)) (upd H l o) (some (some (.ref l))) s) (hn:H l = none) (hm:∀ a,¬ F.pin i a) :
  Rel K F (σ.set i (some (.ref l))) (pt ρ i s) (upd H l o):=by
 have rf:=r.fresh (o:=o) hn
 rcases Nat.lt_or_ge i ρ.length with hi | hi
 case inr =>
  rw [pt_out ρ i s hi,List.set_eq_of_length_le (by rw [r.len]; exact hi)]; exact rf
 have at1:∀ {a},(σ.set i (some (V.ref l)))[i]? = some (some (.ref a))→a = l:=fun e=>by
  rw [List.getElem?_set_self (by rw [r.len]; exact hi)] at e
  injection e with e; injection e with e; injection e with e
  exact e.symm
 have sub:∀ a,owned (σ.set i (some (.ref l))) (pt ρ i s) a→owned σ ρ a ∨ a = l:=fun a h=>by
  obtain ⟨j,hj,e⟩:=h
  by_cases ij:i = j
  ·subst ij; exact .inr (at1 e)
  ·rw [gt_pt_ne ρ i j _ ij] at hj
   rw [List.getElem?_set_ne ij] at e
   exact .inl ⟨j,hj,e⟩
 have vis:Same (hid H (hs F σ ρ)) (hid (upd H l o) (hs F (σ.set i (some (.ref l))) (pt ρ i s))):=hid_same fun a u e n=>by
  have al:=ne_of_none e hn
  refine ⟨by rw [upd_ne al]; exact e,fun z=>?_⟩
  rcases z with z | z
  ·exact n (.inl z)
  ·rcases sub a z with z | z
   ·exact n (.inr z)
   ·exact al z
 have nol:∀ j,(gt ρ j).own = true→σ[j]? ≠ some (some (.ref l)):=fun j hj e=>owned_alive r ⟨j,hj,e⟩ hn
 refine ⟨by rw [List.length_set,pt_len,r.len],rf.fr,rf.zl,fun a h=>?_,fun j a hj e=>?_,fun j a h=>?_,r.ml,rf.ma,fun j k a hj hk ej ek=>?_,fun j=>?_⟩
 ·rcases sub a h with h | h
  ·exact r.zo a h
  ·subst h; exact fun z=>(r.zl _ z).1 hn
 ·by_cases ij:i = j
  ·subst ij
   rw [at1 e]; exact .inr (fresh_H0 r hn)
  ·rw [gt_pt_ne ρ i j _ ij] at hj
   rw [List.getElem?_set_ne ij] at e
   exact r.ow j a hj e
 ·have:i ≠ j:=fun e=>hm a (e ▸ h)
  rw [List.getElem?_set_ne this]; exact r.mi j a h
 ·by_cases nj:i = j
  ·by_cases nk:i = k
   ·omega
   ·subst nj
    have:=at1 ej
    subst this
    rw [gt_pt_ne ρ i k _ nk] at hk
    rw [List.getElem?_set_ne nk] at ek
    exact absurd ek (nol k hk)
  ·rw [gt_pt_ne ρ i j _ nj] at hj
   rw [List.getElem?_set_ne nj] at ej
   by_cases nk:i = k
   ·subst nk
    have:=at1 ek
    subst this
    exact absurd ej (nol j hj)
   ·rw [gt_pt_ne ρ i k _ nk] at hk
    rw [List.getElem?_set_ne nk] at ek
    exact r.nd j k a hj hk ej ek
 ·by_cases ij:i = j
  ·subst ij
   rw [gt_pt ρ i _ hi,List.getElem?_set_self (by rw [r.len]; exact hi)]
   exact hd.keep vis fun _ _ _ _ e=>e
  ·rw [gt_pt_ne ρ i j _ ij,List.getElem?_set_ne ij]
   exact (r.sl j).keep vis fun a o ho e h=>by
    rw [upd_ne (ne_of_none h hn)]; exact h
theorem Rel.write (r:Rel K F σ ρ H) {i:Nat} {l:Addr} {o:HO} {s:Sv} (hi:(gt ρ i).own = true) (el:σ[i]? = some (some (.ref l))) (hs':s.own = true) (new:SvOk K (hid H (hs F σ ρ)) (upd H l o) (some (some (.ref l))) s):Rel K F σ (pt ρ i s) (upd H l o)∧Kp σ ρ (pt ρ i s) H (upd H l o):=by
 have lt:=own_lt hi
 have own':∀ j,(gt (pt ρ i s) j).own = true→(gt ρ j).own = true:=fun j h=>by
  by_cases ij:i = j
  ·subst ij; exact hi
  ·rw [gt_pt_ne ρ i j _ ij] at h; exact h
 have sub:∀ a,owned σ (pt ρ i s) a→owned σ ρ a:=fun a ⟨j,hj,e⟩=>⟨j,own' j hj,e⟩
 have hso:owned σ ρ l:=⟨i,hi,el⟩
 have vis:Same (hid H (hs F σ ρ)) (hid (upd H l o) (hs F σ (pt ρ i s))):=hid_same fun a u e n=>by
  have al:a ≠ l:=fun z=>n (.inr (z ▸ hso))
  exact ⟨by rw [upd_ne al]; exact e,fun z=>n (z.imp id (sub a))⟩
 have up:∀ {a},H a ≠ none→(upd H l o) a ≠ none:=fun {a} h e=>by
  by_cases al:a = l
  ·subst al; rw [upd_same] at e; cases e
  ·rw [upd_ne al] at e; exact h e
 refine ⟨⟨by rw [pt_len,r.len],fun a u e n=>?_,fun a z=>nt_upd (fun q=>r.zo l hso (q ▸ z)) (r.zl a z),fun a h=>r.zo a (sub a h),fun j a hj e=>r.ow j a (own' j hj) e,r.mi,r.ml,fun a z=>up (r.ma a z),fun j k a hj hk ej ek=>r.nd j k a (own' j hj) (own' k hk) ej ek,fun j=>?_⟩,⟨fun a u e n=>?_,own'⟩⟩
 ·have al:a ≠ l:=fun z=>by
   subst z
   rcases r.ow i _ hi el with ⟨_,q⟩ | q
   ·exact n q
   ·rw [e] at q; cases q
  rw [upd_ne al]; exact r.fr a u e n
 ·by_cases ij:i = j
  ·subst ij
   rw [gt_pt ρ i s lt,el]
   exact new.keep vis fun _ _ _ _ e=>e
  ·rw [gt_pt_ne ρ i j _ ij]
   refine (r.sl j).keep vis fun a u ho e h=>?_
   have al:a ≠ l:=fun z=>ij (r.nd i j l hi ho el (z ▸ e))
   rw [upd_ne al]; exact h
 ·have al:a ≠ l:=fun z=>n (z ▸ hso)
  rw [upd_ne al]; exact e
theorem Rel.frz (r:Rel K F σ ρ H) {i:Nat} {ds:List D} (hi:gt ρ i = .ow ds):∃ l,σ[i]? = some (some (.ref l))∧Rel K F σ (pt ρ i (.vl (.lst ds))) H∧Kp σ ρ (pt ρ i (.vl (.lst ds))) H H∧RepD K (hid H (hs F σ (pt ρ i (.vl (.lst ds))))) (.ref l) (.lst ds):=by
 have ho:(gt ρ i).own = true:=by rw [hi]; rfl
 have lt:=own_lt ho
 have q:=r.sl i
 rw [hi] at q
 obtain ⟨l,vs,el,hl,hd⟩:=q
 have own':∀ j,(gt (pt ρ i (.vl (.lst ds))) j).own = true→i ≠ j∧(gt ρ j).own = true:=fun j h=>own_set rfl h
 have sub:∀ a,owned σ (pt ρ i (.vl (.lst ds))) a→owned σ ρ a∧a ≠ l:=fun a ⟨j,hj,e⟩=>by
  obtain ⟨ij,hj⟩:=own' j hj
  exact ⟨⟨j,hj,e⟩,fun z=>ij (r.nd i j l ho hj el (z ▸ e))⟩
 have vis:Same (hid H (hs F σ ρ)) (hid H (hs F σ (pt ρ i (.vl (.lst ds))))):=hid_same fun a u e n=>⟨e,fun z=>n (z.imp id fun z=>(sub a z).1)⟩
 have vl:¬ hs F σ (pt ρ i (.vl (.lst ds))) l:=fun z=>by
  rcases z with z | z
  ·exact r.zo l ⟨i,ho,el⟩ z
  ·exact (sub l z).2 rfl
 have rd:RepD K (hid H (hs F σ (pt ρ i (.vl (.lst ds))))) (.ref l) (.lst ds):=by
  unfold RepD
  exact ⟨l,vs,rfl,hid_of vl hl,hd.same vis⟩
 refine ⟨l,el,⟨by rw [pt_len,r.len],r.fr,r.zl,fun a h=>r.zo a (sub a h).1,fun j a hj e=>r.ow j a (own' j hj).2 e,r.mi,r.ml,r.ma,fun j k a hj hk ej ek=>r.nd j k a (own' j hj).2 (own' k hk).2 ej ek,fun j=>?_⟩,⟨fun _ _ e _=>e,fun j h=>(own' j h).2⟩,rd⟩
 by_cases ij:i = j
 ·subst ij
  rw [gt_pt ρ i _ lt,el]
  exact ⟨_,rfl,rd⟩
 ·rw [gt_pt_ne ρ i j _ ij]
  exact (r.sl j).keep vis fun a u _ _ h=>h
end
def RelR (K:PySem.W.Frag) (F:Fr) (σ:St) (ρ:En) (v:V) (H:Hp):R→Prop
 | .d d=>Rel K F σ ρ H∧RepD K (hid H (hs F σ ρ)) v d
 | .o i=>Rel K F σ ρ H∧σ[i]? = some (some v)
 | .n s=>∃ Hb l o,Rel K F σ ρ Hb∧s.own = true∧SvOk K (hid Hb (hs F σ ρ)) (upd Hb l o) (some (some (.ref l))) s∧Hb l = none∧H = upd Hb l o∧v = .ref l
 | .t n=>Rel K F σ ρ H∧v = .ty n
 | .x s=>Rel K F σ ρ H∧s.own = false∧SvOk K (hid H (hs F σ ρ)) H (some (some v)) s
def Out (K:PySem.W.Frag) (F:Fr) (σ:St) (ρ:En) (H:Hp) (ρ':En) (v:V) (H':Hp):R→Prop
 | .d d=>Rel K F σ ρ' H'∧Kp σ ρ ρ' H H'∧RepD K (hid H' (hs F σ ρ')) v d
 | .o i=>Rel K F σ ρ' H'∧Kp σ ρ ρ' H H'∧σ[i]? = some (some v)
 | .n s=>∃ Hb l o,Rel K F σ ρ' Hb∧Kp σ ρ ρ' H Hb∧s.own = true∧SvOk K (hid Hb (hs F σ ρ')) (upd Hb l o) (some (some (.ref l))) s∧Hb l = none∧H' = upd Hb l o∧v = .ref l
 | .t n=>Rel K F σ ρ' H'∧Kp σ ρ ρ' H H'∧v = .ty n
 | .x s=>Rel K F σ ρ' H'∧Kp σ ρ ρ' H H'∧s.own = false∧SvOk K (hid H' (hs F σ ρ')) H' (some (some v)) s
def InF (K:PySem.W.Frag) (F:Fr) (σ:St) (ρ:En) (H:Hp) (v:V):R→Prop
 | .d d=>RepD K (hid H (hs F σ ρ)) v d
 | .o i=>σ[i]? = some (some v)
 | .n _=>True
 | .t n=>v = .ty n
 | .x s=>s.own = false∧SvOk K (hid H (hs F σ ρ)) H (some (some v)) s
def R.frz:R→R
 | .n (.ow ds)=>.d (.lst ds)
 | r=>r
inductive InFs (K:PySem.W.Frag) (F:Fr) (σ:St) (ρ:En) (H:Hp):List V→List R→Prop
 | nil:InFs K F σ ρ H [] []
 | cons {v:V} {r:R} {vs:List V} {rs:List R}:InF K F σ ρ H v r→InFs K F σ ρ H vs rs→InFs K F σ ρ H (v :: vs) (r :: rs)
def view (ρ:En):R→Option D
 | .d d=>some d
 | .o i=>(match gt ρ i with | .ow ds=>some (.lst ds) | .vl d=>some d | _=>none)
 | _=>none
section
variable {K:PySem.W.Frag} {F:Fr} {σ:St} {ρ ρ':En} {H H':Hp} {v:V} {r:R}
theorem InF.keep (h:InF K F σ ρ H v r) (k:Kp σ ρ ρ' H H'):InF K F σ ρ' H' v r:=by
 cases r with
 | d d=>exact RepD.same h k.vis
 | o i=>exact h
 | n s=>exact h
 | t n=>exact h
 | x s=>exact ⟨h.1,h.2.keep k.vis fun l o ho=>by rw [h.1] at ho; cases ho⟩
theorem InFs.keep {vs:List V} {rs:List R} (h:InFs K F σ ρ H vs rs) (k:Kp σ ρ ρ' H H'):InFs K F σ ρ' H' vs rs:=by
 induction h with
 | nil=>exact .nil
 | cons a _ ih=>exact .cons (a.keep k) ih
theorem Out.inF (h:Out K F σ ρ H ρ' v H' r):Rel K F σ ρ' H'∧Kp σ ρ ρ' H H'∧InF K F σ ρ' H' v r.frz:=by
 cases r with
 | d d=>exact ⟨h.1,h.2.1,h.2.2⟩
 | o i=>exact ⟨h.1,h.2.1,h.2.2⟩
 | t n=>exact ⟨h.1,h.2.1,h.2.2⟩
 | x s=>exact ⟨h.1,h.2.1,h.2.2⟩
 | n s =>
  obtain ⟨Hb,l,o,a,k0,hs',b,c,rfl,rfl⟩:=h
  have k:Kp σ ρ' ρ' Hb (upd Hb l o):=Kp.fresh c
  refine ⟨a.fresh c,k0.trans k,?_⟩
  cases s with
  | un=>trivial
  | vl d=>trivial
  | tp n=>trivial
  | dk n=>trivial
  | dt n=>trivial
  | ex n m=>trivial
  | sc n=>trivial
  | px n m k=>trivial
  | xl es=>trivial
  | ow ds =>
   obtain ⟨l',vs,e,h1,h2⟩:=b
   injection e with e; injection e with e; injection e with e; subst e
   show RepD K _ (.ref l) (.lst ds)
   unfold RepD
   exact ⟨l,vs,rfl,hid_of (fresh_vis a c) h1,h2.same k.vis⟩
theorem Out.rel (h:Out K F σ ρ H ρ' v H' r):RelR K F σ ρ' v H' r:=by
 cases r with
 | d d=>exact ⟨h.1,h.2.2⟩
 | o i=>exact ⟨h.1,h.2.2⟩
 | t n=>exact ⟨h.1,h.2.2⟩
 | x s=>exact ⟨h.1,h.2.2⟩
 | n s =>
  obtain ⟨Hb,l,o,a,k0,hs',b,c,e1,e2⟩:=h
  exact ⟨Hb,l,o,a,hs',b,c,e1,e2⟩
theorem Out.after {ρ1:En} {H1:Hp} (k:Kp σ ρ ρ1 H H1) (h:Out K F σ ρ1 H1 ρ' v H' r):Out K F σ ρ H ρ' v H' r:=by
 cases r with
 | d d=>exact ⟨h.1,k.trans h.2.1,h.2.2⟩
 | o i=>exact ⟨h.1,k.trans h.2.1,h.2.2⟩
 | t n=>exact ⟨h.1,k.trans h.2.1,h.2.2⟩
 | x s=>exact ⟨h.1,k.trans h.2.1,h.2.2⟩
 | n s =>
  obtain ⟨Hb,l,o,a,k0,hs',b,c,e1,e2⟩:=h
  exact ⟨Hb,l,o,a,k.trans k0,hs',b,c,e1,e2⟩
theorem view_rep {d:D} (a:Rel K F σ ρ H) (h:InF K F σ ρ H v r) (e:view ρ r = some d):RepD K H v d:=by
 cases r with
 | d d'=>injection e with e; subst e; exact RepD.same h hid_sub
 | t n=>cases e
 | x s=>cases e
 | n s=>cases e
 | o i =>
  have q:=a.sl i
  unfold view at e
  cases hg:gt ρ i with
  | un=>simp [hg] at e
  | tp n=>simp [hg] at e
  | dk n=>simp [hg] at e
  | dt n=>simp [hg] at e
  | ex n m=>simp [hg] at e
  | sc n=>simp [hg] at e
  | px n m k=>simp [hg] at e
  | xl es=>simp [hg] at e
  | vl d' =>
   simp [hg] at e
   subst e
   rw [hg] at q
   obtain ⟨x,e1,r1⟩:=q
   rw [show σ[i]? = _ from h] at e1
   injection e1 with e1; injection e1 with e1; subst e1
   exact r1.same hid_sub
  | ow ds =>
   simp [hg] at e
   subst e
   rw [hg] at q
   obtain ⟨l,vs,e1,r1,r2⟩:=q
   rw [show σ[i]? = _ from h] at e1
   injection e1 with e1; injection e1 with e1; subst e1
   unfold RepD
   exact ⟨l,vs,rfl,r1,r2.same hid_sub⟩
theorem view_lst {ds:List D} (a:Rel K F σ ρ H) (h:InF K F σ ρ H v r) (e:view ρ r = some (.lst ds)):∃ l vs,v = .ref l∧SqL K H l vs∧RepDs K (hid H (hs F σ ρ)) vs ds:=by
 cases r with
 | d d' =>
  injection e with e; subst e
  have h':RepD K _ v (.lst ds):=h
  unfold RepD at h'
  obtain ⟨l,vs,e,q,r⟩:=h'
  exact ⟨l,vs,e,hid_sub.seq (StL.sq q),r⟩
 | t n=>cases e
 | x s=>cases e
 | n s=>cases e
 | o i =>
  have q:=a.sl i
  unfold view at e
  cases hg:gt ρ i with
  | un=>simp [hg] at e
  | tp n=>simp [hg] at e
  | dk n=>simp [hg] at e
  | dt n=>simp [hg] at e
  | ex n m=>simp [hg] at e
  | sc n=>simp [hg] at e
  | px n m k=>simp [hg] at e
  | xl es=>simp [hg] at e
  | vl d' =>
   simp [hg] at e
   subst e
   rw [hg] at q
   obtain ⟨x,e1,r1⟩:=q
   rw [show σ[i]? = _ from h] at e1
   injection e1 with e1; injection e1 with e1; subst e1
   unfold RepD at r1
   obtain ⟨l,vs,e,q,r⟩:=r1
   exact ⟨l,vs,e,hid_sub.seq (StL.sq q),r⟩
  | ow ds =>
   simp [hg] at e
   subst e
   rw [hg] at q
   obtain ⟨l,vs,e1,r1,r2⟩:=q
   rw [show σ[i]? = _ from h] at e1
   injection e1 with e1; injection e1 with e1; subst e1
   exact ⟨l,vs,rfl,SqL.of r1,r2⟩
theorem view_tup {ds:List D} (a:Rel K F σ ρ H) (h:InF K F σ ρ H v r) (e:view ρ r = some (.tup ds)):∃ l vs,v = .ref l∧SqT K H l vs∧RepDs K (hid H (hs F σ ρ)) vs ds∧StT (hid H (hs F σ ρ)) l vs:=by
 have go:∀ {x:V},RepD K (hid H (hs F σ ρ)) x (.tup ds)→∃ l vs,x = .ref l∧SqT K H l vs∧RepDs K (hid H (hs F σ ρ)) vs ds∧StT (hid H (hs F σ ρ)) l vs:=fun h'=>by
  unfold RepD at h'
  obtain ⟨l,vs,e,q,r⟩:=h'
  exact ⟨l,vs,e,hid_sub.seqT q.sq,r,q⟩
 cases r with
 | d d'=>injection e with e; subst e; exact go h
 | t n=>cases e
 | x s=>cases e
 | n s=>cases e
 | o i =>
  have q:=a.sl i
  unfold view at e
  cases hg:gt ρ i with
  | un=>simp [hg] at e
  | tp n=>simp [hg] at e
  | dk n=>simp [hg] at e
  | dt n=>simp [hg] at e
  | ex n m=>simp [hg] at e
  | sc n=>simp [hg] at e
  | px n m k=>simp [hg] at e
  | xl es=>simp [hg] at e
  | ow ds'=>simp [hg] at e
  | vl d' =>
   simp [hg] at e
   subst e
   rw [hg] at q
   obtain ⟨x,e1,r1⟩:=q
   rw [show σ[i]? = _ from h] at e1
   injection e1 with e1; injection e1 with e1; subst e1
   exact go r1
end
abbrev Ko:=R→En→Prop
abbrev AE:=En→Ko→Prop
abbrev AT:=En→(Bool→En→Prop)→Prop
abbrev AA:=En→(List R→En→Prop)→Prop
structure AEnds where
 nx:En→Prop
 rt:R→En→Prop
 bk:En→Prop
 ct:En→Prop
abbrev AS:=AEnds→En→Prop
def Beh (K:PySem.W.Frag) (F:Fr) (σ:St) (ρ:En) (H:Hp) (q:Ko) (Q:VK):Prop:=∀ r ρ' v H',q r ρ'→Out K F σ ρ H ρ' v H' r→Q v H'
def TEok (K:PySem.W.Frag) (t:TE) (a:AE):Prop:=∀ F σ ρ H q Q,Rel K F σ ρ H→a ρ q→Beh K F σ ρ H q Q→t σ H Q
def TTok (K:PySem.W.Frag) (t:TT) (a:AT):Prop:=∀ F σ ρ H q Q,Rel K F σ ρ H→a ρ q→(∀ b ρ' H',q b ρ'→Rel K F σ ρ' H'→Kp σ ρ ρ' H H'→Q b H')→t σ H Q
def TAok (K:PySem.W.Frag) (t:TA) (a:AA):Prop:=∀ F σ ρ H q Q,Rel K F σ ρ H→a ρ q→(∀ rs ρ' vs H',q rs ρ'→Rel K F σ ρ' H'→InFs K F σ ρ' H' vs rs→Kp σ ρ ρ' H H'→Q vs H')→t σ H Q
def OpOk (K:PySem.W.Frag) (r:R2) (g:R→R→AE):Prop:=∀ F σ ρ H x y r1 r2 q Q,Rel K F σ ρ H→InF K F σ ρ H x r1→InF K F σ ρ H y r2→g r1 r2 ρ q→Beh K F σ ρ H q Q→r x y H Q
def CbOk (K:PySem.W.Frag) (r:List V→Hp→VK→Prop) (g:List R→AE):Prop:=∀ F σ ρ H vs rs q Q,Rel K F σ ρ H→InFs K F σ ρ H vs rs→g rs ρ q→Beh K F σ ρ H q Q→r vs H Q
section
variable {K:PySem.W.Frag} {F:Fr} {σ:St} {ρ ρ':En} {H H':Hp} {v:V} {r:R} {q:Ko} {Q:VK}
theorem Beh.dat (b:Beh K F σ ρ H q Q) (a:Rel K F σ ρ H) {d:D} (hq:q (.d d) ρ) (h:RepD K (hid H (hs F σ ρ)) v d):Q v H:=b (.d d) ρ v H hq ⟨a,.refl,h⟩
theorem Beh.int (b:Beh K F σ ρ H q Q) (a:Rel K F σ ρ H) {i:Int} (hq:q (.d (.int i)) ρ):Q (.int i) H:=b.dat a hq (by unfold RepD; rfl)
theorem Beh.bl (b:Beh K F σ ρ H q Q) (a:Rel K F σ ρ H) {i:Bool} (hq:q (.d (.bl i)) ρ):Q (.bl i) H:=b.dat a hq (by unfold RepD; rfl)
theorem Beh.non (b:Beh K F σ ρ H q Q) (a:Rel K F σ ρ H) (hq:q (.d .non) ρ):Q .non H:=b.dat a hq (by unfold RepD; rfl)
theorem Beh.str (b:Beh K F σ ρ H q Q) (a:Rel K F σ ρ H) {x:Str} (hq:q (.d (.str x)) ρ):Q (.str x) H:=b.dat a hq (by unfold RepD; rfl)
theorem Beh.new (b:Beh K F σ ρ H q Q) (a:Rel K F σ ρ H) {ds:List D} {vs:List V} {l:Addr} (hq:q (.f ds) ρ) (hd:RepDs K (hid H (hs F σ ρ)) vs ds) (hl:H l = none):Q (.ref l) (upd H l (.lst vs)) :=
 b (.f ds) ρ _ _ hq ⟨H,l,_,a,.refl,rfl,⟨l,vs,rfl,upd_same,hd⟩,hl,rfl,rfl⟩
theorem Beh.newT (b:Beh K F σ ρ H q Q) (a:Rel K F σ ρ H) {ds:List D} {vs:List V} {l:Addr} (hq:q (.d (.tup ds)) ρ) (hd:RepDs K (hid H (hs F σ ρ)) vs ds) (hl:H l = none):Q (.ref l) (upd H l (.tup vs)):=by
 have k:Kp σ ρ ρ H (upd H l (.tup vs)):=Kp.fresh hl
 refine b (.d (.tup ds)) ρ _ _ hq ⟨a.fresh hl,k,?_⟩
 unfold RepD
 exact ⟨l,vs,rfl,(hid_of (fresh_vis a hl) upd_same),hd.same k.vis⟩
theorem Beh.after {ρ1:En} {H1:Hp} (b:Beh K F σ ρ H q Q) (k:Kp σ ρ ρ1 H H1):Beh K F σ ρ1 H1 q Q:=fun r ρ' v H' hq h=>b r ρ' v H' hq (.after k h)
def aVar (i:Nat):AE:=fun ρ q=>match gt ρ i with
 | .un=>False
 | .vl d=>q (.d d) ρ
 | .ow _=>q (.o i) ρ
 | .tp _=>q (.o i) ρ
 | .dk _=>q (.o i) ρ
 | .dt _=>q (.o i) ρ
 | .ex _ _=>q (.o i) ρ
 | .sc _=>q (.o i) ρ
 | .px _ _ _=>q (.o i) ρ
 | .xl _=>q (.o i) ρ
theorem tok_var {i:Nat}:TEok K (tVar i) (aVar i):=by
 intro F σ ρ H q Q a h b
 have s:=a.sl i
 unfold aVar at h
 cases hg:gt ρ i with
 | un=>rw [hg] at h; exact h.elim
 | vl d =>
  rw [hg] at h s
  obtain ⟨x,e,r⟩:=s
  exact ⟨x,e,b _ _ _ _ h ⟨a,.refl,r⟩⟩
 | ow ds =>
  rw [hg] at h s
  obtain ⟨l,vs,e,_⟩:=s
  exact ⟨_,e,b _ _ _ _ h ⟨a,.refl,e⟩⟩
 | tp n =>
  rw [hg] at h s
  obtain ⟨l,c,ns,sp,lf,e,_⟩:=s
  exact ⟨_,e,b _ _ _ _ h ⟨a,.refl,e⟩⟩
 | dk kvs =>
  rw [hg] at h s
  obtain ⟨l,ks,e,_⟩:=s
  exact ⟨_,e,b _ _ _ _ h ⟨a,.refl,e⟩⟩
 | dt kvs =>
  rw [hg] at h s
  obtain ⟨l,ks,e,_⟩:=s
  exact ⟨_,e,b _ _ _ _ h ⟨a,.refl,e⟩⟩
 | ex C fs =>
  rw [hg] at h s
  obtain ⟨l,ks,e,_⟩:=s
  exact ⟨_,e,b _ _ _ _ h ⟨a,.refl,e⟩⟩
 | sc ns =>
  rw [hg] at h s
  obtain ⟨l,e,_⟩:=s
  exact ⟨_,e,b _ _ _ _ h ⟨a,.refl,e⟩⟩
 | xl es =>
  rw [hg] at h s
  obtain ⟨l,ks,e,_⟩:=s
  exact ⟨_,e,b _ _ _ _ h ⟨a,.refl,e⟩⟩
 | px d C fs =>
  rw [hg] at h s
  obtain ⟨l,x,e',od,e,_⟩:=s
  exact ⟨_,e,b _ _ _ _ h ⟨a,.refl,e⟩⟩
def aC (r:R):AE:=fun ρ q=>q r ρ
theorem tok_int {i:Int}:TEok K (tC (.int i)) (aC (.d (.int i))):=fun _ _ _ _ _ _ a h b=>b.int a h
theorem tok_bl {i:Bool}:TEok K (tC (.bl i)) (aC (.d (.bl i))):=fun _ _ _ _ _ _ a h b=>b.bl a h
theorem tok_ty {n:String}:TEok K (tC (.ty n)) (aC (.t n)):=fun _ _ _ _ _ _ a h b=>b _ _ _ _ h ⟨a,.refl,rfl⟩
def aOp (g:R→R→AE) (a b:AE):AE:=fun ρ q=>a ρ fun r1 ρ1=>b ρ1 fun r2 ρ2=>g r1.frz r2.frz ρ2 q
variable {t t' ta tb tc:TE} {a b c:AE} {rr:R2} {g:R→R→AE}
theorem tok_op (ho:OpOk K rr g) (ha:TEok K ta a) (hb:TEok K tb b):TEok K (tOp rr ta tb) (aOp g a b):=by
 intro F σ ρ H q Q r h k
 refine ha F σ ρ H _ _ r h fun r1 ρ1 x H1 h1 rel1=>?_
 obtain ⟨r',k1,i1⟩:=rel1.inF
 refine hb F σ ρ1 H1 _ _ r' h1 fun r2 ρ2 y H2 h2 rel2=>?_
 obtain ⟨r'',k2,i2⟩:=rel2.inF
 exact ho F σ ρ2 H2 x y _ _ q Q r'' (i1.keep k2) i2 h2 (k.after (k1.trans k2))
def gI (C:Int→Int→Prop) (f:Int→Int→D):R→R→AE:=fun r1 r2 ρ q=>match r1,r2 with
 | .d (.int i),.d (.int j)=>C i j∧q (.d (f i j)) ρ
 | _,_=>False
theorem gI_inv {C:Int→Int→Prop} {f:Int→Int→D} {r1 r2:R} (h:gI C f r1 r2 ρ q):∃ i j,r1 = .d (.int i)∧r2 = .d (.int j)∧C i j∧q (.d (f i j)) ρ:=by
 unfold gI at h
 split at h
 ·exact ⟨_,_,rfl,rfl,h⟩
 ·exact h.elim
theorem InF.int {i:Int} (h:InF K F σ ρ H v (.d (.int i))):v = .int i:=by
 unfold InF RepD at h; exact h
theorem InF.blv {i:Bool} (h:InF K F σ ρ H v (.d (.bl i))):v = .bl i:=by
 unfold InF RepD at h; exact h
theorem ook_int {C:Int→Int→Prop} {f:Int→Int→Int}:OpOk K (rI C fun i j=>.int (f i j)) (gI C fun i j=>.int (f i j)):=by
 intro F σ ρ H x y r1 r2 q Q a h1 h2 h b
 obtain ⟨i,j,rfl,rfl,c,h⟩:=gI_inv h
 exact ⟨i,j,h1.int,h2.int,c,b.int a h⟩
def gI0 (f:Int→Int→D):R→R→AE:=fun r1 r2 ρ q=>match r1,r2 with
 | .d (.int i),.d (.int j)=>q (.d (f i j)) ρ
 | _,_=>False
theorem gI0_inv {f:Int→Int→D} {r1 r2:R} (h:gI0 f r1 r2 ρ q):∃ i j,r1 = .d (.int i)∧r2 = .d (.int j)∧q (.d (f i j)) ρ:=by
 unfold gI0 at h
 split at h
 ·exact ⟨_,_,rfl,rfl,h⟩
 ·exact h.elim
theorem ook_int0 {f:Int→Int→Int}:OpOk K (rI0 fun i j=>.int (f i j)) (gI0 fun i j=>.int (f i j)):=by
 intro F σ ρ H x y r1 r2 q Q a h1 h2 h b
 obtain ⟨i,j,rfl,rfl,h⟩:=gI0_inv h
 exact ⟨i,j,h1.int,h2.int,b.int a h⟩
theorem ook_bl0 {f:Int→Int→Bool}:OpOk K (rI0 fun i j=>.bl (f i j)) (gI0 fun i j=>.bl (f i j)):=by
 intro F σ ρ H x y r1 r2 q Q a h1 h2 h b
 obtain ⟨i,j,rfl,rfl,h⟩:=gI0_inv h
 exact ⟨i,j,h1.int,h2.int,b.bl a h⟩
@[irreducible] def gEq (neg:Bool):R→R→AE:=fun r1 r2 ρ q=>match view ρ r1,view ρ r2 with
 | some d,some e=>d.depth ≤ 60∧q (.d (.bl (if neg then !eqD d e else eqD d e))) ρ
 | _,_=>False
theorem gEq_inv {neg:Bool} {r1 r2:R} (h:gEq neg r1 r2 ρ q):∃ d e,view ρ r1 = some d∧view ρ r2 = some e∧d.depth ≤ 60∧q (.d (.bl (if neg then !eqD d e else eqD d e))) ρ:=by
 unfold gEq at h
 split at h
 ·rename_i d e h1 h2; exact ⟨d,e,h1,h2,h⟩
 ·exact h.elim
theorem ook_eq:OpOk K (rEqD K) (gEq false):=by
 intro F σ ρ H x y r1 r2 q Q a h1 h2 h b
 obtain ⟨d,e,e1,e2,c,h⟩:=gEq_inv h
 exact ⟨d,e,view_rep a h1 e1,view_rep a h2 e2,c,b.bl a h⟩
theorem ook_ne:OpOk K (rNeD K) (gEq true):=by
 intro F σ ρ H x y r1 r2 q Q a h1 h2 h b
 obtain ⟨d,e,e1,e2,c,h⟩:=gEq_inv h
 exact ⟨d,e,view_rep a h1 e1,view_rep a h2 e2,c,b.bl a h⟩
@[irreducible] def gIx:R→R→AE:=fun r1 r2 ρ q=>match view ρ r1,r2 with
 | some (.lst ds),.d (.int i)=>(match atI ds i with | some d=>q (.d d) ρ | none=>False)
 | some (.tup ds),.d (.int i)=>(match atI ds i with | some d=>q (.d d) ρ | none=>False)
 | _,_=>False
theorem atI_rep {Hh:Hp} {vs:List V} {ds:List D} {i:Int} {d:D} (h:RepDs K Hh vs ds) (e:atI ds i = some d):∃ v,atI vs i = some v∧RepD K Hh v d:=by
 unfold atI at e ⊢
 rw [h.length]
 cases hx:ixN ds.length i with
 | none=>rw [hx] at e; cases e
 | some j =>
  rw [hx] at e
  exact h.get e
theorem ook_ix:OpOk K (rIx K) gIx:=by
 intro F σ ρ H x y r1 r2 q Q a h1 h2 h b
 unfold gIx at h
 split at h
 ·rename_i ds i e1
  split at h
  ·rename_i d e
   obtain ⟨l,vs,rfl,sq,rd⟩:=view_lst a h1 e1
   obtain ⟨v,e2,rv⟩:=atI_rep rd e
   exact .inl ⟨l,vs,i,v,rfl,h2.int,sq,e2,b.dat a h rv⟩
  ·exact h.elim
 ·rename_i ds i e1
  split at h
  ·rename_i d e
   obtain ⟨l,vs,rfl,sq,rd,_⟩:=view_tup a h1 e1
   obtain ⟨v,e2,rv⟩:=atI_rep rd e
   exact .inr (.inl ⟨l,vs,i,v,rfl,h2.int,sq,e2,b.dat a h rv⟩)
  ·exact h.elim
 ·exact h.elim
def aAndV (a b:AE):AE:=fun ρ q=>a ρ fun r ρ1=>match r with
 | .d (.bl c)=>if c = true then b ρ1 q else q (.d (.bl false)) ρ1
 | _=>False
def aNotV (a:AE):AE:=fun ρ q=>a ρ fun r ρ1=>match r with
 | .d (.bl c)=>q (.d (.bl (!c))) ρ1
 | _=>False
theorem tok_andV (ha:TEok K ta a) (hb:TEok K tb b):TEok K (tAndV ta tb) (aAndV a b):=by
 intro F σ ρ H q Q r h k
 refine ha F σ ρ H _ _ r h fun r1 ρ1 x H1 h1 rel1=>?_
 split at h1
 ·rename_i c
  obtain ⟨r',k1,i1⟩:=rel1.inF
  refine ⟨c,i1.blv,?_⟩
  cases c with
  | true=>exact hb F σ ρ1 H1 q Q r' h1 (k.after k1)
  | false=>exact (k.after k1).bl r' h1
 ·exact h1.elim
theorem tok_notV (ha:TEok K ta a):TEok K (tNotV ta) (aNotV a):=by
 intro F σ ρ H q Q r h k
 refine ha F σ ρ H _ _ r h fun r1 ρ1 x H1 h1 rel1=>?_
 split at h1
 ·rename_i c
  obtain ⟨r',k1,i1⟩:=rel1.inF
  exact ⟨c,i1.blv,(k.after k1).bl r' h1⟩
 ·exact h1.elim
variable {tt tu:TT} {at' au:AT}
def aB (a:AE):AT:=fun ρ q=>a ρ fun r ρ1=>match r with
 | .d (.bl c)=>q c ρ1
 | _=>False
theorem ttok_B (ha:TEok K ta a):TTok K (tB ta) (aB a):=by
 intro F σ ρ H q Q r h k
 refine ha F σ ρ H _ _ r h fun r1 ρ1 x H1 h1 rel1=>?_
 split at h1
 ·rename_i c
  obtain ⟨r',k1,i1⟩:=rel1.inF
  exact ⟨c,i1.blv,k _ _ _ h1 r' k1⟩
 ·exact h1.elim
theorem ttok_test (ha:TEok K ta a):TTok K (tTest ta) (aB a):=ttok_B ha
def aOr (a b:AT):AT:=fun ρ q=>a ρ fun c ρ1=>if c = true then q true ρ1 else b ρ1 q
def aNot (a:AT):AT:=fun ρ q=>a ρ fun c ρ1=>q (!c) ρ1
theorem ttok_or (ha:TTok K tt at') (hb:TTok K tu au):TTok K (tOr tt tu) (aOr at' au):=by
 intro F σ ρ H q Q r h k
 refine ha F σ ρ H _ _ r h fun c ρ1 H1 h1 r1 k1=>?_
 cases c with
 | true=>exact k _ _ _ h1 r1 k1
 | false=>exact hb F σ ρ1 H1 q Q r1 h1 fun b ρ2 H2 h2 r2 k2=>k _ _ _ h2 r2 (k1.trans k2)
theorem ttok_not (ha:TTok K tt at'):TTok K (tNot tt) (aNot at'):=fun F σ ρ H q Q r h k=>ha F σ ρ H _ _ r h fun c ρ1 H1 h1 r1 k1=>k _ _ _ h1 r1 k1
variable {ts:TA} {as:AA}
def aNil:AA:=fun ρ q=>q [] ρ
def aCons (a:AE) (as:AA):AA:=fun ρ q=>a ρ fun r ρ1=>as ρ1 fun rs ρ2=>q (r.frz :: rs) ρ2
theorem taok_nil:TAok K tNil aNil:=fun F σ ρ H q Q r h k=>k _ _ _ _ h r .nil .refl
theorem taok_cons (ha:TEok K ta a) (hs:TAok K ts as):TAok K (tCons ta ts) (aCons a as):=by
 intro F σ ρ H q Q r h k
 refine ha F σ ρ H _ _ r h fun r1 ρ1 x H1 h1 rel1=>?_
 obtain ⟨r',k1,i1⟩:=rel1.inF
 refine hs F σ ρ1 H1 _ _ r' h1 fun rs ρ2 vs H2 h2 r2 i2 k2=>?_
 exact k _ _ _ _ h2 r2 (.cons (i1.keep k2) i2) (k1.trans k2)
def sto:List R→En→(List D→En→Prop)→Prop
 | [],ρ,q=>q [] ρ
 | .d d :: rs,ρ,q=>sto rs ρ fun ds ρ'=>q (d :: ds) ρ'
 | .o i :: rs,ρ,q=>(match gt ρ i with
  | .ow ds=>sto rs (pt ρ i (.vl (.lst ds))) fun es ρ'=>q (.lst ds :: es) ρ'
  | .vl d=>sto rs ρ fun es ρ'=>q (d :: es) ρ'
  | _=>False)
 | _ :: _,_,_=>False
theorem sto_ok:∀ {vs:List V} {rs:List R} {ρ:En} {q:List D→En→Prop},Rel K F σ ρ H→InFs K F σ ρ H vs rs→sto rs ρ q→∃ ds ρ',q ds ρ'∧Rel K F σ ρ' H∧Kp σ ρ ρ' H H∧RepDs K (hid H (hs F σ ρ')) vs ds
 | _,_,ρ,q,r,.nil,h=>⟨[],ρ,h,r,.refl,.nil⟩
 | _,_,ρ,q,r,.cons (v:=v) (r:=rr) (vs:=vs) (rs:=rs) a t,h=>by
  cases rr with
  | n s=>exact h.elim
  | t n=>exact h.elim
  | x s=>exact h.elim
  | d d =>
   obtain ⟨ds,ρ',hq,r',k,rd⟩:=sto_ok r t (show sto rs ρ _ from h)
   exact ⟨d :: ds,ρ',hq,r',k,.cons (RepD.same a k.vis) rd⟩
  | o i =>
   have s:=r.sl i
   unfold sto at h
   cases hg:gt ρ i with
   | un=>rw [hg] at h; exact h.elim
   | tp n=>rw [hg] at h; exact h.elim
   | dk n=>rw [hg] at h; exact h.elim
   | dt n=>rw [hg] at h; exact h.elim
   | ex n m=>rw [hg] at h; exact h.elim
   | sc n=>rw [hg] at h; exact h.elim
   | px n m k=>rw [hg] at h; exact h.elim
   | xl es=>rw [hg] at h; exact h.elim
   | vl d =>
    rw [hg] at h s
    obtain ⟨x,e,rd1⟩:=s
    rw [show σ[i]? = _ from a] at e
    injection e with e; injection e with e; subst e
    obtain ⟨ds,ρ',hq,r',k,rd⟩:=sto_ok r t h
    exact ⟨d :: ds,ρ',hq,r',k,.cons (rd1.same k.vis) rd⟩
   | ow ds =>
    rw [hg] at h
    obtain ⟨l,e,r1,k1,rd1⟩:=r.frz hg
    rw [show σ[i]? = _ from a] at e
    injection e with e; injection e with e; subst e
    obtain ⟨es,ρ',hq,r',k,rd⟩:=sto_ok r1 (t.keep k1) h
    exact ⟨_,ρ',hq,r',k1.trans k,.cons (rd1.same k.vis) rd⟩
theorem small {n:Nat} (h:n ≤ 1000000):n ≤ sizeLine:=by unfold sizeLine; omega
theorem smallS {n:Nat} (h:n ≤ 1000000):n < sizeLine:=by unfold sizeLine; omega
def aTup (as:AA):AE:=fun ρ q=>as ρ fun rs ρ1=>sto rs ρ1 fun ds ρ2=>ds.length ≤ 1000000∧q (.d (.tup ds)) ρ2
def aLst (as:AA):AE:=fun ρ q=>as ρ fun rs ρ1=>sto rs ρ1 fun ds ρ2=>ds.length ≤ 1000000∧q (.f ds) ρ2
theorem tok_tup (hs:TAok K ts as):TEok K (tTup ts) (aTup as):=by
 intro F σ ρ H q Q r h k
 refine hs F σ ρ H _ _ r h fun rs ρ1 vs H1 h1 r1 i1 k1=>?_
 obtain ⟨ds,ρ2,⟨hz,hq⟩,r2,k2,rd⟩:=sto_ok r1 i1 h1
 exact ⟨small (by rw [rd.length]; exact hz),fun p hp=>((k.after k1).after k2).newT r2 hq rd hp⟩
theorem tok_lst (hs:TAok K ts as):TEok K (tLst ts) (aLst as):=by
 intro F σ ρ H q Q r h k
 refine hs F σ ρ H _ _ r h fun rs ρ1 vs H1 h1 r1 i1 k1=>?_
 obtain ⟨ds,ρ2,⟨hz,hq⟩,r2,k2,rd⟩:=sto_ok r1 i1 h1
 exact ⟨small (by rw [rd.length]; exact hz),fun p hp=>((k.after k1).after k2).new r2 hq rd hp⟩
def aCB (g:List R→AE) (as:AA):AE:=fun ρ q=>as ρ fun rs ρ1=>g rs ρ1 q
theorem tok_cb {rb:List V→Hp→VK→Prop} {g:List R→AE} (hb:CbOk K rb g) (hs:TAok K ts as):TEok K (tCB rb ts) (aCB g as):=by
 intro F σ ρ H q Q r h k
 exact hs F σ ρ H _ _ r h fun rs ρ1 vs H1 h1 r1 i1 k1=>hb F σ ρ1 H1 vs rs q Q r1 i1 h1 (k.after k1)
theorem InFs.one {vs:List V} {r1:R} (h:InFs K F σ ρ H vs [r1]):∃ x,vs = [x]∧InF K F σ ρ H x r1:=by
 cases h with | cons a t=>cases t; exact ⟨_,rfl,a⟩
theorem InFs.two {vs:List V} {r1 r2:R} (h:InFs K F σ ρ H vs [r1,r2]):∃ x y,vs = [x,y]∧InF K F σ ρ H x r1∧InF K F σ ρ H y r2:=by
 cases h with | cons a t=>obtain ⟨y,rfl,b⟩:=t.one; exact ⟨_,_,rfl,a,b⟩
def gLen:List R→AE:=fun rs ρ q=>match rs with
 | [r]=>(match view ρ r with
  | some (.lst ds)=>q (.d (.int ds.length)) ρ
  | some (.tup ds)=>q (.d (.int ds.length)) ρ
  | _=>False)
 | _=>False
theorem cbok_len:CbOk K (fun xs H Q=>∃ p ys,xs = [.ref p]∧(SqL K H p ys ∨ SqT K H p ys)∧Q (.int ys.length) H) gLen:=by
 intro F σ ρ H vs rs q Q a i h b
 unfold gLen at h
 split at h
 ·obtain ⟨x,rfl,i1⟩:=i.one
  split at h
  ·rename_i ds e
   obtain ⟨l,vs,rfl,sq,rd⟩:=view_lst a i1 e
   exact ⟨l,vs,rfl,.inl sq,by rw [rd.length]; exact b.int a h⟩
  ·rename_i ds e
   obtain ⟨l,vs,rfl,sq,rd,_⟩:=view_tup a i1 e
   exact ⟨l,vs,rfl,.inr sq,by rw [rd.length]; exact b.int a h⟩
  ·exact h.elim
 ·exact h.elim
@[irreducible] def gIsa:List R→AE:=fun rs ρ q=>match rs with
 | [r,.t n]=>(match view ρ r with
  | some d=>(match isaT (tyD d) n with | some b=>q (.d (.bl b)) ρ | none=>False)
  | none=>False)
 | _=>False
theorem cbok_isa:CbOk K (fun xs H Q=>∃ x d T b,xs = [x,.ty T]∧RepD K H x d∧isaT (tyD d) T = some b∧Q (.bl b) H) gIsa:=by
 intro F σ ρ H vs rs q Q a i h b
 unfold gIsa at h
 split at h
 ·obtain ⟨x,y,rfl,i1,j1⟩:=i.two
  split at h
  ·rename_i d e
   split at h
   ·rename_i b' e'
    exact ⟨x,d,_,b',by rw [show y = _ from j1],view_rep a i1 e,e',b.bl a h⟩
   ·exact h.elim
  ·exact h.elim
 ·exact h.elim
def gList:List R→AE:=fun rs ρ q=>match rs with
 | [r]=>(match view ρ r with
  | some (.lst ds)=>q (.f ds) ρ
  | some (.tup ds)=>q (.f ds) ρ
  | _=>False)
 | _=>False
theorem cbok_list:CbOk K (fun xs H Q=>∃ p ys,xs = [.ref p]∧(SqL K H p ys ∨ SqT K H p ys)∧∀ l,H l = none→Q (.ref l) (upd H l (.lst ys))) gList:=by
 intro F σ ρ H vs rs q Q a i h b
 unfold gList at h
 split at h
 ·obtain ⟨x,rfl,i1⟩:=i.one
  split at h
  ·rename_i ds e
   obtain ⟨l,vs,rfl,sq,rd⟩:=view_lst a i1 e
   exact ⟨l,vs,rfl,.inl sq,fun p hp=>b.new a h rd hp⟩
  ·rename_i ds e
   obtain ⟨l,vs,rfl,sq,rd,_⟩:=view_tup a i1 e
   exact ⟨l,vs,rfl,.inr sq,fun p hp=>b.new a h rd hp⟩
  ·exact h.elim
 ·exact h.elim
def gTuple:List R→AE:=fun rs ρ q=>match rs with
 | [r]=>(match view ρ r with
  | some (.lst ds)=>q (.d (.tup ds)) ρ
  | some (.tup ds)=>q (.d (.tup ds)) ρ
  | _=>False)
 | _=>False
theorem cbok_tuple:CbOk K (fun xs H Q=>∃ p ys,xs = [.ref p]∧((SqL K H p ys∧∀ l,H l = none→Q (.ref l) (upd H l (.tup ys))) ∨ (SqT K H p ys∧Q (.ref p) H))) gTuple:=by
 intro F σ ρ H vs rs q Q a i h b
 unfold gTuple at h
 split at h
 ·obtain ⟨x,rfl,i1⟩:=i.one
  split at h
  ·rename_i ds e
   obtain ⟨l,vs,rfl,sq,rd⟩:=view_lst a i1 e
   exact ⟨l,vs,rfl,.inl ⟨sq,fun p hp=>b.newT a h rd hp⟩⟩
  ·rename_i ds e
   obtain ⟨l,vs,rfl,sq,rd,sq'⟩:=view_tup a i1 e
   refine ⟨l,vs,rfl,.inr ⟨sq,b.dat a h ?_⟩⟩
   unfold RepD
   exact ⟨l,vs,rfl,sq',rd⟩
  ·exact h.elim
 ·exact h.elim
def gII (f:Int→Int→Int):List R→AE:=fun rs ρ q=>match rs with
 | [.d (.int i),.d (.int j)]=>q (.d (.int (f i j))) ρ
 | _=>False
theorem cbok_max:CbOk K (fun xs H Q=>∃ i j,xs = [.int i,.int j]∧Q (.int (if j > i then j else i)) H) (gII fun i j=>if j > i then j else i):=by
 intro F σ ρ H vs rs q Q a i h b
 unfold gII at h
 split at h
 ·obtain ⟨x,y,rfl,i1,j1⟩:=i.two
  exact ⟨_,_,by rw [i1.int,j1.int],b.int a h⟩
 ·exact h.elim
theorem cbok_min:CbOk K (fun xs H Q=>∃ i j,xs = [.int i,.int j]∧Q (.int (if j < i then j else i)) H) (gII fun i j=>if j < i then j else i):=by
 intro F σ ρ H vs rs q Q a i h b
 unfold gII at h
 split at h
 ·obtain ⟨x,y,rfl,i1,j1⟩:=i.two
  exact ⟨_,_,by rw [i1.int,j1.int],b.int a h⟩
 ·exact h.elim
def intsOf:List D→Option (List Int)
 | []=>some []
 | .int i :: ds=>(intsOf ds).map (i :: ·)
 | _=>none
theorem intsOf_eq:∀ {ds:List D} {ns:List Int},intsOf ds = some ns→ds = ns.map D.int
 | [],ns,h=>by simp [intsOf] at h; subst h; rfl
 | .int i :: ds,ns,h=>by
  simp only [intsOf,Option.map_eq_some_iff] at h
  obtain ⟨ms,e,rfl⟩:=h
  rw [intsOf_eq e]; rfl
 | .non :: ds,ns,h=>by simp [intsOf] at h
 | .bl _ :: ds,ns,h=>by simp [intsOf] at h
 | .str _ :: ds,ns,h=>by simp [intsOf] at h
 | .tup _ :: ds,ns,h=>by simp [intsOf] at h
 | .lst _ :: ds,ns,h=>by simp [intsOf] at h
theorem intsOf_map (ns:List Int):intsOf (ns.map D.int) = some ns:=by
 induction ns with
 | nil=>rfl
 | cons n ns ih=>simp [intsOf,ih]
def blsOf:List D→Option (List Bool)
 | []=>some []
 | .bl i :: ds=>(blsOf ds).map (i :: ·)
 | _=>none
theorem blsOf_eq:∀ {ds:List D} {ns:List Bool},blsOf ds = some ns→ds = ns.map D.bl
 | [],ns,h=>by simp [blsOf] at h; subst h; rfl
 | .bl i :: ds,ns,h=>by
  simp only [blsOf,Option.map_eq_some_iff] at h
  obtain ⟨ms,e,rfl⟩:=h
  rw [blsOf_eq e]; rfl
 | .non :: ds,ns,h=>by simp [blsOf] at h
 | .int _ :: ds,ns,h=>by simp [blsOf] at h
 | .str _ :: ds,ns,h=>by simp [blsOf] at h
 | .tup _ :: ds,ns,h=>by simp [blsOf] at h
 | .lst _ :: ds,ns,h=>by simp [blsOf] at h
theorem blsOf_map (ns:List Bool):blsOf (ns.map D.bl) = some ns:=by
 induction ns with
 | nil=>rfl
 | cons n ns ih=>simp [blsOf,ih]
theorem repBls:∀ {vs:List V} {ns:List Bool},RepDs K H vs (ns.map D.bl)→vs = ns.map V.bl
 | [],[],_=>rfl
 | v :: vs,n :: ns,h=>by
  rw [List.map_cons] at h
  unfold RepDs at h
  obtain ⟨h1,h2⟩:=h
  unfold RepD at h1
  rw [List.map_cons,h1,repBls h2]
 | [],n :: ns,h=>by rw [List.map_cons] at h; unfold RepDs at h; exact h.elim
 | v :: vs,[],h=>by rw [List.map_nil] at h; unfold RepDs at h; exact h.elim
@[irreducible] def gAll:List R→AE:=fun rs ρ q=>match rs with
 | [r]=>(match view ρ r with
  | some (.lst ds)=>(match blsOf ds with | some bs=>q (.d (.bl (bs.all id))) ρ | none=>False)
  | _=>False)
 | _=>False
theorem cbok_all:CbOk K (fun xs H Q=>∃ (p:Addr) (bs:List Bool),xs = [.ref p]∧SqL K H p (bs.map V.bl)∧Q (.bl (bs.all id)) H) gAll:=by
 intro F σ ρ H vs rs q Q a i h b
 unfold gAll at h
 split at h
 ·obtain ⟨x,rfl,i1⟩:=i.one
  split at h
  ·rename_i ds e
   split at h
   ·rename_i bs e'
    obtain ⟨l,vs,rfl,sq,rd⟩:=view_lst a i1 e
    rw [blsOf_eq e'] at rd
    rw [repBls rd] at sq
    exact ⟨l,bs,rfl,sq,b.bl a h⟩
   ·exact h.elim
  ·exact h.elim
 ·exact h.elim
def aApp (a:AE) (as:AA):AE:=fun ρ q=>a ρ fun r ρ1=>match r with
 | .o i=>(match gt ρ1 i with
  | .ow _=>as ρ1 fun rs ρ2=>(match rs with
   | [y]=>sto [y] ρ2 fun es ρ3=>(match gt ρ3 i with
    | .ow ds=>ds.length ≤ 1000000∧q (.d .non) (pt ρ3 i (.ow (ds ++ es)))
    | _=>False)
   | _=>False)
  | _=>False)
 | _=>False
theorem tok_app (ha:TEok K ta a) (hs:TAok K ts as):TEok K (tBM K "list" rAppend ta ts) (aApp a as):=by
 intro F σ ρ H q Q r h k
 refine ha F σ ρ H _ _ r h fun r1 ρ1 x H1 h1 rel1=>?_
 split at h1
 ·rename_i i
  obtain ⟨r',k1,i1⟩:=rel1.inF
  have ex:σ[i]? = some (some x):=i1
  split at h1
  ·rename_i ds0 hg0
   have s:=r'.sl i
   rw [hg0,ex] at s
   obtain ⟨l,vs0,e,hl,_⟩:=s
   injection e with e; injection e with e; subst e
   refine ⟨.inl ⟨rfl,_,SqL.of hl⟩,hs F σ ρ1 H1 _ _ r' h1 fun rs ρ2 vs H2 h2 r2 i2 k2=>?_⟩
   split at h2
   ·obtain ⟨es,ρ3,h3,r3,k3,rd⟩:=sto_ok r2 i2 h2
    split at h3
    ·rename_i ds hg
     have s:=r3.sl i
     rw [hg,ex] at s
     obtain ⟨l',us,e,hl',rd'⟩:=s
     injection e with e; injection e with e; injection e with e; subst e
     obtain ⟨y,rfl,_⟩:=i2.one
     have hw:=r3.write (i:=i) (l:=l) (o:=.lst (us ++ [y])) (s:=.ow (ds ++ es)) (by rw [hg]; rfl) ex rfl ⟨l,_,rfl,upd_same,rd'.append rd⟩
     refine ⟨l,us,y,rfl,rfl,hl',smallS (by rw [rd'.length]; exact h3.1),?_⟩
     exact (((k.after k1).after k2).after (k3.trans hw.2)).non hw.1 h3.2
    ·exact h3.elim
   ·exact h2.elim
  ·exact h1.elim
 ·exact h1.elim
theorem RepDs.drop:∀ {vs:List V} {ds:List D} (n:Nat),RepDs K H vs ds→RepDs K H (vs.drop n) (ds.drop n)
 | [],[],n,h=>by simp [RepDs.nil]
 | v :: vs,d :: ds,0,h=>h
 | v :: vs,d :: ds,n + 1,h=>by unfold RepDs at h; exact RepDs.drop n h.2
 | [],d :: ds,_,h=>by unfold RepDs at h; exact h.elim
 | v :: vs,[],_,h=>by unfold RepDs at h; exact h.elim
theorem RepDs.take:∀ {vs:List V} {ds:List D} (n:Nat),RepDs K H vs ds→RepDs K H (vs.take n) (ds.take n)
 | [],[],n,h=>by simp [RepDs.nil]
 | v :: vs,d :: ds,0,h=>.nil
 | v :: vs,d :: ds,n + 1,h=>by unfold RepDs at h; exact .cons h.1 (RepDs.take n h.2)
 | [],d :: ds,_,h=>by unfold RepDs at h; exact h.elim
 | v :: vs,[],_,h=>by unfold RepDs at h; exact h.elim
end
def slotR (ρ:En):R→Sv
 | .d d=>.vl d
 | .o j=>gt ρ j
 | .x s=>s
 | _=>.un
def Src (K:PySem.W.Frag) (F:Fr) (σ:St) (ρ:En) (H:Hp) (ov:Option V):R→Prop
 | .d d=>∃ v,ov = some v∧RepD K (hid H (hs F σ ρ)) v d
 | .o j=>(σ[j]?).getD none = ov
 | .x s=>∃ v,ov = some v∧s.own = false∧SvOk K (hid H (hs F σ ρ)) H (some (some v)) s
 | _=>True
inductive Srcs (K:PySem.W.Frag) (F:Fr) (σ:St) (ρ:En) (H:Hp):St→List R→Prop
 | nil:Srcs K F σ ρ H [] []
 | cons {v:Option V} {r:R} {vs:St} {rs:List R}:Src K F σ ρ H v r→Srcs K F σ ρ H vs rs→Srcs K F σ ρ H (v :: vs) (r :: rs)
def isO (j:Nat):R→Bool
 | .o i=>i == j
 | _=>false
def dis:List R→Bool
 | []=>true
 | .o j :: rs=>rs.all (fun r=>!isO j r) && dis rs
 | _ :: rs=>dis rs
theorem dis_uniq:∀ {rs:List R} {k k' j:Nat},dis rs = true→rs[k]? = some (.o j)→rs[k']? = some (.o j)→k = k':=by
 intro rs
 induction rs with
 | nil=>intro k k' j _ h; simp at h
 | cons r rs ih =>
  intro k k' j hd h h'
  have hd':dis rs = true:=by
   cases r <;> simp [dis] at hd <;> first | exact hd.2 | exact hd
  have no:∀ (m:Nat),r = .o j→rs[m]? = some (.o j)→False:=fun m e hm=>by
   subst e
   simp [dis] at hd
   have:=hd.1 _ (List.mem_of_getElem? hm)
   simp [isO] at this
  cases k with
  | zero =>
   cases k' with
   | zero=>rfl
   | succ k'=>simp at h h'; exact (no k' h h').elim
  | succ k =>
   cases k' with
   | zero=>simp at h h'; exact (no k h' h).elim
   | succ k'=>simp at h h'; rw [ih hd' h h']
def back:En→List R→En→En
 | ρ,.o j :: rs,s :: ss=>back (pt ρ j s) rs ss
 | ρ,_ :: rs,_ :: ss=>back ρ rs ss
 | ρ,_,_=>ρ
theorem back_len:∀ (rs:List R) (ρ ss:En),(back ρ rs ss).length = ρ.length
 | [],ρ,ss=>by cases ss <;> rfl
 | r :: rs,ρ,[]=>by cases r <;> rfl
 | .o j :: rs,ρ,s :: ss=>by show (back (pt ρ j s) rs ss).length = _; rw [back_len,pt_len]
 | .d d :: rs,ρ,s :: ss=>back_len rs ρ ss
 | .n d :: rs,ρ,s :: ss=>back_len rs ρ ss
 | .t d :: rs,ρ,s :: ss=>back_len rs ρ ss
 | .x d :: rs,ρ,s :: ss=>back_len rs ρ ss
theorem back_ne:∀ (rs:List R) (ρ ss:En) (i:Nat),(∀ k:Nat,rs[k]? ≠ some (R.o i))→gt (back ρ rs ss) i = gt ρ i
 | [],ρ,ss,i,_=>by cases ss <;> rfl
 | r :: rs,ρ,[],i,_=>by cases r <;> rfl
 | .o j :: rs,ρ,s :: ss,i,h=>by
  have ne:j ≠ i:=fun e=>h 0 (by simp [e])
  show gt (back (pt ρ j s) rs ss) i = _
  rw [back_ne rs _ ss i (fun k z=>h (k + 1) (by simpa using z)),gt_pt_ne ρ j i s ne]
 | .d d :: rs,ρ,s :: ss,i,h=>back_ne rs ρ ss i (fun k z=>h (k + 1) (by simpa using z))
 | .n d :: rs,ρ,s :: ss,i,h=>back_ne rs ρ ss i (fun k z=>h (k + 1) (by simpa using z))
 | .t d :: rs,ρ,s :: ss,i,h=>back_ne rs ρ ss i (fun k z=>h (k + 1) (by simpa using z))
 | .x d :: rs,ρ,s :: ss,i,h=>back_ne rs ρ ss i (fun k z=>h (k + 1) (by simpa using z))
theorem back_at:∀ (rs:List R) (ρ ss:En) (i k:Nat),dis rs = true→rs[k]? = some (.o i)→ss.length = rs.length→i < ρ.length→gt (back ρ rs ss) i = gt ss k
 | [],ρ,ss,i,k,_,h,_,_=>by simp at h
 | r :: rs,ρ,[],i,k,_,_,e,_=>by simp at e
 | .o j :: rs,ρ,s :: ss,i,0,hd,h,e,l=>by
  simp at h; subst h
  simp [dis] at hd
  show gt (back (pt ρ j s) rs ss) j = s
  rw [back_ne rs _ ss j (fun k z=>by have:=hd.1 _ (List.mem_of_getElem? z); simp [isO] at this),gt_pt ρ j s l]
 | .o j :: rs,ρ,s :: ss,i,k + 1,hd,h,e,l=>by
  simp [dis] at hd
  exact back_at rs (pt ρ j s) ss i k hd.2 (by simpa using h) (by simpa using e) (by rw [pt_len]; exact l)
 | .d d :: rs,ρ,s :: ss,i,0,hd,h,e,l=>by simp at h
 | .n d :: rs,ρ,s :: ss,i,0,hd,h,e,l=>by simp at h
 | .t d :: rs,ρ,s :: ss,i,0,hd,h,e,l=>by simp at h
 | .x d :: rs,ρ,s :: ss,i,0,hd,h,e,l=>by simp at h
 | .d d :: rs,ρ,s :: ss,i,k + 1,hd,h,e,l=>back_at rs ρ ss i k hd (by simpa using h) (by simpa using e) l
 | .n d :: rs,ρ,s :: ss,i,k + 1,hd,h,e,l=>back_at rs ρ ss i k hd (by simpa using h) (by simpa using e) l
 | .t d :: rs,ρ,s :: ss,i,k + 1,hd,h,e,l=>back_at rs ρ ss i k hd (by simpa using h) (by simpa using e) l
 | .x d :: rs,ρ,s :: ss,i,k + 1,hd,h,e,l=>back_at rs ρ ss i k hd (by simpa using h) (by simpa using e) l
theorem gt_map (ρ:En):∀ (rs:List R) (k:Nat),gt (rs.map (slotR ρ)) k = (match rs[k]? with | some r=>slotR ρ r | none=>.un)
 | [],k=>by simp [gt]
 | r :: rs,0=>by simp [gt]
 | r :: rs,k + 1=>by simp [gt,gt_map ρ rs k]
section
variable {K:PySem.W.Frag} {F:Fr} {σ:St} {ρ ρ':En} {H H':Hp} {ovs:St} {rs:List R}
theorem Srcs.length (s:Srcs K F σ ρ H ovs rs):ovs.length = rs.length:=by
 induction s with
 | nil=>rfl
 | cons _ _ ih=>simp [ih]
theorem Srcs.get {k:Nat} {r:R} (s:Srcs K F σ ρ H ovs rs) (h:rs[k]? = some r):∃ ov,ovs[k]? = some ov∧Src K F σ ρ H ov r:=by
 induction s generalizing k with
 | nil=>simp at h
 | cons a _ ih =>
  cases k with
  | zero=>simp at h; subst h; exact ⟨_,rfl,a⟩
  | succ k=>obtain ⟨ov,e,q⟩:=ih (by simpa using h); exact ⟨ov,by simpa using e,q⟩
def subFr (F:Fr) (σ:St) (ρ:En) (H:Hp) (ovs:St) (ss:En):Fr :=
 ⟨H,fun a=>F.Z a ∨ (owned σ ρ a∧¬ owned ovs ss a),fun a=>owned ovs ss a,fun i a=>(gt ss i).own = true∧ovs[i]? = some (some (.ref a)),fun _ _=>False⟩
theorem sub_own (s:Srcs K F σ ρ H ovs rs) {k:Nat} (h:(gt (rs.map (slotR ρ)) k).own = true):∃ j:Nat,rs[k]? = some (R.o j)∧(gt ρ j).own = true∧gt (rs.map (slotR ρ)) k = gt ρ j∧ovs[k]? = some ((σ[j]?).getD none):=by
 rw [gt_map] at h
 cases e:rs[k]? with
 | none=>simp [e] at h; cases h
 | some r =>
  rw [e] at h
  cases r with
  | d d=>cases h
  | n d=>cases h
  | t d=>cases h
  | x d =>
   obtain ⟨ov,_,_,_,hx,_⟩:=s.get e
   have h:d.own = true:=h
   rw [hx] at h; cases h
  | o j =>
   obtain ⟨ov,e1,e2⟩:=s.get e
   exact ⟨j,rfl,h,by rw [gt_map,e]; rfl,by rw [e1,show _ = ov from e2]⟩
theorem getD_ref {x:Option (Option V)} {a:Addr} (h:some (x.getD none) = some (some (V.ref a))):x = some (some (.ref a)):=by
 cases x with
 | none=>simp at h
 | some y=>simpa using h
theorem sub_owned (s:Srcs K F σ ρ H ovs rs) {a:Addr} (h:owned ovs (rs.map (slotR ρ)) a):∃ k j:Nat,rs[k]? = some (R.o j)∧(gt ρ j).own = true∧σ[j]? = some (some (V.ref a))∧ovs[k]? = some (some (V.ref a)):=by
 obtain ⟨k,hk,e⟩:=h
 obtain ⟨j,e1,e2,e3,e4⟩:=sub_own s hk
 rw [e] at e4
 exact ⟨k,j,e1,e2,getD_ref e4.symm,e⟩
theorem sub_hs (r:Rel K F σ ρ H) (s:Srcs K F σ ρ H ovs rs):hs (subFr F σ ρ H ovs (rs.map (slotR ρ))) ovs (rs.map (slotR ρ)) = hs F σ ρ:=by
 funext a
 apply propext
 constructor
 ·rintro ((h | h) | h)
  ·exact .inl h
  ·exact .inr h.1
  ·obtain ⟨k,j,e1,e2,e3,_⟩:=sub_owned s h
   exact .inr ⟨j,e2,e3⟩
 ·rintro (h | h)
  ·exact .inl (.inl h)
  ·by_cases q:owned ovs (rs.map (slotR ρ)) a
   ·exact .inr q
   ·exact .inl (.inr ⟨h,q⟩)
theorem Rel.sub (r:Rel K F σ ρ H) (s:Srcs K F σ ρ H ovs rs) (hd:dis rs = true):Rel K (subFr F σ ρ H ovs (rs.map (slotR ρ))) ovs (rs.map (slotR ρ)) H:=by
 refine ⟨by rw [s.length,List.length_map],fun a o e _=>e,fun a z=>?_,fun a h z=>?_,fun i a hi e=>.inl ⟨⟨hi,e⟩,i,hi,e⟩,fun i a h=>?_,fun a h=>?_,fun a h=>?_,fun i j a hi hj ei ej=>?_,fun k=>?_⟩
 ·rcases z with z | z
  ·exact r.zl a z
  ·exact owned_nt r z.1
 ·obtain ⟨k,j,e1,e2,e3,_⟩:=sub_owned s h
  rcases z with z | z
  ·exact r.zo a ⟨j,e2,e3⟩ z
  ·exact z.2 h
 ·rcases h with h | h
  ·exact h.2
  ·exact h.elim
 ·obtain ⟨k,j,e1,e2,e3,_⟩:=sub_owned s h
  exact owned_alive r ⟨j,e2,e3⟩
 ·obtain ⟨k,j,e1,e2,e3,_⟩:=sub_owned s h
  exact owned_alive r ⟨j,e2,e3⟩
 ·obtain ⟨p,a1,a2,a3,a4⟩:=sub_own s hi
  obtain ⟨p',b1,b2,b3,b4⟩:=sub_own s hj
  rw [ei] at a4
  rw [ej] at b4
  have:p = p':=r.nd p p' a a2 b2 (getD_ref a4.symm) (getD_ref b4.symm)
  subst this
  exact dis_uniq hd a1 b1
 ·rw [sub_hs r s,gt_map]
  cases e:rs[k]? with
  | none=>trivial
  | some x =>
   obtain ⟨ov,e1,e2⟩:=s.get e
   cases x with
   | n d=>trivial
   | t d=>trivial
   | x d=>obtain ⟨v,e3,_,e4⟩:=e2; rw [e1,e3]; exact e4
   | d d=>obtain ⟨v,e3,e4⟩:=e2; rw [e1,e3]; exact ⟨v,rfl,e4⟩
   | o j =>
    rw [e1]
    have q:=r.sl j
    show SvOk K _ H (some ov) (gt ρ j)
    rw [← show (σ[j]?).getD none = ov from e2]
    cases e5:σ[j]? with
    | none =>
     rw [e5] at q
     cases hg:gt ρ j with
     | un=>trivial
     | vl d=>rw [hg] at q; obtain ⟨x,z,_⟩:=q; cases z
     | ow d=>rw [hg] at q; obtain ⟨x,_,z,_⟩:=q; cases z
     | tp d=>rw [hg] at q; obtain ⟨x,_,_,_,_,z,_⟩:=q; cases z
     | dk d=>rw [hg] at q; obtain ⟨x,_,z,_⟩:=q; cases z
     | dt d=>rw [hg] at q; obtain ⟨x,_,z,_⟩:=q; cases z
     | ex d m=>rw [hg] at q; obtain ⟨x,_,z,_⟩:=q; cases z
     | sc d=>rw [hg] at q; obtain ⟨x,z,_⟩:=q; cases z
     | px d m k=>rw [hg] at q; obtain ⟨x,_,_,_,z,_⟩:=q; cases z
     | xl es=>rw [hg] at q; obtain ⟨x,_,z,_⟩:=q; cases z
    | some y=>rw [e5] at q; exact q
theorem Rel.back (r:Rel K F σ ρ H) (s:Srcs K F σ ρ H ovs rs) (hd:dis rs = true) {ss':En} (r':Rel K (subFr F σ ρ H ovs (rs.map (slotR ρ))) ovs ss' H') (sb:∀ i,(gt ss' i).own = true→(gt (rs.map (slotR ρ)) i).own = true) :
  Rel K F σ (L2.back ρ rs ss') H'∧Kp σ ρ (L2.back ρ rs ss') H H'∧Same (hid H' (hs (subFr F σ ρ H ovs (rs.map (slotR ρ))) ovs ss')) (hid H' (hs F σ (L2.back ρ rs ss'))):=by
 have ln:ss'.length = rs.length:=by rw [← r'.len,s.length]
 have cs:∀ i:Nat,(∃ k:Nat,rs[k]? = some (R.o i)∧i < ρ.length∧gt (L2.back ρ rs ss') i = gt ss' k) ∨ ((∀ k:Nat,i < ρ.length→rs[k]? ≠ some (R.o i))∧gt (L2.back ρ rs ss') i = gt ρ i):=fun i=>by
  by_cases hi:i < ρ.length
  ·by_cases q:∃ k:Nat,rs[k]? = some (R.o i)
   ·obtain ⟨k,e⟩:=q
    exact .inl ⟨k,e,hi,back_at rs ρ ss' i k hd e ln hi⟩
   ·exact .inr ⟨fun k _ z=>q ⟨k,z⟩,back_ne rs ρ ss' i fun k z=>q ⟨k,z⟩⟩
  ·refine .inr ⟨fun k z=>absurd z hi,?_⟩
   rw [gt_out _ i (by rw [back_len]; omega),gt_out _ i (by omega)]
 have own':∀ i,(gt (L2.back ρ rs ss') i).own = true→(gt ρ i).own = true:=fun i h=>by
  rcases cs i with ⟨k,e,hi,g⟩ | ⟨_,g⟩
  ·rw [g] at h
   have:=sb k h
   rw [gt_map,e] at this
   exact this
  ·rw [g] at h; exact h
 have subo:∀ {a},owned σ (L2.back ρ rs ss') a→owned σ ρ a:=fun ⟨i,hi,e⟩=>⟨i,own' i hi,e⟩
 have no:∀ a,¬ owned σ ρ a→¬ owned ovs (rs.map (slotR ρ)) a:=fun a h z=>by
  obtain ⟨k,j,e1,e2,e3,_⟩:=sub_owned s z
  exact h ⟨j,e2,e3⟩
 have st:∀ a o,H a = some o→¬ owned ovs (rs.map (slotR ρ)) a→H' a = some o:=fun a o e n=>r'.fr a o e n
 have hsub:∀ a,hs F σ (L2.back ρ rs ss') a→hs (subFr F σ ρ H ovs (rs.map (slotR ρ))) ovs ss' a:=fun a h=>by
  rcases h with h | ⟨i,hi,e⟩
  ·exact .inl (.inl h)
  ·rcases cs i with ⟨k,e1,hl,g⟩ | ⟨n,g⟩
   ·right
    rw [g] at hi
    obtain ⟨ov,q1,q2⟩:=s.get e1
    refine ⟨k,hi,?_⟩
    rw [q1,← show (σ[i]?).getD none = ov from q2,e]
    rfl
   ·left; right
    rw [g] at hi
    refine ⟨⟨i,hi,e⟩,fun z=>?_⟩
    obtain ⟨k,j,e1,e2,e3,_⟩:=sub_owned s z
    have:i = j:=r.nd i j a hi e2 e e3
    subst this
    exact n k (own_lt hi) e1
 have v1:Same (hid H' (hs (subFr F σ ρ H ovs (rs.map (slotR ρ))) ovs ss')) (hid H' (hs F σ (L2.back ρ rs ss'))):=hid_same fun a o e n=>⟨e,fun z=>n (hsub a z)⟩
 have v2:Same (hid H (hs F σ ρ)) (hid H' (hs F σ (L2.back ρ rs ss'))):=hid_same fun a o e n=>⟨st a o e (no a fun z=>n (.inr z)),fun z=>n (z.imp id subo)⟩
 refine ⟨⟨by rw [back_len,r.len],fun a o e n=>?_,fun a z=>r'.zl a (.inl z),fun a h=>r.zo a (subo h),fun i a hi e=>r.ow i a (own' i hi) e,r.mi,r.ml,fun a z=>?_,fun i j a hi hj ei ej=>r.nd i j a (own' i hi) (own' j hj) ei ej,fun i=>?_⟩,⟨fun a o e n=>st a o e (no a n),own'⟩,v1⟩
 ·have e1:=r.fr a o e n
  refine st a o e1 fun z=>?_
  obtain ⟨k,j,h1,h2,h3,_⟩:=sub_owned s z
  rcases r.ow j a h2 h3 with q | q
  ·exact n q.2
  ·rw [e] at q; cases q
 ·by_cases q:owned ovs (rs.map (slotR ρ)) a
  ·exact r'.ma a q
  ·cases h:H a with
   | none=>exact absurd h (r.ma a z)
   | some o=>rw [st a o h q]; exact fun z=>nomatch z
 ·rcases cs i with ⟨k,e1,hl,g⟩ | ⟨n,g⟩
  ·rw [g]
   have q:=(r'.sl k).keep v1 fun _ _ _ _ e=>e
   obtain ⟨ov,q1,q2⟩:=s.get e1
   rw [q1,← show (σ[i]?).getD none = ov from q2] at q
   cases e5:σ[i]? with
   | none =>
    rw [e5] at q
    cases hg:gt ss' k with
    | un=>trivial
    | vl d=>rw [hg] at q; obtain ⟨x,z,_⟩:=q; cases z
    | ow d=>rw [hg] at q; obtain ⟨x,_,z,_⟩:=q; cases z
    | tp d=>rw [hg] at q; obtain ⟨x,_,_,_,_,z,_⟩:=q; cases z
    | dk d=>rw [hg] at q; obtain ⟨x,_,z,_⟩:=q; cases z
    | dt d=>rw [hg] at q; obtain ⟨x,_,z,_⟩:=q; cases z
    | ex d m=>rw [hg] at q; obtain ⟨x,_,z,_⟩:=q; cases z
    | sc d=>rw [hg] at q; obtain ⟨x,z,_⟩:=q; cases z
    | px d m k=>rw [hg] at q; obtain ⟨x,_,_,_,z,_⟩:=q; cases z
    | xl es=>rw [hg] at q; obtain ⟨x,_,z,_⟩:=q; cases z
   | some y=>rw [e5] at q; exact q
  ·rw [g]
   refine (r.sl i).keep v2 fun l o ho e h=>st l o h fun z=>?_
   obtain ⟨k,j,e1,e2,e3,_⟩:=sub_owned s z
   have:i = j:=r.nd i j l ho e2 e e3
   subst this
   exact n k (own_lt ho) e1
end
abbrev ASp:=En→Ko→Prop
def F0 (vs:List V) (ss:En) (H:Hp) (Z:Addr→Prop):Fr:=⟨H,Z,fun a=>owned (vs.map some) ss a,fun i a=>(gt ss i).own = true∧(vs.map some)[i]? = some (some (.ref a)),fun _ _=>False⟩
def spA (K:PySem.W.Frag) (S:ASp):Sp:=fun vs H Q _=>∃ ss Z q,Rel K (F0 vs ss H Z) (vs.map some) ss H∧S ss q ∧
 ∀ r ss' v H',q r ss'→(∀ i,(gt ss' i).own = true→(gt ss i).own = true)→(∀ i,r ≠ .o i)→RelR K (F0 vs ss H Z) (vs.map some) ss' v H' r→Q v H'
def aCall (S:ASp) (as:AA):AE:=fun ρ q=>as ρ fun rs ρ1=>dis rs = true∧S (rs.map (slotR ρ1)) fun r ss'=>q r (back ρ1 rs ss')
section
variable {K:PySem.W.Frag} {F:Fr} {σ:St} {ρ ρ':En} {H H':Hp} {ovs:St} {rs:List R}
theorem InFs.srcs {vs:List V} (h:InFs K F σ ρ H vs rs):Srcs K F σ ρ H (vs.map some) rs:=by
 induction h with
 | nil=>exact .nil
 | cons a t ih =>
  rename_i v r vs rs
  refine .cons ?_ ih
  cases r with
  | d d=>exact ⟨v,rfl,a⟩
  | o j=>show (σ[j]?).getD none = some v; rw [show σ[j]? = _ from a]; rfl
  | n s=>trivial
  | t n=>trivial
  | x n=>exact ⟨v,rfl,a⟩
theorem tok_call {S:ASp} {E:XK} {ts:TA} {as:AA} (hs':TAok K ts as):TEok K (tCall (spA K S) [] E ts) (aCall S as):=by
 intro F σ ρ H q Q r h k
 refine hs' F σ ρ H _ _ r h fun rs ρ1 vs H1 h1 r1 i1 k1=>?_
 obtain ⟨hd,hS⟩:=h1
 have s:=i1.srcs
 rw [List.append_nil]
 refine ⟨rs.map (slotR ρ1),(subFr F σ ρ1 H1 (vs.map some) (rs.map (slotR ρ1))).Z,_,r1.sub s hd,hS,fun rr ss' v H' hq sb no out=>?_⟩
 refine (k.after k1) rr (back ρ1 rs ss') v H' hq ?_
 cases rr with
 | o i=>exact absurd rfl (no i)
 | d d =>
  obtain ⟨a,b⟩:=out
  obtain ⟨x,y,z⟩:=r1.back s hd a sb
  exact ⟨x,y,RepD.same b z⟩
 | x sv =>
  obtain ⟨a,b,c⟩:=out
  obtain ⟨x,y,z⟩:=r1.back s hd a sb
  exact ⟨x,y,b,c.keep z fun l o ho=>by rw [b] at ho; cases ho⟩
 | t n =>
  obtain ⟨a,b⟩:=out
  obtain ⟨x,y,z⟩:=r1.back s hd a sb
  exact ⟨x,y,b⟩
 | n sv =>
  obtain ⟨Hb,l,o,a,b,c,e1,e2,e3⟩:=out
  obtain ⟨x,y,z⟩:=r1.back s hd a sb
  exact ⟨Hb,l,o,x,y,b,c.keep z fun _ _ _ _ e=>e,e1,e2,e3⟩
end
section
variable {K:PySem.W.Frag} {F:Fr} {σ σ':St} {ρ ρ':En} {H H':Hp}
open Classical in
noncomputable def rebase (F:Fr) (σ:St) (ρ:En) (H:Hp) (pin:Nat→Bool):Fr :=
 ⟨fun a=>if owned σ ρ a∧F.H0 a = none then none else H a,F.Z,fun a=>F.M a∧owned σ ρ a,F.I,fun i a=>F.P i a ∨ (pin i = true∧σ[i]? = some (some (.ref a)))⟩
open Classical in
theorem rb_some {pin:Nat→Bool} {a:Addr} {o:HO} (h:¬ (owned σ ρ a∧F.H0 a = none)) (e:H a = some o):(rebase F σ ρ H pin).H0 a = some o:=by
 show (if owned σ ρ a∧F.H0 a = none then none else H a) = some o
 rw [if_neg h]; exact e
open Classical in
theorem rb_inv {pin:Nat→Bool} {a:Addr} {o:HO} (e:(rebase F σ ρ H pin).H0 a = some o):H a = some o:=by
 have e':(if owned σ ρ a∧F.H0 a = none then none else H a) = some o:=e
 split at e'
 ·cases e'
 ·exact e'
open Classical in
theorem Rel.rebase (r:Rel K F σ ρ H) (pin:Nat→Bool):Rel K (L2.rebase F σ ρ H pin) σ ρ H where
 len:=r.len
 fr:=fun a o e _=>rb_inv e
 zl:=r.zl
 zo:=r.zo
 ow:=fun i a hi e=>by
  rcases r.ow i a hi e with ⟨h1,h2⟩ | h
  ·exact .inl ⟨h1,h2,i,hi,e⟩
  ·refine .inr ?_
   show (if owned σ ρ a∧F.H0 a = none then none else H a) = none
   rw [if_pos ⟨⟨i,hi,e⟩,h⟩]
 mi:=fun i a h=>by
  rcases h with h | h | h
  ·exact r.mi i a (.inl h)
  ·exact r.mi i a (.inr h)
  ·exact h.2
 ml:=fun a h=>by
  cases e:H a with
  | none=>exact absurd e (r.ma a h.1)
  | some o=>rw [rb_some (fun z=>r.ml a h.1 z.2) e]; exact fun z=>nomatch z
 ma:=fun a h=>r.ma a h.1
 nd:=r.nd
 sl:=r.sl
theorem Rel.unbase {pin:Nat→Bool} (r:Rel K F σ ρ H) (r':Rel K (L2.rebase F σ ρ H pin) σ' ρ' H'):Rel K F σ' ρ' H'∧Same (hid H (hs F σ ρ)) (hid H' (hs F σ' ρ')):=by
 refine ⟨⟨r'.len,fun a o e n=>?_,r'.zl,r'.zo,fun i a hi e=>?_,fun i a h=>r'.mi i a (h.imp id .inl),r.ml,fun a h=>?_,r'.nd,r'.sl⟩,hid_same fun a o e n=>?_⟩
 ·exact r'.fr a o (rb_some (fun z=>by rw [e] at z; cases z.2) (r.fr a o e n)) fun z=>n z.1
 ·rcases r'.ow i a hi e with ⟨h1,h2⟩ | h
  ·exact .inl ⟨h1,h2.1⟩
  ·right
   cases h0:F.H0 a with
   | none=>rfl
   | some o =>
    exfalso
    have nn:H a ≠ none:=by
     by_cases q:F.M a
     ·exact r.ma a q
     ·rw [r.fr a o h0 q]; exact fun z=>nomatch z
    cases e2:H a with
    | none=>exact nn e2
    | some u =>
     rw [rb_some (fun z=>by rw [h0] at z; cases z.2) e2] at h
     cases h
 ·by_cases q:owned σ ρ a
  ·exact r'.ma a ⟨h,q⟩
  ·cases e:H a with
   | none=>exact absurd e (r.ma a h)
   | some o=>rw [r'.fr a o (rb_some (fun z=>q z.1) e) fun z=>q z.2]; exact fun z=>nomatch z
 ·have n':¬ owned σ ρ a:=fun z=>n (.inr z)
  have e0:=rb_some (F:=F) (pin:=pin) (fun z=>n' z.1) e
  refine ⟨r'.fr a o e0 fun z=>n' z.2,fun z=>?_⟩
  rcases z with z | ⟨i,hi,ei⟩
  ·exact n (.inl z)
  ·rcases r'.ow i a hi ei with ⟨_,h2⟩ | h
   ·exact n' h2.2
   ·rw [e0] at h; cases h
theorem RelR.unbase {pin:Nat→Bool} {v:V} {rr:R} (r:Rel K F σ ρ H) (r':RelR K (L2.rebase F σ ρ H pin) σ' ρ' v H' rr):RelR K F σ' ρ' v H' rr:=by
 cases rr with
 | d d=>exact ⟨(r.unbase r'.1).1,r'.2⟩
 | o d=>exact ⟨(r.unbase r'.1).1,r'.2⟩
 | t d=>exact ⟨(r.unbase r'.1).1,r'.2⟩
 | x d=>exact ⟨(r.unbase r'.1).1,r'.2⟩
 | n s =>
  obtain ⟨Hb,l,o,a,b,c,e⟩:=r'
  exact ⟨Hb,l,o,(r.unbase a).1,b,c,e⟩
end
structure EndOk (K:PySem.W.Frag) (F:Fr) (D:Ends) (e:AEnds):Prop where
 nx:∀ σ' ρ' H',e.nx ρ'→Rel K F σ' ρ' H'→D.nx σ' H'
 bk:∀ σ' ρ' H',e.bk ρ'→Rel K F σ' ρ' H'→D.bk σ' H'
 ct:∀ σ' ρ' H',e.ct ρ'→Rel K F σ' ρ' H'→D.ct σ' H'
 rt:∀ σ' ρ' r v H',e.rt r ρ'→RelR K F σ' ρ' v H' r→D.rt v H'
def TSok (K:PySem.W.Frag) (pr:Nat→Bool) (t:TS) (a:AS):Prop:=∀ F σ ρ H D e,(∀ i a,F.pin i a→pr i = true)→Rel K F σ ρ H→a e ρ→EndOk K F D e→t D σ H
abbrev AG:=D→En→(En→Prop)→Prop
abbrev AGs:=List D→En→(En→Prop)→Prop
def TGok (K:PySem.W.Frag) (pr:Nat→Bool) (g:TG) (ag:AG):Prop:=∀ F σ ρ H v d k Q,(∀ i a,F.pin i a→pr i = true)→Rel K F σ ρ H→RepD K (hid H (hs F σ ρ)) v d→ag d ρ k →
 (∀ σ' ρ',k ρ'→Rel K F σ' ρ' H→σ'.length = σ.length→(∀ i,pr i = true→σ'[i]? = σ[i]?)→(∀ i,(gt ρ' i).own = true→(gt ρ i).own = true∧σ'[i]? = σ[i]?)→Q σ' H)→g v σ H Q
def TGsok (K:PySem.W.Frag) (pr:Nat→Bool) (n:Nat) (g:TGs) (ag:AGs):Prop:=(∀ ds ρ k,ag ds ρ k→ds.length = n)∧∀ F σ ρ H vs ds k Q,(∀ i a,F.pin i a→pr i = true)→Rel K F σ ρ H→RepDs K (hid H (hs F σ ρ)) vs ds→ag ds ρ k →
 (∀ σ' ρ',k ρ'→Rel K F σ' ρ' H→σ'.length = σ.length→(∀ i,pr i = true→σ'[i]? = σ[i]?)→(∀ i,(gt ρ' i).own = true→(gt ρ i).own = true∧σ'[i]? = σ[i]?)→Q σ' H)→g vs σ H Q
section
variable {K:PySem.W.Frag} {pr:Nat→Bool} {t u:TS} {a b:AS} {te:TE} {ae:AE} {tt:TT} {at':AT}
theorem nopin {F:Fr} {i:Nat} (hp:∀ i a,F.pin i a→pr i = true) (h:pr i = false):∀ a,¬ F.pin i a:=fun a z=>by rw [hp i a z] at h; cases h
def gaName (i:Nat):AG:=fun d ρ k=>k (pt ρ i (.vl d))
theorem tgok_name {i:Nat} (h:pr i = false):TGok K pr (gName i) (gaName i):=by
 intro F σ ρ H v d k Q hp r hd ha kk
 refine kk _ _ ha (r.set hd (nopin hp h)) (by rw [List.length_set]) (fun j hj=>?_) fun j hj=>?_
 ·rw [List.getElem?_set_ne]; rintro rfl; rw [h] at hj; cases hj
 ·obtain ⟨ne,q⟩:=own_set rfl hj
  exact ⟨q,by rw [List.getElem?_set_ne ne]⟩
def gaNil:AGs:=fun ds ρ k=>match ds with
 | []=>k ρ
 | _=>False
def gaCons (g:AG) (gs:AGs):AGs:=fun ds ρ k=>match ds with
 | d :: r=>g d ρ fun ρ1=>gs r ρ1 k
 | []=>False
theorem tgsok_nil:TGsok K pr 0 gNil gaNil:=by
 refine ⟨fun ds ρ k h=>?_,?_⟩
 ·cases ds with
  | nil=>rfl
  | cons _ _=>exact h.elim
 intro F σ ρ H vs ds k Q hp r hd ha kk
 cases ds with
 | cons _ _=>exact ha.elim
 | nil =>
  cases vs with
  | nil=>exact ⟨rfl,kk _ _ ha r rfl (fun _ _=>rfl) fun _ h=>⟨h,rfl⟩⟩
  | cons v vs=>unfold RepDs at hd; exact hd.elim
theorem own_vis {F:Fr} {σ σ':St} {ρ ρ':En} {H:Hp} (h:∀ i,(gt ρ' i).own = true→(gt ρ i).own = true∧σ'[i]? = σ[i]?):Same (hid H (hs F σ ρ)) (hid H (hs F σ' ρ')):=hid_same fun a o e n=>⟨e,fun z=>by
 rcases z with z | ⟨i,hi,ei⟩
 ·exact n (.inl z)
 ·obtain ⟨q1,q2⟩:=h i hi
  exact n (.inr ⟨i,q1,q2 ▸ ei⟩)⟩
theorem tgsok_cons {g:TG} {gs:TGs} {ag:AG} {ags:AGs} {n:Nat} (h:TGok K pr g ag) (hs':TGsok K pr n gs ags) (gl:∀ d ρ k,ag d ρ k→∃ ρ',k ρ'):TGsok K pr (n + 1) (gCons g gs) (gaCons ag ags):=by
 refine ⟨fun ds ρ k ha=>?_,?_⟩
 ·cases ds with
  | nil=>exact ha.elim
  | cons d ds=>obtain ⟨ρ',q⟩:=gl _ _ _ ha; rw [List.length_cons,hs'.1 _ _ _ q]
 intro F σ ρ H vs ds k Q hp r hd ha kk
 cases ds with
 | nil=>exact ha.elim
 | cons d ds =>
  cases vs with
  | nil=>unfold RepDs at hd; exact hd.elim
  | cons v vs =>
   unfold RepDs at hd
   refine ⟨v,vs,rfl,h F σ ρ H v d _ _ hp r hd.1 ha fun σ1 ρ1 h1 r1 l1 p1 o1=>?_⟩
   refine hs'.2 F σ1 ρ1 H vs ds _ _ hp r1 (hd.2.same (own_vis o1)) h1 fun σ2 ρ2 h2 r2 l2 p2 o2=>?_
   refine kk _ _ h2 r2 (l2.trans l1) (fun i hi=>(p2 i hi).trans (p1 i hi)) fun i hi=>?_
   obtain ⟨a1,a2⟩:=o2 i hi
   obtain ⟨b1,b2⟩:=o1 i a1
   exact ⟨b1,a2.trans b2⟩
def gaTup (n:Nat) (gs:AGs):AG:=fun d ρ k=>match d with
 | .tup ds=>gs ds ρ k
 | _=>False
theorem gl_name {i:Nat} {d:D} {ρ:En} {k:En→Prop} (h:gaName i d ρ k):∃ ρ',k ρ':=⟨_,h⟩
theorem tgok_tup {gs:TGs} {ags:AGs} {n:Nat} (hs':TGsok K pr n gs ags):TGok K pr (gTup K n gs) (gaTup n ags):=by
 intro F σ ρ H v d k Q hp r hd ha kk
 unfold gaTup at ha
 split at ha
 ·rename_i ds
  unfold RepD at hd
  obtain ⟨p,vs,rfl,sq,rd⟩:=hd
  exact ⟨p,vs,rfl,hid_sub.seqT sq.sq,by rw [rd.length]; exact hs'.1 _ _ _ ha,hs'.2 F σ ρ H vs ds k Q hp r rd ha kk⟩
 ·exact ha.elim
def aNext:AS:=fun e ρ=>e.nx ρ
def aSeq (a b:AS):AS:=fun e ρ=>a { e with nx:=b e } ρ
theorem sok_next:TSok K pr tNext aNext:=fun F σ ρ H D e hp r h k=>k.nx _ _ _ h r
theorem sok_seq (ha:TSok K pr t a) (hb:TSok K pr u b):TSok K pr (tSeq t u) (aSeq a b):=fun F σ ρ H D e hp r h k =>
 ha F σ ρ H _ _ hp r h ⟨fun σ' ρ' H' h' r'=>hb F σ' ρ' H' D e hp r' h' k,k.bk,k.ct,k.rt⟩
def aDrop (x:AE):AS:=fun e ρ=>x ρ fun _ ρ1=>e.nx ρ1
theorem sok_drop (h:TEok K te ae):TSok K pr (tDrop te) (aDrop ae):=fun F σ ρ H D e hp r ha k =>
 h F σ ρ H _ _ r ha fun r1 ρ1 v H1 h1 o=>k.nx _ _ _ h1 o.inF.1
def aRet (x:AE):AS:=fun e ρ=>x ρ e.rt
theorem sok_ret (h:TEok K te ae):TSok K pr (tRet te) (aRet ae):=fun F σ ρ H D e hp r ha k =>
 h F σ ρ H _ _ r ha fun r1 ρ1 v H1 h1 o=>k.rt _ _ _ _ _ h1 o.rel
def aIfS (c:AT) (a b:AS):AS:=fun e ρ=>c ρ fun k ρ1=>if k = true then a e ρ1 else b e ρ1
theorem sok_if (hc:TTok K tt at') (ha:TSok K pr t a) (hb:TSok K pr u b):TSok K pr (tIfS tt t u) (aIfS at' a b):=by
 intro F σ ρ H D e hp r h k
 refine hc F σ ρ H _ _ r h fun c ρ1 H1 h1 r1 k1=>?_
 cases c with
 | true=>exact ha F σ ρ1 H1 D e hp r1 h1 k
 | false=>exact hb F σ ρ1 H1 D e hp r1 h1 k
def stS (i:Nat):R→En→(En→Prop)→Prop
 | .d d,ρ,k=>k (pt ρ i (.vl d))
 | .n s,ρ,k=>k (pt ρ i s)
 | .o j,ρ,k=>(match gt ρ j with
  | .ow ds=>k (pt (pt ρ j (.vl (.lst ds))) i (.vl (.lst ds)))
  | .vl d=>k (pt ρ i (.vl d))
  | .ex C fs=>k (pt ρ i (.ex C fs))
  | _=>False)
 | .t _,_,_=>False
 | .x s,ρ,k=>k (pt ρ i s)
def aSet (i:Nat) (x:AE):AS:=fun e ρ=>x ρ fun r ρ1=>stS i r ρ1 e.nx
theorem set_ok {i:Nat} (hi:pr i = false) (h:TEok K te ae):TSok K pr (fun D σ H=>te σ H fun v H'=>D.nx (σ.set i (some v)) H') (aSet i ae):=by
 intro F σ ρ H D e hp r ha k
 refine h F σ ρ H _ _ r ha fun r1 ρ1 v H1 h1 o=>?_
 have np:=nopin hp hi
 cases r1 with
 | d d=>exact k.nx _ _ _ h1 (o.1.set o.2.2 np)
 | t n=>exact h1.elim
 | x s=>exact k.nx _ _ _ h1 (o.1.setS o.2.2.1 o.2.2.2 np)
 | n s =>
  obtain ⟨Hb,l,u,a1,a2,a3,a4,a5,rfl,rfl⟩:=o
  exact k.nx _ _ _ h1 (a1.setF a3 a4 a5 np)
 | o j =>
  obtain ⟨r1,k1,ej⟩:=o
  have h2:(match gt ρ1 j with
   | .ow ds=>e.nx (pt (pt ρ1 j (.vl (.lst ds))) i (.vl (.lst ds)))
   | .vl d=>e.nx (pt ρ1 i (.vl d))
   | .ex C fs=>e.nx (pt ρ1 i (.ex C fs))
   | _=>False):=h1
  clear h1
  split at h2
  ·rename_i ds hg
   obtain ⟨l,el,r2,k2,rd⟩:=r1.frz hg
   rw [ej] at el
   injection el with el; injection el with el; subst el
   exact k.nx _ _ _ h2 (r2.set rd np)
  ·rename_i d hg
   have q:=r1.sl j
   rw [hg] at q
   obtain ⟨x,e1,e2⟩:=q
   rw [ej] at e1
   injection e1 with e1; injection e1 with e1; subst e1
   exact k.nx _ _ _ h2 (r1.set e2 np)
  ·rename_i C fs hg
   have q:=r1.sl j
   rw [hg,ej] at q
   exact k.nx _ _ _ h2 (r1.setS rfl q np)
  ·exact h2.elim
theorem sok_set {i:Nat} (h:TEok K te ae) (hi:pr i = false):TSok K pr (tAsg te (gName i)) (aSet i ae):=set_ok hi h
theorem sok_setC {i n:Nat} {js:List Nat} {wi:TI} {g:TG} {tc:TT} (h:TEok K (tComp n js wi g tc te) ae) (hi:pr i = false):TSok K pr (fun D σ H=>tComp n js wi g tc te σ H fun v H'=>D.nx (σ.set i (some v)) H') (aSet i ae):=set_ok hi h
def aAsg (x:AE) (g:AG):AS:=fun e ρ=>x ρ fun r ρ1=>sto [r.frz] ρ1 fun ds ρ2=>match ds with
 | [d]=>g d ρ2 e.nx
 | _=>False
theorem sok_asg {g:TG} {ag:AG} (h:TEok K te ae) (hg:TGok K pr g ag):TSok K pr (tAsg te g) (aAsg ae ag):=by
 intro F σ ρ H D e hp r ha k
 refine h F σ ρ H _ _ r ha fun r1 ρ1 v H1 h1 o=>?_
 obtain ⟨r',k1,i1⟩:=o.inF
 obtain ⟨ds,ρ2,h2,r2,k2,rd⟩:=sto_ok r' (.cons i1 .nil) h1
 split at h2
 ·rename_i d
  unfold RepDs at rd
  exact hg F σ ρ2 H1 v d _ _ hp r2 rd.1 h2 fun σ3 ρ3 h3 r3 _ _ _=>k.nx _ _ _ h3 r3
 ·exact h2.elim
theorem RepDs.set {H:Hp}:∀ {vs:List V} {ds:List D} {v:V} {d:D} (p:Nat),RepDs K H vs ds→RepD K H v d→RepDs K H (vs.set p v) (ds.set p d)
 | [],[],_,_,p,h,_=>by simp [RepDs.nil]
 | v :: vs,d :: ds,_,_,0,h,q=>by unfold RepDs at h; exact .cons q h.2
 | v :: vs,d :: ds,_,_,p + 1,h,q=>by unfold RepDs at h; exact .cons h.1 (RepDs.set p h.2 q)
 | [],d :: ds,_,_,_,h,_=>by unfold RepDs at h; exact h.elim
 | v :: vs,[],_,_,_,h,_=>by unfold RepDs at h; exact h.elim
def whA (c:AT) (b:AS) (e:AEnds):Nat→En→Prop
 | 0,_=>False
 | n + 1,ρ=>c ρ fun k ρ1=>if k = true then b { nx:=whA c b e n,ct:=whA c b e n,bk:=e.nx,rt:=e.rt } ρ1 else e.nx ρ1
def aWhile (c:AT) (b:AS):AS:=fun e ρ=>∃ n,whA c b e n ρ
theorem sok_while (hc:TTok K tt at') (hb:TSok K pr t a):TSok K pr (tWhile tt t) (aWhile at' a):=by
 intro F σ ρ H D e hp r ha k
 obtain ⟨n,ha⟩:=ha
 refine ⟨fun m σ H=>∃ ρ,Rel K F σ ρ H∧whA at' a e m ρ,⟨n,ρ,r,ha⟩,fun m σ H ⟨ρ,r,h⟩=>?_⟩
 cases m with
 | zero=>exact h.elim
 | succ m =>
  refine hc F σ ρ H _ _ r h fun c ρ1 H1 h1 r1 k1=>?_
  cases c with
  | false=>exact k.nx _ _ _ h1 r1
  | true =>
   refine ⟨fun σ' H'=>∃ ρ',Rel K F σ' ρ' H'∧whA at' a e m ρ',fun σ' H' h'=>⟨m,Nat.lt_succ_self m,h'⟩,?_⟩
   exact hb F σ ρ1 H1 _ _ hp r1 h1 ⟨fun σ' ρ' H' h' r'=>⟨ρ',r',h'⟩,k.nx,fun σ' ρ' H' h' r'=>⟨ρ',r',h'⟩,k.rt⟩
abbrev AI:=En→(List D→(En→Prop)→En→Prop)→Prop
def WkAt (K:PySem.W.Frag) (S:Addr→Prop) (H:Hp) (J:It) (ds:List D):Prop:=∀ k:Nat,(∀ d,ds[k]? = some d→J.go k H∧∀ x H',J.yld k H x H'→Same H H'∧RepD K (hid H' S) x d)∧(ds.length ≤ k→J.stop k H)
def TIok (K:PySem.W.Frag) (pin:Nat→Bool) (wi:TI) (ai:AI):Prop:=∀ F σ ρ H q Rk,Rel K F σ ρ H→ai ρ q→(∀ ds c ρ' J H',q ds c ρ'→Rel K F σ ρ' H'→Kp σ ρ ρ' H H' →
 (∀ σ2 ρ2 H2,Same (hid H' (hs F σ ρ')) (hid H2 (hs F σ2 ρ2))→(∀ i,SvOk K (hid H2 (hs F σ2 ρ2)) H2 σ2[i]? (gt ρ2 i))→(∀ j a,pin j = true→σ[j]? = some (some (.ref a))→σ2[j]? = some (some (.ref a)))→(∀ a,hs F σ2 ρ2 a→Nt H2 a)→c ρ2→WkAt K (hs F σ2 ρ2) H2 J ds)→Rk J H')→wi σ H Rk
def rngD (lo:Int) (n:Nat):List D:=(List.range n).map fun (i:Nat)=>D.int (lo + (i:Nat))
theorem rngD_len (lo:Int) (n:Nat):(rngD lo n).length = n:=by simp [rngD]
theorem wk_rng {S:Addr→Prop} {H:Hp} {lo:Int} {n:Nat}:WkAt K S H (Itr lo n) (rngD lo n):=by
 intro k
 constructor
 ·intro d h
  unfold rngD at h
  rw [List.getElem?_map] at h
  obtain ⟨j,e1,e2⟩:=Option.map_eq_some_iff.mp h
  have lt:k < n:=by
   rcases Nat.lt_or_ge k n with q | q
   ·exact q
   ·rw [List.getElem?_eq_none (by simpa using q)] at e1; cases e1
  rw [List.getElem?_range lt] at e1
  cases e1
  refine ⟨lt,fun x H' z=>⟨z.1 ▸ Same.refl H,?_⟩⟩
  rw [z.2,← e2]
  unfold RepD; rfl
 ·intro h; rw [rngD_len] at h; exact h
def aRng1 (as:AA):AI:=fun ρ q=>as ρ fun rs ρ1=>match rs with
 | [.d (.int j)]=>(-(2 ^ 62) ≤ j∧j < 2 ^ 62)∧q (rngD 0 j.toNat) (fun _=>True) ρ1
 | _=>False
theorem tiok_rng1 {pin:Nat→Bool} {ta:TA} {as:AA} (h:TAok K ta as):TIok K pin (iRng1 ta) (aRng1 as):=by
 intro F σ ρ H q Rk r ha k
 refine h F σ ρ H _ _ r ha fun rs ρ1 vs H1 h1 r1 i1 k1=>?_
 split at h1
 ·obtain ⟨x,rfl,i⟩:=i1.one
  exact ⟨_,by rw [i.int],h1.1.1,h1.1.2,k _ _ _ _ _ h1.2 r1 k1 fun _ _ _ _ _ _ _ _=>wk_rng⟩
 ·exact h1.elim
def iSeq (K:PySem.W.Frag) (tl:TE):TI:=fun σ H R=>tl σ H fun x H1=>∃ a,x = .ref a∧(((∃ xs,SqL K H1 a xs)∧R (Itl K a) H1) ∨ ((∃ xs,SqT K H1 a xs)∧R (Itt K a) H1))
theorem pi_seq {X:Cx} {tg l:Expr} {tl:TE} (hl:PE X l tl):PI X tg l (iSeq X.K tl):=by
 intro pins s σ H R I h
 refine thn (hl pins s σ H _ I h) fun v s1 ⟨x,H1,I1,r1,q1⟩=>?_
 obtain ⟨a,e,⟨⟨xs,hq⟩,q⟩ | ⟨⟨xs,hq⟩,q⟩⟩:=q1
 ·subst e
  cases r1
  obtain ⟨its,rv,p,hz⟩:=I1.list hq
  refine wpAny_pyIter_list p.isList ?_
  refine ⟨s1.heap.objs.size,[s1.heap.objs.size],_,_,H1,rfl,I1.kept (t':=s1.toks) fun b o e=>Heap.get?_push_of_some _ e,turn_list a _,⟨_,Heap.get?_push_size _ rfl,rfl,rfl⟩,fun b hb=>?_,q⟩
  have e:b = s1.heap.objs.size:=by simpa using hb
  subst e
  exact I1.fpOk (Nat.le_refl _) (I1.hok.fresh (Nat.le_refl _))
 ·subst e
  cases r1
  obtain ⟨its,rv,p,hz⟩:=I1.tuple hq
  refine wpAny_pyIter_tuple (show s1.heap.IsTuple a its.toArray from p) ?_
  refine ⟨s1.heap.objs.size,[s1.heap.objs.size],_,_,H1,rfl,I1.kept (t':=s1.toks) fun b o e=>Heap.get?_push_of_some _ e,turn_tuple a _,⟨_,Heap.get?_push_size _ rfl,rfl,rfl⟩,fun b hb=>?_,q⟩
  have e:b = s1.heap.objs.size:=by simpa using hb
  subst e
  exact I1.fpOk (Nat.le_refl _) (I1.hok.fresh (Nat.le_refl _))
theorem pi_seqK (K:PySem.W.Frag) {X:Cx} {tg l:Expr} {tl:TE} (hl:PE X l tl) (hK:X.K = K:=by rfl):PI X tg l (iSeq K tl):=by subst hK; exact pi_seq hl
theorem wk_lst {S:Addr→Prop} {H:Hp} {a:Addr} {vs:List V} {ds:List D} (h:SqL K H a vs) (rd:RepDs K (hid H S) vs ds):WkAt K S H (Itl K a) ds:=by
 intro k
 constructor
 ·intro d e
  obtain ⟨v,e1,rv⟩:=rd.get e
  refine ⟨⟨vs,v,h,e1⟩,fun x H' z=>⟨z.1 ▸ Same.refl H,?_⟩⟩
  have:=z.2 vs h
  rw [e1] at this; cases this; rw [z.1]; exact rv
 ·intro z; exact ⟨vs,h,by rw [rd.length]; exact z⟩
theorem wk_tup {S:Addr→Prop} {H:Hp} {a:Addr} {vs:List V} {ds:List D} (h:SqT K H a vs) (rd:RepDs K (hid H S) vs ds):WkAt K S H (Itt K a) ds:=by
 intro k
 constructor
 ·intro d e
  obtain ⟨v,e1,rv⟩:=rd.get e
  refine ⟨⟨vs,v,h,e1⟩,fun x H' z=>⟨z.1 ▸ Same.refl H,?_⟩⟩
  have:=z.2 vs h
  rw [e1] at this; cases this; rw [z.1]; exact rv
 ·intro z; exact ⟨vs,h,by rw [rd.length]; exact z⟩
def aSeqI (pin:Nat→Bool) (x:AE):AI:=fun ρ q=>x ρ fun r ρ1=>match r.frz with
 | .d (.lst ds)=>q ds (fun _=>True) ρ1
 | .d (.tup ds)=>q ds (fun _=>True) ρ1
 | .o i=>(match gt ρ1 i with
  | .ow ds=>pin i = true∧q ds (fun ρ2=>gt ρ2 i = .ow ds) ρ1
  | _=>False)
 | _=>False
theorem tiok_seq {pin:Nat→Bool} (h:TEok K te ae):TIok K pin (iSeq K te) (aSeqI pin ae):=by
 intro F σ ρ H q Rk r ha k
 refine h F σ ρ H _ _ r ha fun r1 ρ1 x H1 h1 o1=>?_
 obtain ⟨r',k1,i1⟩:=o1.inF
 split at h1
 ·rename_i ds e
  rw [e] at i1
  have rd:RepD K _ x (.lst ds):=i1
  unfold RepD at rd
  obtain ⟨a,vs,rfl,sq,rd⟩:=rd
  refine ⟨a,rfl,.inl ⟨⟨vs,hid_sub.seq (StL.sq sq)⟩,k _ _ _ _ _ h1 r' k1 fun σ2 ρ2 H2 sm _ _ _ _=>?_⟩⟩
  exact wk_lst (hid_sub.seq (sm.seq (StL.sq sq))) (rd.same sm)
 ·rename_i ds e
  rw [e] at i1
  have rd:RepD K _ x (.tup ds):=i1
  unfold RepD at rd
  obtain ⟨a,vs,rfl,sq,rd⟩:=rd
  refine ⟨a,rfl,.inr ⟨⟨vs,hid_sub.seqT sq.sq⟩,k _ _ _ _ _ h1 r' k1 fun σ2 ρ2 H2 sm _ _ _ _=>?_⟩⟩
  exact wk_tup (hid_sub.seqT (sm.seqT sq.sq)) (rd.same sm)
 ·rename_i i e
  rw [e] at i1
  have ei:σ[i]? = some (some x):=i1
  split at h1
  ·rename_i ds hg
   have s:=r'.sl i
   rw [hg,ei] at s
   obtain ⟨a,vs,e1,hl,rd⟩:=s
   injection e1 with e1; injection e1 with e1; subst e1
   refine ⟨a,rfl,.inl ⟨⟨vs,SqL.of hl⟩,k _ _ _ _ _ h1.2 r' k1 fun σ2 ρ2 H2 sm sv pn _ hc=>?_⟩⟩
   have s2:=sv i
   rw [hc,pn i a h1.1 ei] at s2
   obtain ⟨a',vs',e2,hl',rd'⟩:=s2
   injection e2 with e2; injection e2 with e2; injection e2 with e2; subst e2
   exact wk_lst (SqL.of hl') rd'
  ·exact h1.elim
 ·exact h1.elim
def forA (c:En→Prop) (g:AG) (b:AS) (e:AEnds):List D→En→Prop
 | [],ρ=>c ρ∧e.nx ρ
 | d :: ds,ρ=>c ρ∧g d ρ fun ρ1=>b { nx:=forA c g b e ds,ct:=forA c g b e ds,bk:=e.nx,rt:=e.rt } ρ1
def aFor (i:AI) (g:AG) (b:AS):AS:=fun e ρ=>i ρ fun ds c ρ1=>forA c g b e ds ρ1
theorem sok_for {pin:Nat→Bool} {wi:TI} {ai:AI} {g:TG} {ag:AG} (hi:TIok K pin wi ai) (hg:TGok K (fun j=>pr j || pin j) g ag) (hb:TSok K (fun j=>pr j || pin j) t a):TSok K pr (tFor wi g t) (aFor ai ag a):=by
 intro F σ ρ H D e hp r ha k
 refine hi F σ ρ H _ _ r ha fun ds c ρ1 J H1 h1 r1 k1 wk=>?_
 have hp':∀ i a,(rebase F σ ρ1 H1 pin).pin i a→(pr i || pin i) = true:=fun i a h=>by
  rcases h with h | h | h
  ·rw [hp i a (.inl h)]; rfl
  ·rw [hp i a (.inr h)]; rfl
  ·rw [h.1]; cases pr i <;> rfl
 have ek:EndOk K (rebase F σ ρ1 H1 pin) D e:=⟨fun _ _ _ h' r'=>k.nx _ _ _ h' (r1.unbase r').1,fun _ _ _ h' r'=>k.bk _ _ _ h' (r1.unbase r').1,fun _ _ _ h' r'=>k.ct _ _ _ h' (r1.unbase r').1,fun _ _ _ _ _ h' r'=>k.rt _ _ _ _ _ h' (RelR.unbase r1 r')⟩
 refine ⟨fun i m σ' H'=>∃ ρ',m = ds.length - i∧i ≤ ds.length∧Rel K (rebase F σ ρ1 H1 pin) σ' ρ' H'∧forA c ag a e (ds.drop i) ρ',⟨ds.length,ρ1,rfl,Nat.zero_le _,r1.rebase pin,h1⟩,?_⟩
 rintro i m σ' H' ⟨ρ',rfl,hl,r',h'⟩
 have w:c ρ'→WkAt K (hs F σ' ρ') H' J ds:=fun hc=>wk σ' ρ' H' (r1.unbase r').2 r'.sl (fun j x hj ej=>r'.mi j x (.inr (.inr ⟨hj,ej⟩))) (fun a z=>hs_nt r' z) hc
 rcases Nat.lt_or_ge i ds.length with q | q
 ·right
  rw [List.drop_eq_getElem_cons q] at h'
  unfold forA at h'
  obtain ⟨hc,h'⟩:=h'
  obtain ⟨go,yld⟩:=(w hc i).1 ds[i] (List.getElem?_eq_getElem q)
  refine ⟨go,fun σ2 H2=>∃ ρ2,Rel K (rebase F σ ρ1 H1 pin) σ2 ρ2 H2∧forA c ag a e (ds.drop (i + 1)) ρ2,fun σ2 H2 ⟨ρ2,r2,h2⟩=>⟨ds.length - (i + 1),by omega,ρ2,rfl,q,r2,h2⟩,fun x H2 hy=>?_⟩
  obtain ⟨sm,rd⟩:=yld x H2 hy
  refine hg _ σ' ρ' _ x _ _ _ hp' (r'.grow sm) rd h' fun σ3 ρ3 h3 r3 _ _ _=>?_
  exact hb _ σ3 ρ3 _ _ _ hp' r3 h3 ⟨fun σ' ρ' H' h' r'=>⟨ρ',r',h'⟩,ek.nx,fun σ' ρ' H' h' r'=>⟨ρ',r',h'⟩,ek.rt⟩
 ·left
  rw [List.drop_eq_nil_of_le q] at h'
  unfold forA at h'
  obtain ⟨hc,h'⟩:=h'
  exact ⟨(w hc i).2 q,ek.nx _ _ _ h' r'⟩
end
def blkE (n:Nat) (js:List Nat) (ρ:En):En:=List.replicate n .un ++ js.map (gt ρ)
def blkR (n:Nat) (js:List Nat):List R:=List.replicate n (R.t "") ++ js.map R.o
theorem blkR_slots (n:Nat) (js:List Nat) (ρ:En):(blkR n js).map (slotR ρ) = blkE n js ρ:=by
 unfold blkR blkE
 rw [List.map_append,List.map_replicate,List.map_map]
 rfl
theorem blkR_dis (js:List Nat):∀ n,dis (blkR n js) = dis (js.map R.o)
 | 0=>rfl
 | n + 1=>by
  show dis (R.t "" :: blkR n js) = _
  exact blkR_dis js n
theorem blkR_back (js:List Nat) (ρ:En) (n:Nat):∀ ss:En,ss.length = n + js.length→back ρ (blkR n js) ss = back ρ (js.map R.o) (ss.drop n):=by
 induction n with
 | zero=>intro ss _; rfl
 | succ n ih =>
  intro ss h
  cases ss with
  | nil=>simp at h; omega
  | cons s ss=>exact ih ss (by simp at h; omega)
theorem blkE_own {n:Nat} {js:List Nat} {ρ:En} {i:Nat} (h:(gt (blkE n js ρ) i).own = true):n ≤ i:=by
 rcases Nat.lt_or_ge i n with q | q
 ·exfalso
  have:∀ (n i:Nat) (x:En),i < n→gt (List.replicate n Sv.un ++ x) i = .un:=by
   intro n
   induction n with
   | zero=>intro i x h; omega
   | succ n ih =>
    intro i x h
    cases i with
    | zero=>rfl
    | succ i=>exact ih i x (by omega)
  unfold blkE at h
  rw [this n i _ q] at h
  cases h
 ·exact q
section
variable {K:PySem.W.Frag} {F:Fr} {σ σ':St} {ρ ρ':En} {H H':Hp}
theorem blk_srcs (n:Nat) (js:List Nat):Srcs K F σ ρ H (bst n σ js) (blkR n js):=by
 unfold bst blkR
 induction n with
 | zero =>
  induction js with
  | nil=>exact .nil
  | cons j js ih=>exact .cons rfl ih
 | succ n ih=>exact .cons trivial ih
theorem gt_drop:∀ (n i:Nat) (ρ:En),gt (ρ.drop n) i = gt ρ (n + i)
 | 0,i,ρ=>by simp
 | n + 1,i,[]=>by simp [gt]
 | n + 1,i,s :: ρ=>by rw [List.drop_succ_cons,gt_drop n i ρ,Nat.add_right_comm]; rfl
theorem gt_pad:∀ (n i:Nat) (x:En),gt (List.replicate n Sv.un ++ x) i = if i < n then .un else gt x (i - n)
 | 0,i,x=>by simp
 | n + 1,0,x=>by simp [List.replicate_succ,gt]
 | n + 1,i + 1,x=>by
  show gt (List.replicate n Sv.un ++ x) i = _
  rw [gt_pad n i x]
  by_cases h:i < n
  ·rw [if_pos h,if_pos (by omega)]
  ·rw [if_neg h,if_neg (by omega)]; congr 1; omega
theorem Rel.forget {n:Nat} (r:Rel K F σ ρ H) (hn:n ≤ σ.length) (hp:∀ i a,F.pin i a→n ≤ i):Rel K F (List.replicate n none ++ σ.drop n) (List.replicate n .un ++ ρ.drop n) H∧Same (hid H (hs F σ ρ)) (hid H (hs F (List.replicate n none ++ σ.drop n) (List.replicate n .un ++ ρ.drop n))):=by
 have g:∀ i,gt (List.replicate n .un ++ ρ.drop n) i = if i < n then .un else gt ρ i:=fun i=>by
  rw [gt_pad]
  split
  ·rfl
  ·rw [gt_drop]; congr 1; omega
 have s:∀ i,n ≤ i→(List.replicate n none ++ σ.drop n)[i]? = σ[i]?:=fun i h=>by
  rw [List.getElem?_append_right (by simpa using h),List.length_replicate,List.getElem?_drop]
  congr 1; omega
 have own':∀ i,(gt (List.replicate n .un ++ ρ.drop n) i).own = true→n ≤ i∧(gt ρ i).own = true:=fun i h=>by
  rw [g] at h
  split at h
  ·cases h
  ·exact ⟨by omega,h⟩
 have sub:∀ a,owned (List.replicate n none ++ σ.drop n) (List.replicate n .un ++ ρ.drop n) a→owned σ ρ a:=fun a ⟨i,hi,e⟩=>by
  obtain ⟨h1,h2⟩:=own' i hi
  rw [s i h1] at e
  exact ⟨i,h2,e⟩
 have vis:Same (hid H (hs F σ ρ)) (hid H (hs F (List.replicate n none ++ σ.drop n) (List.replicate n .un ++ ρ.drop n))):=hid_same fun a o e n=>⟨e,fun z=>n (z.imp id (sub a))⟩
 refine ⟨⟨by have:=r.len; simp; omega,r.fr,r.zl,fun a h=>r.zo a (sub a h),fun i a hi e=>?_,fun i a h=>?_,r.ml,r.ma,fun i j a hi hj ei ej=>?_,fun i=>?_⟩,vis⟩
 ·obtain ⟨h1,h2⟩:=own' i hi
  rw [s i h1] at e
  exact r.ow i a h2 e
 ·rw [s i (hp i a h)]; exact r.mi i a h
 ·obtain ⟨h1,h2⟩:=own' i hi
  obtain ⟨h3,h4⟩:=own' j hj
  rw [s i h1] at ei
  rw [s j h3] at ej
  exact r.nd i j a h2 h4 ei ej
 ·rw [g]
  split
  ·trivial
  ·rw [s i (by omega)]
   exact (r.sl i).keep vis fun _ _ _ _ e=>e
end
def compA (n:Nat) (js:List Nat) (c:En→Prop) (g:AG) (tc:AT) (te:AE) (q:List D→En→Prop):List D→List D→En→Prop
 | [],acc,ρ=>c ρ∧q acc ρ
 | d :: ds,acc,ρ=>c ρ∧g d (blkE n js ρ) fun ρ1=>tc ρ1 fun b ρ2=>if b = true then te ρ2 fun r ρ3=>sto [r.frz] ρ3 fun es ρ4=>compA n js c g tc te q ds (acc ++ es) (back ρ (js.map R.o) (ρ4.drop n)) else compA n js c g tc te q ds acc (back ρ (js.map R.o) (ρ2.drop n))
def aComp (n:Nat) (js:List Nat) (i:AI) (g:AG) (tc:AT) (te:AE):AE:=fun ρ q=>i ρ fun ds c ρ1=>ds.length ≤ 1000000∧compA n js c g tc te (fun acc ρ2=>q (.f acc) ρ2) ds [] ρ1
def aAll:AT:=fun ρ q=>q true ρ
section
variable {K:PySem.W.Frag}
theorem ttok_all:TTok K tAll aAll:=fun F σ ρ H q Q r h k=>k _ _ _ h r .refl
theorem sto_one {F:Fr} {σ:St} {ρ:En} {H:Hp} {v:V} {r:R} {q:List D→En→Prop} (a:Rel K F σ ρ H) (i:InF K F σ ρ H v r) (h:sto [r] ρ q):∃ d ρ',q [d] ρ'∧Rel K F σ ρ' H∧Kp σ ρ ρ' H H∧RepD K (hid H (hs F σ ρ')) v d:=by
 obtain ⟨ds,ρ',h1,h2,h3,h4⟩:=sto_ok a (.cons i .nil) h
 cases ds with
 | nil=>unfold RepDs at h4; exact h4.elim
 | cons d ds =>
  unfold RepDs at h4
  cases ds with
  | nil=>exact ⟨d,ρ',h1,h2,h3,h4.1⟩
  | cons _ _=>obtain ⟨_,z⟩:=h4; unfold RepDs at z; exact z.elim
theorem tok_comp {n:Nat} {js:List Nat} {wi:TI} {g:TG} {tc:TT} {te:TE} {ai:AI} {ag:AG} {atc:AT} {ate:AE} (hi:TIok K (fun _=>true) wi ai) (hg:TGok K (fun j=>decide (n ≤ j)) g ag) (hc:TTok K tc atc) (he:TEok K te ate)
  (hd:dis (js.map R.o) = true:=by rfl):TEok K (tComp n js wi g tc te) (aComp n js ai ag atc ate):=by
 intro F σ ρ H q Q r h k
 refine hi F σ ρ H _ _ r h fun ds c ρ1 J H1 h1 r1 k1 wk=>?_
 obtain ⟨hz,h1⟩:=h1
 have hd':dis (blkR n js) = true:=by rw [blkR_dis]; exact hd
 refine ⟨fun i m ys H'=>∃ ρ' acc,m = ds.length - i∧i ≤ ds.length∧Rel K F σ ρ' H'∧Kp σ ρ1 ρ' H1 H'∧RepDs K (hid H' (hs F σ ρ')) ys acc∧acc.length ≤ i∧compA n js c ag atc ate (fun acc ρ2=>q (.f acc) ρ2) (ds.drop i) acc ρ',⟨ds.length,ρ1,[],rfl,Nat.zero_le _,r1,.refl,.nil,Nat.zero_le _,h1⟩,?_⟩
 rintro i m ys H' ⟨ρ',acc,rfl,hl,r',k',rd,al,h'⟩
 have w:c ρ'→WkAt K (hs F σ ρ') H' J ds:=fun hc=>wk σ ρ' H' k'.vis r'.sl (fun _ _ _ e=>e) (fun a z=>hs_nt r' z) hc
 have yl:ys.length = acc.length:=rd.length
 rcases Nat.lt_or_ge i ds.length with lt | ge
 ·right
  rw [List.drop_eq_getElem_cons lt] at h'
  unfold compA at h'
  obtain ⟨hcc,h'⟩:=h'
  obtain ⟨go,yld⟩:=(w hcc i).1 ds[i] (List.getElem?_eq_getElem lt)
  refine ⟨go,smallS (by omega),fun zs H2=>∃ ρ2 acc2,Rel K F σ ρ2 H2∧Kp σ ρ1 ρ2 H1 H2∧RepDs K (hid H2 (hs F σ ρ2)) zs acc2∧acc2.length ≤ i + 1∧compA n js c ag atc ate (fun acc ρ2=>q (.f acc) ρ2) (ds.drop (i + 1)) acc2 ρ2,
   fun zs H2 ⟨ρ2,acc2,a1,a2,a3,a4,a5⟩=>⟨ds.length - (i + 1),by omega,ρ2,acc2,rfl,lt,a1,a2,a3,a4,a5⟩,fun x H2 hy=>?_⟩
  obtain ⟨sm,rx⟩:=yld x H2 hy
  have r0':=r'
  have k':Kp σ ρ1 ρ' H1 H2:=k'.trans ⟨fun a o e _=>sm a o e,fun _ h=>h⟩
  have rd:RepDs K (hid H2 (hs F σ ρ')) ys acc:=rd.same (hid_same fun a o e n=>⟨sm a o e,n⟩)
  have r':=r0'.grow sm
  have src:=blk_srcs (K:=K) (F:=F) (σ:=σ) (ρ:=ρ') (H:=H2) n js
  have rb:=r'.sub src hd'
  have hs2:=sub_hs r' src
  rw [blkR_slots] at rb hs2
  have pin:∀ i a,(subFr F σ ρ' H2 (bst n σ js) (blkE n js ρ')).pin i a→decide (n ≤ i) = true:=fun i a h=>by
   rcases h with h | h
   ·exact decide_eq_true (blkE_own h.1)
   ·exact h.elim
  have hlen:(bst n σ js).length = n + js.length:=bst_len
  have ret:∀ σ2 ρ2 H3,Rel K (subFr F σ ρ' H2 (bst n σ js) (blkE n js ρ')) σ2 ρ2 H3→σ2.length = (bst n σ js).length→σ2.drop n = capt σ js→(∀ i,(gt ρ2 i).own = true→(gt (blkE n js ρ') i).own = true) →
    Rel K F σ (back ρ' (js.map R.o) (ρ2.drop n)) H3∧Kp σ ρ' (back ρ' (js.map R.o) (ρ2.drop n)) H2 H3∧Same (hid H3 (hs (subFr F σ ρ' H2 (bst n σ js) (blkE n js ρ')) σ2 ρ2)) (hid H3 (hs F σ (back ρ' (js.map R.o) (ρ2.drop n)))):=fun σ2 ρ2 H3 rr hlen2 hdrop hown=>by
   obtain ⟨f1,f2⟩:=rr.forget (n:=n) (by omega) fun i a h=>of_decide_eq_true (pin i a h)
   rw [hdrop] at f1 f2
   have f1':Rel K (subFr F σ ρ' H2 (bst n σ js) ((blkR n js).map (slotR ρ'))) (bst n σ js) (List.replicate n .un ++ ρ2.drop n) H3:=by rw [blkR_slots]; exact f1
   have bk:=r'.back src hd' f1' fun i hi=>by
    rw [blkR_slots]
    rw [gt_pad] at hi
    split at hi
    ·cases hi
    ·rename_i hni
     rw [gt_drop,show n + (i - n) = i by omega] at hi
     exact hown i hi
   have ln:(List.replicate n Sv.un ++ ρ2.drop n).length = n + js.length:=by
    have:=rr.len
    simp; omega
   rw [blkR_back js ρ' n _ ln,List.drop_left' (by simp),blkR_slots] at bk
   exact ⟨bk.1,bk.2.1,f2.trans bk.2.2⟩
  refine hg _ (bst n σ js) (blkE n js ρ') H2 x _ _ _ pin rb (by rw [hs2]; exact rx) h' fun σ2 ρ2 h2 r2 l2 p2 o2=>?_
  have hdrop:σ2.drop n = capt σ js:=by
   have:σ2.drop n = (bst n σ js).drop n:=by
    apply List.ext_getElem?
    intro i
    rw [List.getElem?_drop,List.getElem?_drop]
    exact p2 (n + i) (decide_eq_true (by omega))
   rw [this]
   unfold bst
   rw [List.drop_left' (by simp)]
  refine ⟨hdrop,hc _ σ2 ρ2 H2 _ _ r2 h2 fun b ρ3 H3 h3 r3 k3=>?_⟩
  cases b with
  | false =>
   obtain ⟨b1,b2,_⟩:=ret σ2 ρ3 H3 r3 l2 hdrop fun i hi=>(o2 i (k3.sb i hi)).1
   exact ⟨_,acc,b1,k'.trans b2,rd.same b2.vis,by omega,h3⟩
  | true =>
   refine he _ σ2 ρ3 H3 _ _ r3 h3 fun r4 ρ4 v H4 h4 o4=>?_
   obtain ⟨r4',k4,i4⟩:=o4.inF
   obtain ⟨d,ρ5,h5,r5,k5,rv⟩:=sto_one r4' i4 h4
   obtain ⟨b1,b2,b3⟩:=ret σ2 ρ5 H4 r5 l2 hdrop fun i hi=>(o2 i (k3.sb i (k4.sb i (k5.sb i hi)))).1
   exact ⟨_,acc ++ [d],b1,k'.trans b2,(rd.same b2.vis).append (.one (rv.same b3)),by simp; omega,h5⟩
 ·left
  rw [List.drop_eq_nil_of_le ge] at h'
  unfold compA at h'
  obtain ⟨hcc,h'⟩:=h'
  refine ⟨(w hcc i).2 ge,small (by omega),fun l hl'=>?_⟩
  exact ((k.after k1).after k').new r' h' rd hl'
end
def outS:En→En→En
 | [],_=>[]
 | s :: ss,ρ=>(if s.own = true then gt ρ 0 else s) :: outS ss ρ.tail
theorem gt_tail (ρ:En) (i:Nat):gt ρ.tail i = gt ρ (i + 1):=by cases ρ <;> rfl
theorem outS_len:∀ (ss ρ:En),(outS ss ρ).length = ss.length
 | [],_=>rfl
 | s :: ss,ρ=>by simp [outS,outS_len ss]
theorem gt_outS:∀ (ss ρ:En) (i:Nat),gt (outS ss ρ) i = if (gt ss i).own = true then gt ρ i else gt ss i
 | [],ρ,i=>by simp [outS,gt,Sv.own]
 | s :: ss,ρ,0=>rfl
 | s :: ss,ρ,i + 1=>by
  show gt (outS ss ρ.tail) i = _
  rw [gt_outS ss ρ.tail i,gt_tail]
  rfl
def fin (pr:Nat→Bool):R→En→Ko→Prop
 | .d d,ρ,k=>k (.d d) ρ
 | .n s,ρ,k=>k (.n s) ρ
 | .o i,ρ,k=>(match gt ρ i with
  | .ow ds=>if pr i = true then k (.d (.lst ds)) (pt ρ i (.vl (.lst ds))) else k (.n (.ow ds)) (pt ρ i .un)
  | .vl d=>k (.d d) ρ
  | .dk kvs=>if pr i = true then False else k (.n (.dk kvs)) (pt ρ i .un)
  | .dt kvs=>if pr i = true then False else k (.n (.dt kvs)) (pt ρ i .un)
  | _=>False)
 | .t _,_,_=>False
 | .x s,ρ,k=>k (.x s) ρ
def ownPr (pr:Nat→Bool) (ss:En):Prop:=∀ i,(gt ss i).own = true→pr i = true
section
variable {K:PySem.W.Frag} {F:Fr} {σ σ':St} {ρ ρ':En} {H H':Hp}
open Classical in
noncomputable def del (H:Hp) (l:Addr):Hp:=fun a=>if a = l then none else H a
open Classical in
theorem del_same {l:Addr}:del H l l = none:=by unfold del; rw [if_pos rfl]
open Classical in
theorem del_ne {a l:Addr} (h:a ≠ l):del H l a = H a:=by unfold del; rw [if_neg h]
theorem del_upd {l:Addr} {o:HO} (h:H l = some o):upd (del H l) l o = H:=by
 funext a
 by_cases e:a = l
 ·subst e; rw [upd_same,h]
 ·rw [upd_ne e,del_ne e]
theorem Rel.take (r:Rel K F σ ρ H) {i:Nat} (hi:(gt ρ i).own = true) (hm:∀ a,¬ F.pin i a):∃ l o,H l = some o∧σ[i]? = some (some (.ref l))∧Rel K F σ (pt ρ i .un) (del H l)∧SvOk K (hid (del H l) (hs F σ (pt ρ i .un))) H (some (some (.ref l))) (gt ρ i):=by
 have s:=r.sl i
 obtain ⟨l,o,el,hl⟩:=s.alive hi
 have own':∀ j,(gt (pt ρ i .un) j).own = true→i ≠ j∧(gt ρ j).own = true:=fun j h=>own_set rfl h
 have sub:∀ a,owned σ (pt ρ i .un) a→owned σ ρ a∧a ≠ l:=fun a ⟨j,hj,e⟩=>by
  obtain ⟨ij,hj⟩:=own' j hj
  exact ⟨⟨j,hj,e⟩,fun z=>ij (r.nd i j l hi hj el (z ▸ e))⟩
 have ol:owned σ ρ l:=⟨i,hi,el⟩
 have vis:Same (hid H (hs F σ ρ)) (hid (del H l) (hs F σ (pt ρ i .un))):=hid_same fun a u e n=>by
  have al:a ≠ l:=fun z=>n (.inr (z ▸ ol))
  exact ⟨by rw [del_ne al]; exact e,fun z=>n (z.imp id fun z=>(sub a z).1)⟩
 have h0:F.H0 l = none:=by
  rcases r.ow i l hi el with h | h
  ·exact absurd (Or.inl h.1) (hm l)
  ·exact h
 refine ⟨l,o,hl,el,⟨by rw [pt_len,r.len],fun a u e n=>?_,fun a z=>?_,fun a h=>r.zo a (sub a h).1,fun j a hj e=>r.ow j a (own' j hj).2 e,r.mi,r.ml,fun a z=>?_,fun j k a hj hk ej ek=>r.nd j k a (own' j hj).2 (own' k hk).2 ej ek,fun j=>?_⟩,?_⟩
 ·have al:a ≠ l:=fun z=>by rw [z,h0] at e; cases e
  rw [del_ne al]; exact r.fr a u e n
 ·have al:a ≠ l:=fun q=>r.zo l ol (q ▸ z)
  unfold Nt; rw [del_ne al]; exact r.zl a z
 ·have al:a ≠ l:=fun q=>r.ml a z (q ▸ h0)
  rw [del_ne al]; exact r.ma a z
 ·by_cases ij:i = j
  ·subst ij
   rw [gt_pt ρ i _ (own_lt hi)]; trivial
  ·rw [gt_pt_ne ρ i j _ ij]
   refine (r.sl j).keep vis fun a u ho e h=>?_
   have al:a ≠ l:=fun z=>ij (r.nd i j l hi ho el (z ▸ e))
   rw [del_ne al]; exact h
 ·rw [el] at s
  exact s.keep vis fun _ _ _ _ e=>e
theorem Rel.out {vs:List V} {ss:En} {Z:Addr→Prop} (r0:Rel K (F0 vs ss H Z) (vs.map some) ss H) (r:Rel K (F0 vs ss H Z) σ' ρ' H') :
  Rel K (F0 vs ss H Z) (vs.map some) (outS ss ρ') H'∧Same (hid H' (hs (F0 vs ss H Z) σ' ρ')) (hid H' (hs (F0 vs ss H Z) (vs.map some) (outS ss ρ')))∧∀ i,(gt (outS ss ρ') i).own = true→(gt ss i).own = true:=by
 have own':∀ i,(gt (outS ss ρ') i).own = true→(gt ss i).own = true∧(gt ρ' i).own = true:=fun i h=>by
  rw [gt_outS] at h
  split at h
  ·rename_i q; exact ⟨q,h⟩
  ·rename_i q; exact absurd h q
 have same:∀ i a,(gt ss i).own = true→(vs.map some)[i]? = some (some (.ref a))→σ'[i]? = some (some (.ref a)):=fun i a h e=>r.mi i a (.inl ⟨h,e⟩)
 have sub:∀ a,owned (vs.map some) (outS ss ρ') a→owned σ' ρ' a∧owned (vs.map some) ss a:=fun a ⟨i,hi,e⟩=>by
  obtain ⟨h1,h2⟩:=own' i hi
  exact ⟨⟨i,h2,same i a h1 e⟩,⟨i,h1,e⟩⟩
 have v1:Same (hid H' (hs (F0 vs ss H Z) σ' ρ')) (hid H' (hs (F0 vs ss H Z) (vs.map some) (outS ss ρ'))):=hid_same fun a o e n=>⟨e,fun z=>n (z.imp id fun z=>(sub a z).1)⟩
 have v2:Same (hid H (hs (F0 vs ss H Z) (vs.map some) ss)) (hid H' (hs (F0 vs ss H Z) (vs.map some) (outS ss ρ'))):=hid_same fun a o e n=>⟨r.fr a o e fun z=>n (.inr z),fun z=>n (z.imp id fun z=>(sub a z).2)⟩
 refine ⟨⟨by rw [outS_len,r0.len],r.fr,r.zl,fun a h=>r.zo a (sub a h).1,fun i a hi e=>.inl ⟨⟨(own' i hi).1,e⟩,i,(own' i hi).1,e⟩,r0.mi,r.ml,r.ma,fun i j a hi hj ei ej=>r0.nd i j a (own' i hi).1 (own' j hj).1 ei ej,fun i=>?_⟩,v1,fun i h=>(own' i h).1⟩
 rw [gt_outS]
 split
 ·rename_i q
  obtain ⟨l,o,e1,e2⟩:=(r0.sl i).alive q
  have:=same i l q e1
  rw [e1,← this]
  exact (r.sl i).keep v1 fun _ _ _ _ e=>e
 ·rename_i q
  exact (r0.sl i).keep v2 fun l o ho=>absurd ho q
theorem gt_app:∀ (ρ:En) (n i:Nat),gt (ρ ++ List.replicate n .un) i = gt ρ i
 | [],n,i=>by
  show gt (List.replicate n .un) i = .un
  induction n generalizing i with
  | zero=>rfl
  | succ n ih=>cases i with
   | zero=>rfl
   | succ i=>exact ih i
 | s :: ρ,n,0=>rfl
 | s :: ρ,n,i + 1=>gt_app ρ n i
theorem Rel.ext (r:Rel K F σ ρ H) (n:Nat):Rel K F (σ ++ List.replicate n none) (ρ ++ List.replicate n .un) H:=by
 have s:∀ {i a},(gt ρ i).own = true→(σ ++ List.replicate n none)[i]? = some (some (V.ref a))→σ[i]? = some (some (.ref a)):=fun {i a} h e=>by
  rwa [List.getElem?_append_left (by rw [r.len]; exact own_lt h)] at e
 have sub:∀ a,owned (σ ++ List.replicate n none) (ρ ++ List.replicate n .un) a→owned σ ρ a:=fun a ⟨i,hi,e⟩=>by
  rw [gt_app] at hi
  exact ⟨i,hi,s hi e⟩
 have vis:Same (hid H (hs F σ ρ)) (hid H (hs F (σ ++ List.replicate n none) (ρ ++ List.replicate n .un))):=hid_same fun a o e n=>⟨e,fun z=>n (z.imp id (sub a))⟩
 refine ⟨by simp [r.len],r.fr,r.zl,fun a h=>r.zo a (sub a h),fun i a hi e=>?_,fun i a h=>?_,r.ml,r.ma,fun i j a hi hj ei ej=>?_,fun i=>?_⟩
 ·rw [gt_app] at hi
  exact r.ow i a hi (s hi e)
 ·have:=r.mi i a h
  rw [List.getElem?_append_left (List.getElem?_eq_some_iff.mp this).1]; exact this
 ·rw [gt_app] at hi hj
  exact r.nd i j a hi hj (s hi ei) (s hj ej)
 ·rw [gt_app]
  have q:=r.sl i
  rcases Nat.lt_or_ge i σ.length with lt | ge
  ·rw [List.getElem?_append_left lt]
   exact q.keep vis fun _ _ _ _ e=>e
  ·rw [gt_out ρ i (by rw [← r.len]; exact ge)]; trivial
end
theorem DefN.aok {P:Program} {w:World} {K:PySem.W.Frag} {mg:Str→Option Value} {base:Heap} {x:Str} {st:Stmt} {N ps:List Str} {k:Nat} {a:AS} (D:DefN K mg x st ps) (Sc:FnScope N ps (defScope st)) (pr:Nat→Bool) (S:ASp)
  (hbody:∀ (f:Addr) (cdv:Value) (A:Around) (outer:List Env) (s:Shared) (H:Hp) (E:XK),Room k (A.deeper (envOfC x (defScope st) s.heap.objs.size f cdv)) →
   ∃ t,PSs (cxOf CX0 P w K mg base N x (defScope st) f cdv A outer s H E).nox (defBody st) t∧TSok K pr t a)
  (hS:∀ ss q,S ss q→ss.length = ps.length∧ownPr pr ss∧a ⟨fun ρ=>q (.d .non) (outS ss ρ),fun r ρ=>fin pr r ρ fun r' ρ'=>q r' (outS ss ρ'),fun _=>False,fun _=>False⟩ (ss ++ List.replicate (N.length - ps.length) .un)):OkN P w K mg base (k + 1) x ps (spA K S):=by
 have lenOk:∀ vs H Q E,spA K S vs H Q E→vs.length = ps.length:=fun vs H Q E h=>by
  obtain ⟨ss,Z,q,r,hs',_⟩:=h
  have:=r.len
  rw [List.length_map] at this
  rw [this]; exact (hS ss q hs').1
 refine D.ok Sc lenOk (fun f cdv A outer s H vs Q E hr h=>?_)
 have hl:=lenOk _ _ _ _ h
 obtain ⟨ss,Z,q,r0,hs',post⟩:=h
 obtain ⟨h1,h2,h3⟩:=hS ss q hs'
 obtain ⟨t,ht,tok⟩:=hbody f cdv A outer s H E hr
 refine ⟨t,ht,?_⟩
 have hp:∀ i a,(F0 vs ss H Z).pin i a→pr i = true:=fun i a h=>by
  rcases h with h | h
  ·exact h2 i h.1
  ·exact h.elim
 unfold start
 rw [hl]
 have fin_d:∀ σ' ρ' v H' d,q (.d d) (outS ss ρ')→Rel K (F0 vs ss H Z) σ' ρ' H'→RepD K (hid H' (hs (F0 vs ss H Z) σ' ρ')) v d→Q v H':=fun σ' ρ' v H' d hq r rd=>by
  obtain ⟨o1,o2,o3⟩:=r0.out r
  exact post (.d d) _ v H' hq o3 (fun i z=>nomatch z) ⟨o1,rd.same o2⟩
 refine tok (F0 vs ss H Z) _ _ H _ _ hp (r0.ext _) h3 ⟨fun σ' ρ' H' hq r=>?_,fun _ _ _ z=>z.elim,fun _ _ _ z=>z.elim,fun σ' ρ' rr v H' hq r=>?_⟩
 ·exact fin_d σ' ρ' _ H' .non hq r (by unfold RepD; rfl)
 ·cases rr with
  | d d=>exact fin_d σ' ρ' v H' d hq r.1 r.2
  | t n=>exact hq.elim
  | x s =>
   obtain ⟨ra,rb,rc⟩:=r
   obtain ⟨o1,o2,o3⟩:=r0.out ra
   exact post (.x s) _ v H' hq o3 (fun i z=>nomatch z) ⟨o1,rb,rc.keep o2 fun l o ho=>by rw [rb] at ho; cases ho⟩
  | n sv =>
   obtain ⟨Hb,l,o,a1,a2,a3,a4,a5,a6⟩:=r
   obtain ⟨o1,o2,o3⟩:=r0.out a1
   exact post (.n sv) _ v H' hq o3 (fun i z=>nomatch z) ⟨Hb,l,o,o1,a2,a3.keep o2 fun _ _ _ _ e=>e,a4,a5,a6⟩
  | o i =>
   obtain ⟨r,ei⟩:=r
   have hq':(match gt ρ' i with
    | .ow ds=>if pr i = true then q (.d (.lst ds)) (outS ss (pt ρ' i (.vl (.lst ds)))) else q (.n (.ow ds)) (outS ss (pt ρ' i .un))
    | .vl d=>q (.d d) (outS ss ρ')
    | .dk kvs=>if pr i = true then False else q (.n (.dk kvs)) (outS ss (pt ρ' i .un))
    | .dt kvs=>if pr i = true then False else q (.n (.dt kvs)) (outS ss (pt ρ' i .un))
    | _=>False):=hq
   clear hq
   split at hq'
   ·rename_i ds hg
    split at hq'
    ·obtain ⟨l,el,r2,k2,rd⟩:=r.frz hg
     rw [ei] at el
     injection el with el; injection el with el; subst el
     exact fin_d σ' _ _ H' _ hq' r2 rd
    ·rename_i hpr
     have ho:(gt ρ' i).own = true:=by rw [hg]; rfl
     obtain ⟨l,o,hl',el,r2,sv⟩:=r.take ho fun a z=>hpr (hp i a z)
     rw [ei] at el
     injection el with el; injection el with el; subst el
     obtain ⟨o1,o2,o3⟩:=r0.out r2
     rw [hg] at sv
     refine post (.n (.ow ds)) _ _ H' hq' o3 (fun i z=>nomatch z) ⟨del H' l,l,o,o1,rfl,?_,del_same,(del_upd hl').symm,rfl⟩
     rw [del_upd hl']
     exact sv.keep o2 fun _ _ _ _ e=>e
   ·rename_i d hg
    have s:=r.sl i
    rw [hg,ei] at s
    obtain ⟨x,e1,rd⟩:=s
    injection e1 with e1; injection e1 with e1; subst e1
    exact fin_d σ' ρ' _ H' d hq' r rd
   ·rename_i kvs hg
    split at hq'
    ·exact hq'.elim
    ·rename_i hpr
     have ho:(gt ρ' i).own = true:=by rw [hg]; rfl
     obtain ⟨l,o,hl',el,r2,sv⟩:=r.take ho fun a z=>hpr (hp i a z)
     rw [ei] at el
     injection el with el; injection el with el; subst el
     obtain ⟨o1,o2,o3⟩:=r0.out r2
     rw [hg] at sv
     refine post (.n (.dk kvs)) _ _ H' hq' o3 (fun i z=>nomatch z) ⟨del H' l,l,o,o1,rfl,?_,del_same,(del_upd hl').symm,rfl⟩
     rw [del_upd hl']
     exact sv.keep o2 fun _ _ _ _ e=>e
   ·rename_i kvs hg
    split at hq'
    ·exact hq'.elim
    ·rename_i hpr
     have ho:(gt ρ' i).own = true:=by rw [hg]; rfl
     obtain ⟨l,o,hl',el,r2,sv⟩:=r.take ho fun a z=>hpr (hp i a z)
     rw [ei] at el
     injection el with el; injection el with el; subst el
     obtain ⟨o1,o2,o3⟩:=r0.out r2
     rw [hg] at sv
     refine post (.n (.dt kvs)) _ _ H' hq' o3 (fun i z=>nomatch z) ⟨del H' l,l,o,o1,rfl,?_,del_same,(del_upd hl').symm,rfl⟩
     rw [del_upd hl']
     exact sv.keep o2 fun _ _ _ _ e=>e
   ·exact hq'.elim
def SLaw:ASp:=fun ss q=>∃ ns:List Int,ns.length ≤ 63∧ss = [.sc ns]∧∀ ss',q (.d (.bl true)) ss'
theorem law_of {P:Program} {w:World} {K:PySem.W.Frag} {mg:Str→Option Value} {base:Heap} {k:Nat} {x:Str} {ps:List Str} (h:OkN P w K mg base k x ps (spA K SLaw)):OkN P w K mg base k x ps (spLaw K):=by
 obtain ⟨f,fd,a1,a2,a3,a4,g⟩:=h.ex
 refine ⟨f,fd,a1,a2,a3,a4,g.imp fun vs H Q E hq=>?_⟩
 obtain ⟨a,ns,rfl,sq,hl,k⟩:=hq
 refine ⟨[.sc ns],fun _=>False,fun r _=>r = .d (.bl true),⟨rfl,fun a o e _=>e,fun a z=>z.elim,fun a _ z=>z,fun i a hi _=>?_,fun i a h=>?_,fun a h=>?_,fun a h=>?_,fun i j a hi=>?_,fun i=>?_⟩,⟨ns,hl,rfl,fun _=>rfl⟩,fun r ss' v H' e1 _ _ rr=>?_⟩
 ·exfalso; cases i with
  | zero=>cases hi
  | succ i=>cases hi
 ·rcases h with h | h
  ·cases i with
   | zero=>cases h.1
   | succ i=>cases h.1
  ·exact h.elim
 ·obtain ⟨i,hi,_⟩:=h
  cases i with
  | zero=>cases hi
  | succ i=>cases hi
 ·obtain ⟨i,hi,_⟩:=h
  cases i with
  | zero=>cases hi
  | succ i=>cases hi
 ·exfalso; cases i with
  | zero=>cases hi
  | succ i=>cases hi
 ·cases i with
  | succ i=>trivial
  | zero =>
   refine ⟨a,rfl,?_⟩
   refine (show Same H (hid H _) from fun b o e=>hid_of (fun z=>?_) e).seq sq
   rcases z with z | ⟨i,hi,_⟩
   ·exact z
   ·cases i with
    | zero=>cases hi
    | succ i=>cases hi
 ·subst e1
  obtain ⟨_,rd⟩:=rr
  unfold RepD at rd
  subst rd
  exact k H'
def spDrawX (K:PySem.W.Frag):Sp:=fun vs H Q _=>∃ (t c:Addr) (m sp lf:Int) (ns:List Int) (n:Nat),vs = [.ref t,.int m]∧H t = some (.dK (tapeK c sp lf))∧SqL K H c (ns.map V.int)∧0 ≤ sp∧sp ≤ n∧0 ≤ lf∧n < 1000000000000∧Dv m ∧
 ∀ (r:Nat) (sp' lf':Int),(r:Int) < m→0 ≤ sp'→sp' ≤ (n + 1:Nat)→0 ≤ lf'→Q (.int (r:Nat)) (upd H t (.dK (tapeK c sp' lf')))
def spTapeX (K:PySem.W.Frag):Sp:=fun vs H Q _=>∃ (a:Addr) (ns:List Int),vs = [.ref a]∧SqL K H a (ns.map V.int) ∧
 ∀ t c,H t = none→H c = none→t ≠ c→Q (.ref t) (upd (upd H c (.lst ((ns.take 63).map V.int))) t (.dK (tapeK c 0 0)))
def STape:ASp:=fun ss q=>∃ ns:List Int,ss = [.sc ns]∧q (.n (.tp 0)) [.sc ns]
def SDraw:ASp:=fun ss q=>∃ (n:Nat) (m:Int),ss = [.tp n,.vl (.int m)]∧n < 1000000000000∧Dv m∧∀ r:Nat,(r:Int) < m→q (.d (.int r)) [.tp (n + 1),.vl (.int m)]
theorem OkN.imp {P:Program} {w:World} {K:PySem.W.Frag} {mg:Str→Option Value} {base:Heap} {k:Nat} {x:Str} {ps:List Str} {sp sp':Sp} (h:OkN P w K mg base k x ps sp) (i:∀ vs H Q E,sp' vs H Q E→sp vs H Q E):OkN P w K mg base k x ps sp':=by
 obtain ⟨f,fd,a1,a2,a3,a4,g⟩:=h.ex
 exact ⟨f,fd,a1,a2,a3,a4,g.imp i⟩
theorem avals1 {vs:List V} {s:Sv} {F:Fr} {K:PySem.W.Frag} {H:Hp} (r:Rel K F (vs.map some) [s] H):∃ x,vs = [x]:=by
 have:=r.len
 match vs,this with
 | [x],_=>exact ⟨x,rfl⟩
theorem avals2 {vs:List V} {s s':Sv} {F:Fr} {K:PySem.W.Frag} {H:Hp} (r:Rel K F (vs.map some) [s,s'] H):∃ x y,vs = [x,y]:=by
 have:=r.len
 match vs,this with
 | [x,y],_=>exact ⟨x,y,rfl⟩
theorem draw_of {K:PySem.W.Frag} (vs:List V) (H:Hp) (Q:VK) (E:XK) (h:spA K SDraw vs H Q E):spDrawX K vs H Q E:=by
 obtain ⟨ss,Z,q,r,⟨n,m,rfl,hn,hm,hq⟩,post⟩:=h
 obtain ⟨x,y,rfl⟩:=avals2 r
 obtain ⟨t,c,ns,sp,lf,e0,ht,hc,h1,h2,h3⟩:=r.sl 0
 obtain ⟨y',e1,ry⟩:=r.sl 1
 unfold RepD at ry
 injection e0 with e0; injection e0 with e0; subst e0
 injection e1 with e1; injection e1 with e1
 subst e1 ry
 refine ⟨t,c,m,sp,lf,ns,n,rfl,ht,hid_sub.seq hc,h1,h2,h3,hn,hm,fun rr sp' lf' hr a1 a2 a3=>?_⟩
 have hw:=r.write (i:=0) (l:=t) (o:=.dK (tapeK c sp' lf')) (s:=.tp (n + 1)) rfl rfl rfl ⟨t,c,ns,sp',lf',rfl,upd_same,hc,a1,a2,a3⟩
 refine post (.d (.int rr)) [.tp (n + 1),.vl (.int m)] _ _ (hq rr hr) (fun i h=>?_) (fun i z=>nomatch z) ⟨hw.1,by unfold RepD; rfl⟩
 match i,h with
 | 0,_=>rfl
 | 1,h=>cases h
 | i + 2,h=>cases h
theorem tape_of {K:PySem.W.Frag} (vs:List V) (H:Hp) (Q:VK) (E:XK) (h:spA K STape vs H Q E):spTapeX K vs H Q E:=by
 obtain ⟨ss,Z,q,r,⟨ns,rfl,hq⟩,post⟩:=h
 obtain ⟨x,rfl⟩:=avals1 r
 obtain ⟨a,e0,sq⟩:=r.sl 0
 injection e0 with e0; injection e0 with e0; subst e0
 refine ⟨a,ns,rfl,hid_sub.seq sq,fun t c ht hc htc=>?_⟩
 have rc:=r.fresh (o:=.lst ((ns.take 63).map V.int)) hc
 have kc:Kp ([V.ref a].map some) [.sc ns] [.sc ns] H (upd H c (.lst ((ns.take 63).map V.int))):=Kp.fresh hc
 have ht':(upd H c (.lst ((ns.take 63).map V.int))) t = none:=by rw [upd_ne htc]; exact ht
 refine post (.n (.tp 0)) _ _ _ hq (fun i h=>h) (fun i z=>nomatch z) ⟨_,t,_,rc,rfl,⟨t,c,ns.take 63,0,0,rfl,upd_same,SqL.of (hid_of (fresh_vis r hc) upd_same),by decide,by decide,by decide⟩,ht',rfl,rfl⟩
section
variable {K:PySem.W.Frag} {F:Fr} {σ:St} {ρ ρ':En} {H H':Hp} {ta tb tc:TE} {a b c:AE} {rr rr':R2} {g g':R→R→AE}
def aChain (g g':R→R→AE) (a b c:AE):AE:=fun ρ q=>a ρ fun r1 ρ1=>b ρ1 fun r2 ρ2=>g r1.frz r2.frz ρ2 fun r3 ρ3=>match r3 with
 | .d (.bl k)=>if k = true then c ρ3 fun r4 ρ4=>g' r2.frz r4.frz ρ4 q else q (.d (.bl false)) ρ3
 | _=>False
theorem tok_chain (ho:OpOk K rr g) (ho':OpOk K rr' g') (ha:TEok K ta a) (hb:TEok K tb b) (hc:TEok K tc c):TEok K (tChain rr rr' ta tb tc) (aChain g g' a b c):=by
 intro F σ ρ H q Q r h k
 refine ha F σ ρ H _ _ r h fun r1 ρ1 x H1 h1 o1=>?_
 obtain ⟨r1',k1,i1⟩:=o1.inF
 refine hb F σ ρ1 H1 _ _ r1' h1 fun r2 ρ2 y H2 h2 o2=>?_
 obtain ⟨r2',k2,i2⟩:=o2.inF
 refine ho F σ ρ2 H2 x y _ _ _ _ r2' (i1.keep k2) i2 h2 fun r3 ρ3 z H3 h3 o3=>?_
 obtain ⟨r3',k3,i3⟩:=o3.inF
 split at h3
 ·rename_i kk
  refine ⟨kk,i3.blv,?_⟩
  cases kk with
  | false=>exact (((k.after k1).after k2).after k3).bl r3' h3
  | true =>
   refine hc F σ ρ3 H3 _ _ r3' h3 fun r4 ρ4 w H4 h4 o4=>?_
   obtain ⟨r4',k4,i4⟩:=o4.inF
   exact ho' F σ ρ4 H4 y w _ _ q Q r4' ((i2.keep k3).keep k4) i4 h4 ((((k.after k1).after k2).after k3).after k4)
 ·exact h3.elim
end
theorem forA_inv {c:En→Prop} {g:AG} {b:AS} {e:AEnds} (I:Nat→En→Prop) {ds:List D} (hc:∀ k ρ,k ≤ ds.length→I k ρ→c ρ)
  (hs:∀ (k:Nat) d ρ (N:En→Prop),ds[k]? = some d→I k ρ→(∀ ρ',I (k + 1) ρ'→N ρ')→g d ρ fun ρ1=>b { nx:=N,ct:=N,bk:=e.nx,rt:=e.rt } ρ1) (hd:∀ ρ,I ds.length ρ→e.nx ρ):∀ ρ,I 0 ρ→forA c g b e ds ρ:=by
 have go:∀ (es:List D) (k:Nat),ds.drop k = es→k ≤ ds.length→∀ ρ,I k ρ→forA c g b e es ρ:=by
  intro es
  induction es with
  | nil =>
   intro k h hk ρ i
   have:ds.length ≤ k:=List.drop_eq_nil_iff.mp h
   have:k = ds.length:=by omega
   subst this
   unfold forA
   exact ⟨hc _ ρ (Nat.le_refl _) i,hd ρ i⟩
  | cons d es ih =>
   intro k h hk ρ i
   have lt:k < ds.length:=by
    rcases Nat.lt_or_ge k ds.length with q | q
    ·exact q
    ·rw [List.drop_eq_nil_of_le q] at h; cases h
   rw [List.drop_eq_getElem_cons lt] at h
   injection h with h1 h2
   unfold forA
   exact ⟨hc k ρ hk i,hs k d ρ _ (by rw [← h1]; exact List.getElem?_eq_getElem lt) i (fun ρ' i'=>ih (k + 1) h2 lt ρ' i')⟩
 exact go ds 0 rfl (Nat.zero_le _)
theorem compA_inv {n:Nat} {js:List Nat} {c:En→Prop} {g:AG} {tc:AT} {te:AE} {q:List D→En→Prop} (I:Nat→List D→En→Prop) {ds:List D} (hc:∀ k acc ρ,k ≤ ds.length→I k acc ρ→c ρ)
  (hs:∀ (k:Nat) d acc ρ (N:List D→En→Prop),ds[k]? = some d→I k acc ρ→(∀ acc' ρ',I (k + 1) acc' ρ'→N acc' ρ') →
   g d (blkE n js ρ) fun ρ1=>tc ρ1 fun b ρ2=>if b = true then te ρ2 fun r ρ3=>sto [r.frz] ρ3 fun es ρ4=>N (acc ++ es) (back ρ (js.map R.o) (ρ4.drop n)) else N acc (back ρ (js.map R.o) (ρ2.drop n)))
  (hd:∀ acc ρ,I ds.length acc ρ→q acc ρ):∀ ρ,I 0 [] ρ→compA n js c g tc te q ds [] ρ:=by
 have go:∀ (es:List D) (k:Nat),ds.drop k = es→k ≤ ds.length→∀ acc ρ,I k acc ρ→compA n js c g tc te q es acc ρ:=by
  intro es
  induction es with
  | nil =>
   intro k h hk acc ρ i
   have:ds.length ≤ k:=List.drop_eq_nil_iff.mp h
   have:k = ds.length:=by omega
   subst this
   unfold compA
   exact ⟨hc _ acc ρ (Nat.le_refl _) i,hd acc ρ i⟩
  | cons d es ih =>
   intro k h hk acc ρ i
   have lt:k < ds.length:=by
    rcases Nat.lt_or_ge k ds.length with q | q
    ·exact q
    ·rw [List.drop_eq_nil_of_le q] at h; cases h
   rw [List.drop_eq_getElem_cons lt] at h
   injection h with h1 h2
   unfold compA
   exact ⟨hc k acc ρ hk i,hs k d acc ρ (fun acc' ρ'=>compA n js c g tc te q es acc' ρ') (by rw [← h1]; exact List.getElem?_eq_getElem lt) i (fun acc' ρ' i'=>ih (k + 1) h2 lt acc' ρ' i')⟩
 exact go ds 0 rfl (Nat.zero_le _) []
theorem compA_flat {n:Nat} {js:List Nat} {c:En→Prop} {g:AG} {tc:AT} {te:AE} {q:List D→En→Prop} (f:Nat→D→List D) {ds:List D} (ρ:En) (hc:c ρ)
  (hs:∀ (k:Nat) d acc (N:List D→En→Prop),ds[k]? = some d→N (acc ++ f k d) ρ →
   g d (blkE n js ρ) fun ρ1=>tc ρ1 fun b ρ2=>if b = true then te ρ2 fun r ρ3=>sto [r.frz] ρ3 fun es ρ4=>N (acc ++ es) (back ρ (js.map R.o) (ρ4.drop n)) else N acc (back ρ (js.map R.o) (ρ2.drop n)))
  (hd:q (ds.zipIdx.map fun p=>f p.2 p.1).flatten ρ):compA n js c g tc te q ds [] ρ:=by
 refine compA_inv (fun k acc ρ'=>ρ' = ρ∧acc = ((ds.take k).zipIdx.map fun p=>f p.2 p.1).flatten) (fun k acc ρ' _ h=>h.1 ▸ hc) ?_ ?_ ρ ⟨rfl,rfl⟩
 ·rintro k d acc _ N hk ⟨rfl,rfl⟩ hN
  refine hs k d _ N hk (hN _ _ ⟨rfl,?_⟩)
  have lt:=(List.getElem?_eq_some_iff.mp hk).1
  rw [List.take_add_one,hk,Option.toList_some,List.zipIdx_append,List.map_append,List.flatten_append,List.length_take,Nat.min_eq_left (by omega)]
  simp
 ·rintro acc _ ⟨rfl,rfl⟩
  rw [List.take_length]; exact hd
theorem compA_map {n:Nat} {js:List Nat} {c:En→Prop} {g:AG} {tc:AT} {te:AE} {q:List D→En→Prop} (f:D→D) {ds:List D} (ρ:En) (hc:c ρ)
  (hs:∀ d acc (N:List D→En→Prop),d ∈ ds→N (acc ++ [f d]) ρ →
   g d (blkE n js ρ) fun ρ1=>tc ρ1 fun b ρ2=>if b = true then te ρ2 fun r ρ3=>sto [r.frz] ρ3 fun es ρ4=>N (acc ++ es) (back ρ (js.map R.o) (ρ4.drop n)) else N acc (back ρ (js.map R.o) (ρ2.drop n)))
  (hd:q (ds.map f) ρ):compA n js c g tc te q ds [] ρ:=by
 refine compA_flat (fun _ d=>[f d]) ρ hc (fun k d acc N hk hN=>hs d acc N (List.mem_of_getElem? hk) hN) ?_
 have:(ds.zipIdx.map fun p=>[f p.1]).flatten = ds.map f:=by
  rw [← List.flatMap_def,show (ds.zipIdx.flatMap fun p=>[f p.1]) = (ds.zipIdx.map fun p=>f p.1) from by rw [List.map_eq_flatMap]]
  rw [show (fun p:D × Nat=>f p.1) = f ∘ Prod.fst from rfl,← List.map_map,List.zipIdx_map_fst]
 rw [this]; exact hd
theorem whA_inv {c:AT} {b:AS} {e:AEnds} (I:En→Prop) (μ:En→Nat)
  (hs:∀ ρ (N:En→Prop),I ρ→(∀ ρ',I ρ'→μ ρ' < μ ρ→N ρ')→c ρ fun k ρ1=>if k = true then b { nx:=N,ct:=N,bk:=e.nx,rt:=e.rt } ρ1 else e.nx ρ1):∀ ρ,I ρ→aWhile c b e ρ:=by
 have go:∀ (n:Nat) ρ,I ρ→μ ρ < n→whA c b e n ρ:=by
  intro n
  induction n with
  | zero=>intro ρ _ h; omega
  | succ n ih=>intro ρ i h; exact hs ρ _ i fun ρ' i' lt=>ih ρ' i' (by omega)
 exact fun ρ i=>⟨μ ρ + 1,go _ ρ i (by omega)⟩
section
variable {X:Cx} (K:PySem.W.Frag)
def rCatL (K:PySem.W.Frag):R2:=fun x y H Q=>∃ a b xs ys,x = .ref a∧y = .ref b∧SqL K H a xs∧SqL K H b ys∧xs.length + ys.length ≤ 1000000∧∀ p,H p = none→Q (.ref p) (upd H p (.lst (xs ++ ys)))
theorem op_catL (hK:X.K = K:=by rfl):OpR X (binaryOp .Add) (rCatL K):=by
 subst hK
 intro pins s σ H x y v u Q I rx ry h
 obtain ⟨a,b,xs,ys,rfl,rfl,ha,hb,hz,q⟩:=h
 cases rx
 cases ry
 obtain ⟨its,r1,p1,_⟩:=I.list ha
 obtain ⟨its2,r2,p2,_⟩:=I.list hb
 have hz':its.length + its2.length ≤ sizeLine:=small (by rw [← r1.length,← r2.length]; exact hz)
 obtain ⟨⟨cls,dd,data,sl⟩,ho,hc,n,hd⟩:=p1.isList
 obtain ⟨⟨cls2,dd2,data2,sl2⟩,ho2,hc2,n2,hd2⟩:=p2.isList
 simp only at hc hd hc2 hd2
 subst hc hd hc2 hd2
 refine concat_meets ⟨_,ho,rfl⟩ ⟨_,ho2,rfl⟩ noFill_list_add seq_list_add PySem.F.slot_list_add PySem.F.entry_list_add (PySem.F.args_list_add_2 _ _) (list_addW a b its.toArray its2.toArray n n2 dd dd2 sl sl2 (by rw [List.size_toArray,List.size_toArray]; exact hz')) ⟨ho,ho2,?_⟩
 refine ⟨.ref s.heap.objs.size,_,I.laid (t':=s.toks) (o:=.lst (xs ++ ys)) (fun b ob q=>Heap.get?_push_of_some _ q) (Nat.le_refl _) ?_,rfl,q _ (I.hok.fresh (Nat.le_refl _))⟩
 refine ⟨by rw [List.length_append]; exact small hz,_,0,r1.append r2,?_⟩
 rw [show (its ++ its2).toArray = its.toArray ++ its2.toArray by simp]
 exact Heap.get?_push_size _ rfl
variable {e st:Expr} {te:TE} {ts:TO} {pos p2:Pos}
end
section
variable {K:PySem.W.Frag} {ta te:TE} {a ae:AE} {ts:TA} {as:AA}
def gCat:R→R→AE:=fun r1 r2 ρ q=>match view ρ r1,view ρ r2 with
 | some (.lst ds),some (.lst es)=>ds.length + es.length ≤ 1000000∧q (.f (ds ++ es)) ρ
 | _,_=>False
theorem ook_cat:OpOk K (rCatL K) gCat:=by
 intro F σ ρ H x y r1 r2 q Q a h1 h2 h b
 unfold gCat at h
 split at h
 ·rename_i ds es e1 e2
  obtain ⟨l,vs,rfl,sq,rd⟩:=view_lst a h1 e1
  obtain ⟨l2,vs2,rfl,sq2,rd2⟩:=view_lst a h2 e2
  exact ⟨l,l2,vs,vs2,rfl,rfl,sq,sq2,by rw [rd.length,rd2.length]; exact h.1,fun p hp=>b.new a h.2 (rd.append rd2) hp⟩
 ·exact h.elim
theorem RepDs.reverse {H:Hp}:∀ {vs:List V} {ds:List D},RepDs K H vs ds→RepDs K H vs.reverse ds.reverse
 | [],[],_=>.nil
 | v :: vs,d :: ds,h=>by
  unfold RepDs at h
  rw [List.reverse_cons,List.reverse_cons]
  exact (RepDs.reverse h.2).append (.one h.1)
 | [],d :: ds,h=>by unfold RepDs at h; exact h.elim
 | v :: vs,[],h=>by unfold RepDs at h; exact h.elim
def aLRng (a:AE):AE:=fun ρ q=>a ρ fun r ρ1=>match r with
 | .d (.int j)=>(0 ≤ j∧j ≤ 1000000)∧q (.f (natsD (List.range j.toNat))) ρ1
 | _=>False
theorem tok_lrng (ha:TEok K ta a):TEok K (tCB (fun xs H Q=>∃ (p:Addr) (n:Nat),xs = [.ref p]∧H p = some (.rng 0 (n:Nat))∧n ≤ 1000000∧∀ l,H l = none→Q (.ref l) (upd H l (.lst (natsV (List.range n)))))
  (tCons (tCB (fun xs H Q=>∃ j:Int,xs = [.int j]∧∀ p,H p = none→Q (.ref p) (upd H p (.rng 0 j))) (tCons ta tNil)) tNil)) (aLRng a):=by
 intro F σ ρ H q Q r h k
 refine ha F σ ρ H _ _ r h fun r1 ρ1 x H1 h1 rel1=>?_
 obtain ⟨r',k1,i1⟩:=rel1.inF
 split at h1
 ·rename_i j
  obtain ⟨⟨h0,h2⟩,h1⟩:=h1
  obtain ⟨n,rfl⟩:=Int.eq_ofNat_of_zero_le h0
  refine ⟨_,by rw [i1.int],fun p hp=>⟨p,n,rfl,upd_same,by omega,fun l hl=>?_⟩⟩
  have rp:=r'.fresh (o:=.rng 0 (n:Nat)) hp
  refine ((k.after k1).after (Kp.fresh hp)).new rp h1 ?_ hl
  rw [Int.toNat_natCast]
  exact repNats.mpr rfl
 ·exact h1.elim
end
abbrev nD (n:Nat):D:=.int (n:Nat)
abbrev nv (n:Nat):Sv:=.vl (.int (n:Nat))
def ownB (pr:Nat→Bool):En→Nat→Bool
 | [],_=>true
 | s :: ss,i=>(!s.own || pr i) && ownB pr ss (i + 1)
theorem ownB_ok {pr:Nat→Bool}:∀ {ss:En} {j:Nat},ownB pr ss j = true→∀ i,(gt ss i).own = true→pr (j + i) = true
 | [],_,_,i,h=>by cases h
 | s :: ss,j,hb,0,h=>by
  simp only [ownB,Bool.and_eq_true,Bool.or_eq_true,Bool.not_eq_true'] at hb
  rcases hb.1 with q | q
  ·rw [show (gt (s :: ss) 0) = s from rfl,q] at h; cases h
  ·exact q
 | s :: ss,j,hb,i + 1,h=>by
  simp only [ownB,Bool.and_eq_true] at hb
  have:=ownB_ok hb.2 i h
  rwa [show j + 1 + i = j + (i + 1) by omega] at this
theorem DefN.aok2 {P:Program} {w:World} {K:PySem.W.Frag} {mg:Str→Option Value} {base:Heap} {x:Str} {st:Stmt} {N ps:List Str} {k:Nat} {a:AS} (D:DefN K mg x st ps) (Sc:FnScope N ps (defScope st)) (pr:Nat→Bool) (us:En) (S:ASp) (hus:List.replicate (N.length - ps.length) Sv.un = us)
  (hbody:∀ (f:Addr) (cdv:Value) (A:Around) (outer:List Env) (s:Shared) (H:Hp) (E:XK),Room k (A.deeper (envOfC x (defScope st) s.heap.objs.size f cdv)) →
   ∃ t,PSs (cxOf CX0 P w K mg base N x (defScope st) f cdv A outer s H E).nox (defBody st) t∧TSok K pr t a)
  (hS:∀ ss q,S ss q→ss.length = ps.length∧ownB pr ss 0 = true∧a ⟨fun ρ=>q (.d .non) (outS ss ρ),fun r ρ=>fin pr r ρ fun r' ρ'=>q r' (outS ss ρ'),fun _=>False,fun _=>False⟩ (ss ++ us)):OkN P w K mg base (k + 1) x ps (spA K S) :=
 D.aok Sc pr S hbody fun ss q h=>⟨(hS ss q h).1,fun i hi=>by have:=ownB_ok (hS ss q h).2.1 i hi; rwa [Nat.zero_add] at this,by rw [hus]; exact (hS ss q h).2.2⟩
theorem rngD_get {lo:Int} {n k:Nat} {d:D} (h:(rngD lo n)[k]? = some d):k < n∧d = .int (lo + k):=by
 unfold rngD at h
 rw [List.getElem?_map] at h
 obtain ⟨j,e1,e2⟩:=Option.map_eq_some_iff.mp h
 have lt:k < n:=by
  rcases Nat.lt_or_ge k n with q | q
  ·exact q
  ·rw [List.getElem?_eq_none (by simpa using q)] at e1; cases e1
 rw [List.getElem?_range lt] at e1
 cases e1
 exact ⟨lt,e2.symm⟩
abbrev turnA (n:Nat) (js:List Nat) (g:AG) (tc:AT) (te:AE) (ρ:En) (d:D) (acc:List D) (N:List D→En→Prop):Prop :=
 g d (blkE n js ρ) fun ρ1=>tc ρ1 fun b ρ2=>if b = true then te ρ2 fun r ρ3=>sto [r.frz] ρ3 fun es ρ4=>N (acc ++ es) (back ρ (js.map R.o) (ρ4.drop n)) else N acc (back ρ (js.map R.o) (ρ2.drop n))
section
variable {n:Nat} {js:List Nat} {c:En→Prop} {g:AG} {tc:AT} {te:AE} {q:List D→En→Prop}
theorem compA_rng {lo:Int} {m:Nat} (f:Nat→D) {ρ:En} (hc:c ρ) (hs:∀ k acc (N:List D→En→Prop),k < m→N (acc ++ [f k]) ρ→turnA n js g tc te ρ (.int (lo + k)) acc N)
  (hd:q ((List.range m).map f) ρ):compA n js c g tc te q (rngD lo m) [] ρ:=by
 refine compA_inv (fun k acc ρ'=>k ≤ m∧ρ' = ρ∧acc = (List.range k).map f) (fun k acc ρ' _ h=>h.2.1 ▸ hc) ?_ ?_ ρ ⟨Nat.zero_le _,rfl,rfl⟩
 ·rintro k d acc _ N hk ⟨_,rfl,rfl⟩ hN
  obtain ⟨lt,rfl⟩:=rngD_get hk
  refine hs k _ N lt (hN _ _ ⟨lt,rfl,?_⟩)
  rw [List.range_succ,List.map_append]; rfl
 ·rintro acc _ ⟨_,rfl,rfl⟩
  rw [rngD_len]; exact hd
theorem compA_lst {α:Type} (h:α→D) (f:α→D) {xs:List α} {ρ:En} (hc:c ρ) (hs:∀ x acc (N:List D→En→Prop),x ∈ xs→N (acc ++ [f x]) ρ→turnA n js g tc te ρ (h x) acc N)
  (hd:q (xs.map f) ρ):compA n js c g tc te q (xs.map h) [] ρ:=by
 refine compA_inv (fun k acc ρ'=>ρ' = ρ∧acc = (xs.take k).map f) (fun k acc ρ' _ h=>h.1 ▸ hc) ?_ ?_ ρ ⟨rfl,rfl⟩
 ·rintro k d acc _ N hk ⟨rfl,rfl⟩ hN
  rw [List.getElem?_map] at hk
  obtain ⟨x,e1,rfl⟩:=Option.map_eq_some_iff.mp hk
  refine hs x _ N (List.mem_of_getElem? e1) (hN _ _ ⟨rfl,?_⟩)
  rw [List.take_add_one,e1,Option.toList_some,List.map_append]; rfl
 ·rintro acc _ ⟨rfl,rfl⟩
  rw [List.length_map,List.take_length]; exact hd
end
section
variable {c:En→Prop} {g:AG} {b:AS} {e:AEnds}
theorem forA_rng {lo:Int} {m:Nat} (I:Nat→En→Prop) (hc:∀ k ρ,I k ρ→c ρ) (hs:∀ (k:Nat) ρ (N:En→Prop),k < m→I k ρ→(∀ ρ',I (k + 1) ρ'→N ρ')→g (.int (lo + k)) ρ fun ρ1=>b { nx:=N,ct:=N,bk:=e.nx,rt:=e.rt } ρ1)
  (hd:∀ ρ,I m ρ→e.nx ρ) {ρ:En} (h0:I 0 ρ):forA c g b e (rngD lo m) ρ:=by
 refine forA_inv I (fun k ρ _ h=>hc k ρ h) (fun k d ρ N hk h hN=>?_) (fun ρ h=>hd ρ (by rwa [rngD_len] at h)) ρ h0
 obtain ⟨lt,rfl⟩:=rngD_get hk
 exact hs k ρ N lt h hN
theorem forA_lst {α:Type} (h:α→D) {xs:List α} (I:Nat→En→Prop) (hc:∀ k ρ,I k ρ→c ρ) (hs:∀ (k:Nat) x ρ (N:En→Prop),xs[k]? = some x→I k ρ→(∀ ρ',I (k + 1) ρ'→N ρ')→g (h x) ρ fun ρ1=>b { nx:=N,ct:=N,bk:=e.nx,rt:=e.rt } ρ1)
  (hd:∀ ρ,I xs.length ρ→e.nx ρ) {ρ:En} (h0:I 0 ρ):forA c g b e (xs.map h) ρ:=by
 refine forA_inv I (fun k ρ _ h=>hc k ρ h) (fun k d ρ N hk h' hN=>?_) (fun ρ h=>hd ρ (by rwa [List.length_map] at h)) ρ h0
 rw [List.getElem?_map] at hk
 obtain ⟨x,e1,rfl⟩:=Option.map_eq_some_iff.mp hk
 exact hs k x ρ N e1 h' hN
end
theorem atI_nats {xs:List Nat} {i:Nat} (h:i < xs.length):atI (natsD xs) ((i:Nat):Int) = some (.int (xs.getD i 0:Nat)):=by
 refine atI_nat ?_
 unfold natsD
 rw [List.getElem?_map,List.getElem?_eq_getElem h]
 simp [h]
theorem gIx_nats {r1:R} {ρ:En} {q:Ko} {xs:List Nat} {i:Nat} (hv:view ρ r1 = some (.lst (natsD xs))) (h:i < xs.length) (hq:q (.d (.int (xs.getD i 0:Nat))) ρ):gIx r1 (.d (.int (i:Nat))) ρ q:=by
 unfold gIx
 rw [hv]
 simp only [atI_nats h]
 exact hq
theorem gEq_ok {neg:Bool} {r1 r2:R} {ρ:En} {q:Ko} {d e:D} {b:Bool} (h1:view ρ r1 = some d) (h2:view ρ r2 = some e) (hd:d.depth ≤ 60) (hb:eqD d e = b) (hq:q (.d (.bl (if neg then !b else b))) ρ):gEq neg r1 r2 ρ q:=by
 unfold gEq
 rw [h1,h2]
 subst hb
 exact ⟨hd,hq⟩
theorem depth_intsL (ns:List Int):depths (ns.map D.int) = 0:=by
 induction ns with
 | nil=>simp [depths]
 | cons n ns ih=>rw [List.map_cons]; unfold depths; rw [ih]; simp [D.depth]
theorem depth_natsL (ns:List Nat):(D.lst (natsD ns)).depth ≤ 60:=by
 have:natsD ns = (ns.map fun (n:Nat)=>(n:Int)).map D.int:=by unfold natsD; simp
 rw [this]; unfold D.depth; rw [depth_intsL]; decide
theorem gIx_t {r1:R} {ρ:En} {q:Ko} {ds:List D} {i:Int} {d:D} (hv:view ρ r1 = some (.tup ds)) (h:atI ds i = some d) (hq:q (.d d) ρ):gIx r1 (.d (.int i)) ρ q:=by
 unfold gIx
 rw [hv]
 simp only [h]
 exact hq
theorem gIx_l {r1:R} {ρ:En} {q:Ko} {ds:List D} {i:Int} {d:D} (hv:view ρ r1 = some (.lst ds)) (h:atI ds i = some d) (hq:q (.d d) ρ):gIx r1 (.d (.int i)) ρ q:=by
 unfold gIx
 rw [hv]
 simp only [h]
 exact hq
theorem gIsa_ok {r:R} {ρ:En} {q:Ko} {d:D} {n:String} {b:Bool} (hv:view ρ r = some d) (h:isaT (tyD d) n = some b) (hq:q (.d (.bl b)) ρ):gIsa [r,.t n] ρ q:=by
 unfold gIsa
 simp only [hv,h]
 exact hq
theorem gAll_ok {r:R} {ρ:En} {q:Ko} {bs:List Bool} (hv:view ρ r = some (.lst (bs.map D.bl))) (hq:q (.d (.bl (bs.all id))) ρ):gAll [r] ρ q:=by
 unfold gAll
 simp only [hv,blsOf_map]
 exact hq
def isL:D→Bool
 | .lst _=>true
 | _=>false
def wholeB (lo hi:Int):D→Bool
 | .int i=>decide (lo ≤ i) && decide (i ≤ hi)
 | _=>false
def tupB (lo hi:Int):D→Bool
 | .tup ds=>decide (lo ≤ (ds.length:Int)) && decide ((ds.length:Int) ≤ hi)
 | _=>false
def xorAt (rows:List Nat) (a b:Int):Nat:=rows.getD a.toNat 0 ^^^ rows.getD b.toNat 0
def joinB (rows:List Nat):D→Bool
 | .tup [.int a,.int b]=>decide (0 ≤ a) && decide (a ≤ (rows.length:Int) - 1) && (decide (0 ≤ b) && decide (b ≤ (rows.length:Int) - 1)) && decide (a < b) && (rows.getD a.toNat 0 != rows.getD b.toNat 0)
 | _=>false
def stepD (rows:List Nat):D→List Nat
 | .tup [.int a,.int b]=>rows ++ [xorAt rows a b]
 | _=>rows
def joinsB:List Nat→List D→Bool
 | _,[]=>true
 | rows,d :: ds=>joinB rows d && joinsB (stepD rows d) ds
def areJoins (m:Nat):D→Bool
 | .tup ds=>decide (ds.length ≤ 132) && joinsB (ownRows m) ds
 | _=>false
def areOuts (n:Nat):D→Bool
 | .tup ds=>decide (1 ≤ ds.length) && decide (ds.length ≤ 24) && ds.all (wholeB 0 ((n:Int) - 1))
 | _=>false
def lenT:D→Nat
 | .tup ds=>ds.length
 | _=>0
def netB:D→Bool
 | .tup [m,js,os]=>(match m with
  | .int i=>decide (1 ≤ i) && decide (i ≤ 12) && areJoins i.toNat js && areOuts (i.toNat + lenT js) os
  | _=>false)
 | _=>false
theorem wholeB_inv {lo hi:Int} {d:D} (h:wholeB lo hi d = true):∃ i,d = .int i∧lo ≤ i∧i ≤ hi:=by
 cases d with
 | int i=>simp [wholeB] at h; exact ⟨i,rfl,h⟩
 | non=>cases h
 | bl _=>cases h
 | str _=>cases h
 | tup _=>cases h
 | lst _=>cases h
theorem tupB_inv {lo hi:Int} {d:D} (h:tupB lo hi d = true):∃ ds,d = .tup ds∧lo ≤ (ds.length:Int)∧(ds.length:Int) ≤ hi:=by
 cases d with
 | tup i=>simp [tupB] at h; exact ⟨i,rfl,h⟩
 | non=>cases h
 | bl _=>cases h
 | str _=>cases h
 | int _=>cases h
 | lst _=>cases h
theorem tup2_inv {d:D} (h:tupB 2 2 d = true):∃ x y,d = .tup [x,y]:=by
 obtain ⟨ds,rfl,h1,h2⟩:=tupB_inv h
 have:ds.length = 2:=by omega
 match ds,this with
 | [x,y],_=>exact ⟨x,y,rfl⟩
theorem tup3_inv {d:D} (h:tupB 3 3 d = true):∃ x y z,d = .tup [x,y,z]:=by
 obtain ⟨ds,rfl,h1,h2⟩:=tupB_inv h
 have:ds.length = 3:=by omega
 match ds,this with
 | [x,y,z],_=>exact ⟨x,y,z,rfl⟩
theorem joinB_not {rows:List Nat} {d:D} (h:tupB 2 2 d = false):joinB rows d = false:=by
 unfold joinB
 split
 ·simp [tupB] at h
 ·rfl
theorem joinB_a {rows:List Nat} {x y:D} (h:wholeB 0 ((rows.length:Int) - 1) x = false):joinB rows (.tup [x,y]) = false:=by
 cases x with
 | int i=>cases y with
  | int j=>simp only [wholeB] at h; simp only [joinB,h,Bool.false_and]
  | _=>rfl
 | _=>rfl
theorem joinB_b {rows:List Nat} {x y:D} (h:wholeB 0 ((rows.length:Int) - 1) y = false):joinB rows (.tup [x,y]) = false:=by
 cases x with
 | int i=>cases y with
  | int j=>simp only [wholeB] at h; simp only [joinB,h,Bool.false_and,Bool.and_false]
  | _=>rfl
 | _=>rfl
theorem lenD (rows:List Nat):((natsD rows).length:Int) = rows.length:=by rw [List.length_map]
theorem cutS {A B:AS} {e:AEnds} {ρ:En} (P:En→Prop) (h1:∀ N:En→Prop,(∀ ρ',P ρ'→N ρ')→A { e with nx:=N } ρ) (h2:∀ ρ',P ρ'→B e ρ'):aSeq A B e ρ:=h1 (B e) h2
theorem areJoins_not {m:Nat} {d:D} (h:tupB 0 132 d = false):areJoins m d = false:=by
 cases d with
 | tup ds=>simp [tupB] at h; simp [areJoins]; intro h'; omega
 | _=>rfl
theorem areOuts_not {n:Nat} {d:D} (h:tupB 1 24 d = false):areOuts n d = false:=by
 cases d with
 | tup ds =>
  simp only [tupB,Bool.and_eq_false_iff,decide_eq_false_iff_not] at h
  simp only [areOuts]
  rcases h with h | h
  ·rw [decide_eq_false (p:=1 ≤ ds.length) (by omega)]; rfl
  ·rw [decide_eq_false (p:=ds.length ≤ 24) (by omega)]; simp
 | _=>rfl
theorem netB_not {d:D} (h:tupB 3 3 d = false):netB d = false:=by
 unfold netB
 split
 ·simp [tupB] at h
 ·rfl
theorem nv_eq {x:Int} {n:Nat} (h:x = (n:Nat)):Sv.vl (.int x) = nv n:=by rw [h]
theorem xorD (a b:Nat):D.int (Builtin.bitXor (a:Int) (b:Int)) = nD (a ^^^ b):=by rw [xor_nat]
theorem minI (a b:Nat):(if (b:Int) < (a:Int) then (b:Int) else (a:Int)) = ((min a b:Nat):Int):=by split <;> omega
theorem maxI (a b:Nat):(if (b:Int) > (a:Int) then (b:Int) else (a:Int)) = ((max a b:Nat):Int):=by split <;> omega
theorem step_sw (rows:List Nat) (a b:Nat):stepRows rows (min a b,max a b) = rows ++ [rows.getD a 0 ^^^ rows.getD b 0]:=by
 unfold stepRows
 rcases Nat.le_total a b with h | h
 ·simp only [Nat.min_eq_left h,Nat.max_eq_right h]
 ·simp only [Nat.min_eq_right h,Nat.max_eq_left h]
  rw [Nat.xor_comm]
def isLst (s:Sv) (ds:List D):Prop:=s = .ow ds ∨ s = .vl (.lst ds)
def SLawNet:ASp:=fun ss q=>∃ n most jm:Nat,ss = [.tp n,nv most,nv jm]∧n ≤ 100000000000∧1 ≤ most∧most ≤ 12∧jm ≤ 132∧∀ (N:Net) (n':Nat),IsNet N→N.m ≤ most→N.js.length ≤ jm→n' ≤ n + 1000→q (.d (netD N)) [.tp n',nv most,nv jm]
def SIsWhole:ASp:=fun ss q=>∃ (d:D) (lo hi:Int),ss = [.vl d,.vl (.int lo),.vl (.int hi)]∧q (.d (.bl (wholeB lo hi d))) [.vl d,.vl (.int lo),.vl (.int hi)]
def SIsTuple:ASp:=fun ss q=>∃ (d:D) (lo hi:Int),ss = [.vl d,.vl (.int lo),.vl (.int hi)]∧q (.d (.bl (tupB lo hi d))) [.vl d,.vl (.int lo),.vl (.int hi)]
def SIsJoin:ASp:=fun ss q=>∃ (s0:Sv) (rows:List Nat) (d:D),ss = [s0,.vl d]∧isLst s0 (natsD rows)∧q (.d (.bl (joinB rows d))) [s0,.vl d]
def SAreJoins:ASp:=fun ss q=>∃ (m:Nat) (d:D),ss = [nv m,.vl d]∧m ≤ 12∧q (.d (.bl (areJoins m d))) [nv m,.vl d]
def SAreOuts:ASp:=fun ss q=>∃ (n:Nat) (d:D),ss = [nv n,.vl d]∧q (.d (.bl (areOuts n d))) [nv n,.vl d]
def SIsNet:ASp:=fun ss q=>∃ (d:D),ss = [.vl d]∧q (.d (.bl (netB d))) [.vl d]
theorem natsD_snoc (xs:List Nat) (x:Nat):natsD (xs ++ [x]) = natsD xs ++ [nD x]:=by unfold natsD; rw [List.map_append]; rfl
theorem natsD_step (rows:List Nat) (p:Nat × Nat):natsD (stepRows rows p) = natsD rows ++ [nD (rows.getD p.1 0 ^^^ rows.getD p.2 0)]:=natsD_snoc _ _
def SJoined:ASp:=fun ss q=>∃ x y:Nat,ss = [nv x,nv y]∧q (.d (nD (x ^^^ y))) [nv x,nv y]
def SOwn:ASp:=fun ss q=>∃ m:Nat,ss = [nv m]∧m ≤ 1000∧q (.f (natsD (ownRows m))) [nv m]
def SAll:ASp:=fun ss q=>∃ (N:Net) (ws:List Nat),ss = [.vl (netD N),.vl (.lst (natsD ws))]∧okIx ws.length N.js∧ws.length + N.js.length ≤ 1000∧q (.f (natsD (N.js.foldl stepRows ws))) [.vl (netD N),.vl (.lst (natsD ws))]
def SRowsOf:ASp:=fun ss q=>∃ N:Net,ss = [.vl (netD N)]∧okIx N.m N.js∧N.m + N.js.length ≤ 1000∧q (.f (natsD (rowsN N))) [.vl (netD N)]
theorem joinsB_ok:∀ {js:List (Nat × Nat)} {rows:List Nat},okJs rows js→joinsB rows (js.map pairD) = true
 | [],_,_=>rfl
 | p :: r,rows,h=>by
  obtain ⟨h1,h2,h3,h4⟩:=h
  have ih:=joinsB_ok h4
  rw [List.map_cons]
  show (joinB rows (pairD p) && joinsB (stepD rows (pairD p)) (r.map pairD)) = true
  rw [show stepD rows (pairD p) = stepRows rows p from rfl,ih,Bool.and_true]
  show (decide (0 ≤ (p.1:Int)) && decide ((p.1:Int) ≤ (rows.length:Int) - 1) && (decide (0 ≤ (p.2:Int)) && decide ((p.2:Int) ≤ (rows.length:Int) - 1)) && decide ((p.1:Int) < (p.2:Int)) && (rows.getD (p.1:Int).toNat 0 != rows.getD (p.2:Int).toNat 0)) = true
  rw [decide_eq_true (show 0 ≤ (p.1:Int) by omega),decide_eq_true (show (p.1:Int) ≤ (rows.length:Int) - 1 by omega),decide_eq_true (show 0 ≤ (p.2:Int) by omega),decide_eq_true (show (p.2:Int) ≤ (rows.length:Int) - 1 by omega),decide_eq_true (show (p.1:Int) < (p.2:Int) by omega)]
  simpa using h3
theorem netB_ok {N:Net} (h:IsNet N):netB (netD N) = true:=by
 show (decide (1 ≤ (N.m:Int)) && decide ((N.m:Int) ≤ 12) && areJoins (N.m:Int).toNat (.tup (N.js.map pairD)) && areOuts ((N.m:Int).toNat + (N.js.map pairD).length) (.tup (natsD N.os))) = true
 have h1:=h.m1
 have h2:=h.m12
 have h3:=h.jl
 have h4:=h.o1
 have h5:=h.o24
 rw [decide_eq_true (show 1 ≤ (N.m:Int) by omega),decide_eq_true (show (N.m:Int) ≤ 12 by omega),Int.toNat_natCast]
 simp only [areJoins,areOuts,List.length_map,Bool.true_and]
 rw [joinsB_ok h.js,decide_eq_true h3,decide_eq_true h4,decide_eq_true h5]
 simp only [Bool.true_and,List.all_map,List.all_eq_true]
 intro o ho
 have:=h.os o ho
 show (decide (0 ≤ (o:Int)) && decide ((o:Int) ≤ ((N.m + N.js.length:Nat):Int) - 1)) = true
 rw [decide_eq_true (show 0 ≤ (o:Int) by omega),decide_eq_true (show (o:Int) ≤ ((N.m + N.js.length:Nat):Int) - 1 by omega)]
 rfl
def SJoining:ASp:=fun ss q=>∃ a b:Nat,ss = [nv a,nv b]∧q (.d (L2.pairD (min a b,max a b))) [nv a,nv b]
theorem natsD_len (xs:List Nat):(natsD xs).length = xs.length:=by rw [List.length_map]
theorem DefN.no {P:Program} {w:World} {K:PySem.W.Frag} {mg:Str→Option Value} {base:Heap} {x:Str} {st:Stmt} {N ps:List Str} (D:DefN K mg x st ps) (Sc:FnScope N ps (defScope st)) (k:Nat):OkN P w K mg base (k + 1) x ps (spA K fun _ _=>False) :=
 D.ok Sc (fun vs H Q E h=>by obtain ⟨_,_,_,_,h,_⟩:=h; exact h.elim) fun f cdv A outer s H vs Q E _ h=>by obtain ⟨_,_,_,_,h,_⟩:=h; exact h.elim
theorem depth_net (N:Net):(netD N).depth ≤ 60:=by
 have h1:depths (N.js.map L2.pairD) ≤ 1:=by
  generalize N.js = js
  induction js with
  | nil=>simp [depths]
  | cons p r ih =>
   rw [List.map_cons]
   unfold depths
   have:(L2.pairD p).depth = 1:=by simp [D.depth,depths]
   omega
 have h2:=depth_nats N.os
 simp only [netD,D.depth,depths,h2]
 omega
end L2
namespace HT
open PySem PySem.Spec PyProof.Rows
end HT
namespace L2
open PySem PySem.Spec PyProof.Rows
section
variable {prog:Program} {w:World} {K0:Type} [DecidableEq K0] {knd:KeyKind prog w K0} {A:Around} {E:Value→Shared→Prop} {s:Shared}
theorem setd_pairs {d:Addr} {kvs:List (K0 × Value)} {k:K0} {key dv:Value} {Q:Value→Shared→Prop} (hkey:knd.is k key = true) (hm:s.heap.DictOf knd d kvs) (hz:kvs.length ≤ sizeLine)
  (old:∀ v,valueAt kvs k = some v→Q v { s with toks:=s.toks + 1 })
  (new:valueAt kvs k = none→∀ h',h'.DictOf knd d (stored kvs k dv)→Heap.SameBut d s.heap h'→Q dv { s with heap:=h',toks:=s.toks + 1 }):wpAny (model prog w) A (dictSetDefault d key dv) Q E s:=by
 have hv:=hm.mapOf
 obtain ⟨o,es,ep,ho,hc,hd,hk,hp,hn⟩:=hm
 have hes:es.size ≤ sizeLine:=by
  have e1:=hp.length
  have e2:es.toList.length = es.size:=by simp
  omega
 have hidx:(es.findIdx? fun e=>knd.is k e.key) = kvs.findIdx? fun kv=>decide (kv.1 = k):=by
  rw [← hp.findIdx k]; obtain ⟨l⟩:=es; simp
 have hf:findBy knd.is es k = valueAt kvs k:=by
  rw [← hp.find k]
  obtain ⟨l⟩:=es
  simp [findBy]
 unfold dictSetDefault
 try with_reducible refine wpAny_holding ?_
 refine wpAny_bind (knd.pyHash hkey ?_)
 refine wpAny_bind (wpAny_dictFind_of (s:={ s with toks:=s.toks + 1 }) hkey ho hd hk ?_)
 cases hi:es.findIdx? fun e=>knd.is k e.key with
 | some i =>
  have hfk:valueAt kvs k = (es[i]?).map (·.val):=by rw [← hf,findBy_of_findIdx?,hi]
  refine wpAny_bind (wpAny_dictEntries (s:={ s with toks:=s.toks + 1 }) ho hd ?_)
  cases he:es[i]? with
  | none =>
   exfalso
   have lt:i < es.size:=(Array.findIdx?_eq_some_iff_findIdx_eq.mp hi).1
   rw [Array.getElem?_eq_getElem lt] at he
   cases he
  | some e =>
   rw [he] at hfk
   exact wpAny_bind (wpAny_rule (wpAny_pure (old e.val hfk)))
 | none =>
  have hfk:valueAt kvs k = none:=by rw [← hf,findBy_of_findIdx?,hi]
  have hnot:k ∉ kvs.map (·.1):=not_mem_of_findIdx_none (hidx ▸ hi)
  have hany:¬ (kvs.any fun kv=>decide (kv.1 = k)) = true:=by
   rw [List.any_eq_true]; rintro ⟨kv,hkv,he⟩
   exact hnot (List.mem_map.mpr ⟨kv,hkv,of_decide_eq_true he⟩)
  refine wpAny_bind (wpAny_rule (wpAny_bind (wpAny_updateDictKeys (hz:=hes) (s:={ s with toks:=s.toks + 1 }) ho hd (wpAny_pure (new hfk _ ⟨_,_,ep + 1,Heap.get?_update_self _ ho (Obj.isFreed_of_dict (Obj.data_mapDictKeys hd _)),hc.mapDictKeys _,Obj.data_mapDictKeys hd _,hk.push hkey _,?_,?_⟩ (Heap.SameBut.update ..))))))
  ·rw [stored,if_neg hany]
   have:=hp.append hkey (knd.hash k) dv
   obtain ⟨l⟩:=es
   simpa using this
  ·rw [stored,if_neg hany,List.map_append,List.nodup_append]
   refine ⟨hn,by simp,fun a ha b hb e=>?_⟩
   simp only [List.map_cons,List.map_nil,List.mem_singleton] at hb
   subst hb
   exact hnot (e ▸ ha)
end
section
variable {X:Cx} {pins:List (Addr × Obj)} {σ:St} {H:Hp} {s:Shared} {A:Around} {E:Value→Shared→Prop}
theorem d_setd {a:Addr} {kvs:List (Key × V)} {k:Key} {v:V} {u r:Value} {Q:Value→Shared→Prop} (I:Inv X pins σ H s) (e:H a = some (.dK kvs)) (hl:kvs.length < sizeLine) (ry:RelV (kV k) u) (rv:RelV v r)
  (old:∀ x w' s',valV kvs k = some x→Inv X pins σ H s'→RelV x w'→Q w' s') (new:valV kvs k = none→∀ s',Inv X pins σ (upd H a (.dK (putK kvs k v))) s'→Q r s'):wpAny (model X.prog X.w) A (call (.builtin "dict.setdefault") [.ref a,u,r]) Q E s:=by
 obtain ⟨z,hd,vs,rel,dd⟩:=dk_of I.hok e
 have hz:vs.length ≤ sizeLine:=by rw [← rel.length]; exact z
 have hl':(putK kvs k v).length ≤ sizeLine:=by have:=length_putK kvs k v; omega
 have mt:MeetsIn X.prog X.w (Builtin.«dict.setdefault» ⟨[.ref a,u,r],[]⟩) (fun _ R s1=>s1 = s∧(∀ x,valueAt vs k = some x→R (.ok (.ret x)) { s with toks:=s.toks + 1 })∧(valueAt vs k = none→∀ h',h'.DictOf (mixKind X.prog X.w) a (stored vs k r)→Heap.SameBut a s.heap h'→R (.ok (.ret r)) { s with heap:=h',toks:=s.toks + 1 })) :=
  .of_wp fun A R s1 ⟨e1,h1,h2⟩=>by
   subst e1
   unfold Builtin.«dict.setdefault»
   refine wpAny_bind ?_
   unfold Builtin.Dict.keyAndDefault
   refine wpAny_bind (wpAny_notOrdered_dict dd.typeIs ?_)
   show wpAny _ _ (pure (a,u,some r)) _ _ _
   refine wpAny_pure ?_
   show wpAny _ _ (if (a == sysModules) = true then _ else (dictSetDefault a u r >>= _)) _ _ _
   rw [if_neg (by rw [hd]; exact Bool.false_ne_true)]
   exact wpAny_bind (setd_pairs (kV_is ry) dd hz (fun x hx=>wpAny_pure ⟨x,rfl,h1 x hx⟩) fun hn h' hm' hs'=>wpAny_pure ⟨r,rfl,h2 hn h' hm' hs'⟩)
 have rl:=rel.val k
 refine call_meetsIn PySem.F.slot_dict_setdefault dd.typeIs PySem.F.entry_dict_setdefault (PySem.F.args_dict_setdefault_3 _ _ _) mt ⟨rfl,fun x hx=>?_,fun hx h' dd' hs=>?_⟩
 ·rw [hx] at rl
  cases hv:valV kvs k with
  | none=>rw [hv] at rl; exact rl.elim
  | some y=>rw [hv] at rl; exact old y _ _ hv (I.tok _) rl
 ·rw [hx] at rl
  cases hv:valV kvs k with
  | some y=>rw [hv] at rl; exact rl.elim
  | none =>
   refine new hv _ ?_
   have he:∃ q,h'.get? a = some q:=let ⟨q,_,_,hq,_⟩:=dd'; ⟨q,hq⟩
   exact d_write I (by rw [e]; exact True.intro) hs he (dk_new hl' hd (rel.put k rv) dd')
def tDSetd (td ty tx:TE):TE:=fun σ H Q=>td σ H fun x H1=>∃ a,x = .ref a∧IsD H1 a∧ty σ H1 fun y H2=>tx σ H2 fun z H3=>∃ kvs k,y = kV k∧H3 a = some (.dK kvs)∧kvs.length < sizeLine ∧
 (∀ v,valV kvs k = some v→Q v H3)∧(valV kvs k = none→Q z (upd H3 a (.dK (putK kvs k z))))
theorem pe_dsetd {o e f:Expr} {apos cpos:Pos} {td ty tx:TE} (ho:PE X o td) (he:PE X e ty) (hf:PE X f tx) (m:M2 X o "setdefault" apos e f cpos):PE X (.Call (.Attribute o "setdefault" apos) [e,f] [] cpos) (tDSetd td ty tx):=by
 intro pins s σ H Q I h
 refine wpAny_Call_method m.base m.few m.line PySem.F.plainAttrs_dict PySem.F.slot_dict_setdefault PySem.F.type_dict_setdefault (thn (ho pins s σ H _ I h) fun u s1 ⟨x,H1,I1,rx,a,ex,d,q1⟩=>?_)
 subst ex
 obtain rfl:u = Value.ref a:=rx
 obtain ⟨t1,t2,_⟩:=isD_at I1 d
 refine ⟨t1,t2,?_⟩
 rw [m.trees]
 refine Calls.callWith_builtin rfl (Calls.evalArgs_plain (Calls.spliced_cons (thn (he pins s1 σ H1 _ I1 q1) fun iv s2 ⟨y,H2,I2,ry,q2⟩ =>
  Calls.spliced_cons (thn (hf pins s2 σ H2 _ I2 q2) fun fv s3 ⟨z,H3,I3,rz,kvs,k,ey,hk,hl,qo,qn⟩=>Calls.spliced_nil ?_))))
 subst ey
 exact d_setd I3 hk hl ry rz (fun x w' s' hv I' rx=>⟨x,H3,I',rx,qo x hv⟩) fun hn s' I'=>⟨z,_,I',rz,qn hn⟩
end
def dKey:D→Option Key
 | .int i=>some (.inl i)
 | .str x=>some (.inr x)
 | _=>none
section
variable {κ:Type} [DecidableEq κ]
def valD (kvs:List (κ × D)) (k:κ):Option D:=(kvs.find? fun kv=>decide (kv.1 = k)).map (·.2)
def putD (kvs:List (κ × D)) (k:κ) (d:D):List (κ × D) :=
 if (kvs.any fun kv=>decide (kv.1 = k)) = true then kvs.map (fun kv=>if kv.1 = k then (kv.1,d) else kv) else kvs ++ [(k,d)]
variable {K:PySem.W.Frag} {H:Hp}
theorem val_rep (k:κ):∀ {ks:List (κ × V)} {kvs:List (κ × D)},ks.map Prod.fst = kvs.map Prod.fst→RepDs K H (ks.map Prod.snd) (kvs.map Prod.snd) →
  (∀ d,valD kvs k = some d→∃ v,valV ks k = some v∧RepD K H v d)∧(valD kvs k = none→valV ks k = none)
 | [],[],_,_=>⟨(fun _ h=>nomatch h),fun _=>rfl⟩
 | p :: ks,q :: kvs,e,r=>by
  simp only [List.map_cons,List.cons.injEq] at e
  rw [List.map_cons,List.map_cons] at r
  unfold RepDs at r
  obtain ⟨i1,i2⟩:=val_rep k e.2 r.2
  by_cases z:q.1 = k
  ·have e1:valD (q :: kvs) k = some q.2:=by simp [valD,List.find?_cons,z]
   rw [e1,valV_pos (e.1.trans z)]
   exact ⟨fun d h=>⟨_,rfl,by cases h; exact r.1⟩,fun h=>by cases h⟩
  ·have e1:valD (q :: kvs) k = valD kvs k:=by simp [valD,List.find?_cons,z]
   rw [e1,valV_neg (fun h=>z (e.1 ▸ h))]
   exact ⟨i1,i2⟩
 | [],q :: kvs,e,_=>by simp at e
 | p :: ks,[],e,_=>by simp at e
theorem any_rep (k:κ) {ks:List (κ × V)} {kvs:List (κ × D)} (e:ks.map Prod.fst = kvs.map Prod.fst):(ks.any fun kv=>decide (kv.1 = k)) = kvs.any fun kv=>decide (kv.1 = k):=by
 have h1:(ks.any fun kv=>decide (kv.1 = k)) = (ks.map Prod.fst).any fun x=>decide (x = k):=by rw [List.any_map]; rfl
 have h2:(kvs.any fun kv=>decide (kv.1 = k)) = (kvs.map Prod.fst).any fun x=>decide (x = k):=by rw [List.any_map]; rfl
 rw [h1,h2,e]
theorem repl_rep (k:κ) {v:V} {d:D} (rv:RepD K H v d):∀ {ks:List (κ × V)} {kvs:List (κ × D)},ks.map Prod.fst = kvs.map Prod.fst→RepDs K H (ks.map Prod.snd) (kvs.map Prod.snd) →
  (ks.map fun kv=>if kv.1 = k then (kv.1,v) else kv).map Prod.fst = (kvs.map fun kv=>if kv.1 = k then (kv.1,d) else kv).map Prod.fst∧RepDs K H ((ks.map fun kv=>if kv.1 = k then (kv.1,v) else kv).map Prod.snd) ((kvs.map fun kv=>if kv.1 = k then (kv.1,d) else kv).map Prod.snd)
 | [],[],_,_=>⟨rfl,.nil⟩
 | p :: ks,q :: kvs,e,r=>by
  simp only [List.map_cons,List.cons.injEq] at e
  rw [List.map_cons,List.map_cons] at r
  unfold RepDs at r
  obtain ⟨i1,i2⟩:=repl_rep k rv e.2 r.2
  simp only [List.map_cons,e.1]
  by_cases z:q.1 = k
  ·simp only [z,if_true]
   exact ⟨by rw [i1],.cons rv i2⟩
  ·simp only [z,if_false]
   exact ⟨by rw [i1,e.1],.cons r.1 i2⟩
 | [],q :: kvs,e,_=>by simp at e
 | p :: ks,[],e,_=>by simp at e
theorem put_rep (k:κ) {v:V} {d:D} (rv:RepD K H v d) {ks:List (κ × V)} {kvs:List (κ × D)} (e:ks.map Prod.fst = kvs.map Prod.fst) (r:RepDs K H (ks.map Prod.snd) (kvs.map Prod.snd)) :
  (putK ks k v).map Prod.fst = (putD kvs k d).map Prod.fst∧RepDs K H ((putK ks k v).map Prod.snd) ((putD kvs k d).map Prod.snd):=by
 unfold putK putD
 rw [any_rep k e]
 split
 ·exact repl_rep k rv e r
 ·refine ⟨by rw [List.map_append,List.map_append,e]; rfl,?_⟩
  rw [List.map_append,List.map_append]
  exact r.append (.one rv)
theorem keys_len {ks:List (κ × V)} {kvs:List (κ × D)} (e:ks.map Prod.fst = kvs.map Prod.fst):ks.length = kvs.length:=by
 have:=congrArg List.length e
 simpa using this
end
section
variable {K:PySem.W.Frag} {F:Fr} {σ:St} {ρ ρ':En} {H H':Hp} {td ty tx:TE} {ad ay ax:AE}
theorem kV_of {v:V} {d:D} {k:Key} (h:RepD K H v d) (e:dKey d = some k):v = kV k:=by
 cases d with
 | int i=>unfold RepD at h; injection e with e; subst e; exact h
 | str i=>unfold RepD at h; injection e with e; subst e; exact h
 | non=>cases e
 | bl _=>cases e
 | tup _=>cases e
 | lst _=>cases e
def aDNew:AE:=fun ρ q=>q (.n (.dk [])) ρ
theorem tok_dnew:TEok K tDNewK aDNew:=fun F σ ρ H q Q r h k p hp=>k (.n (.dk [])) ρ _ _ h ⟨H,p,_,r,.refl,rfl,⟨p,[],rfl,upd_same,rfl,.nil⟩,hp,rfl,rfl⟩
theorem dk_at {i:Nat} {x:V} {kvs:List (Key × D)} (r:Rel K F σ ρ H) (ei:σ[i]? = some (some x)) (hg:gt ρ i = .dk kvs):∃ t ks,x = .ref t∧H t = some (.dK ks)∧ks.map Prod.fst = kvs.map Prod.fst∧RepDs K (hid H (hs F σ ρ)) (ks.map Prod.snd) (kvs.map Prod.snd):=by
 have s:=r.sl i
 rw [hg,ei] at s
 obtain ⟨t,ks,e,h1,h2,h3⟩:=s
 injection e with e; injection e with e
 exact ⟨t,ks,e,h1,h2,h3⟩
@[irreducible] def gDGet (kvs:List (Key × D)) (d:D) (q:D→Prop):Prop:=match dKey d with
 | some k=>(match valD kvs k with | some x=>q x | none=>False)
 | none=>False
theorem gDGet_inv {kvs:List (Key × D)} {d:D} {q:D→Prop} (h:gDGet kvs d q):∃ k x,dKey d = some k∧valD kvs k = some x∧q x:=by
 unfold gDGet at h
 split at h
 ·rename_i k e
  split at h
  ·rename_i x e'; exact ⟨k,x,e,e',h⟩
  ·exact h.elim
 ·exact h.elim
theorem gDGet_ok {kvs:List (Key × D)} {d x:D} {k:Key} {q:D→Prop} (e:dKey d = some k) (e':valD kvs k = some x) (h:q x):gDGet kvs d q:=by
 unfold gDGet
 simp only [e,e']
 exact h
def aDGet (a i:AE):AE:=fun ρ q=>a ρ fun r ρ1=>match r with
 | .o j=>i ρ1 fun r2 ρ2=>(match r2,gt ρ2 j with
  | .d d,.dk kvs=>gDGet kvs d fun x=>q (.d x) ρ2
  | _,_=>False)
 | _=>False
theorem tok_dget (ha:TEok K td ad) (hi:TEok K ty ay):TEok K (tDGet td ty) (aDGet ad ay):=by
 intro F σ ρ H q Q r h k
 refine ha F σ ρ H _ _ r h fun r1 ρ1 x H1 h1 o1=>?_
 obtain ⟨r1',k1,i1⟩:=o1.inF
 split at h1
 ·rename_i j
  have ej:σ[j]? = some (some x):=i1
  refine hi F σ ρ1 H1 _ _ r1' h1 fun r2 ρ2 y H2 h2 o2=>?_
  obtain ⟨r2',k2,i2⟩:=o2.inF
  split at h2
  ·rename_i d kvs hg
   obtain ⟨kk,z,ek,ez,hq⟩:=gDGet_inv h2
   obtain ⟨t,ks,rfl,ht,e1,e2⟩:=dk_at r2' ej hg
   obtain ⟨v,ev,rv⟩:=(val_rep kk e1 e2).1 z ez
   refine ⟨t,v,rfl,?_,((k.after k1).after k2).dat r2' hq rv⟩
   rw [kV_of i2 ek,← ev]
   exact DGet.k ht
  ·exact h2.elim
 ·exact h1.elim
def aDIn (neg:Bool) (i a:AE):AE:=fun ρ q=>i ρ fun r ρ1=>a ρ1 fun r2 ρ2=>match r,r2 with
 | .d d,.o j=>(match gt ρ2 j,dKey d with
  | .dk kvs,some k=>q (.d (.bl (if neg then !(valD kvs k).isSome else (valD kvs k).isSome))) ρ2
  | _,_=>False)
 | _,_=>False
theorem isSome_rep {kvs:List (Key × D)} {ks:List (Key × V)} {k:Key} (e1:ks.map Prod.fst = kvs.map Prod.fst) (e2:RepDs K H (ks.map Prod.snd) (kvs.map Prod.snd)):(valV ks k).isSome = (valD kvs k).isSome:=by
 obtain ⟨a,b⟩:=val_rep k e1 e2
 cases h:valD kvs k with
 | none=>rw [b h]; rfl
 | some d=>obtain ⟨v,e,_⟩:=a d h; rw [e]; rfl
theorem tok_din (hi:TEok K ty ay) (ha:TEok K td ad):TEok K (tDIn ty td) (aDIn false ay ad):=by
 intro F σ ρ H q Q r h k
 refine hi F σ ρ H _ _ r h fun r1 ρ1 y H1 h1 o1=>?_
 obtain ⟨r1',k1,i1⟩:=o1.inF
 refine ha F σ ρ1 H1 _ _ r1' h1 fun r2 ρ2 x H2 h2 o2=>?_
 obtain ⟨r2',k2,i2⟩:=o2.inF
 split at h2
 ·rename_i d j
  have ej:σ[j]? = some (some x):=i2
  split at h2
  ·rename_i kvs kk hg ek
   obtain ⟨t,ks,rfl,ht,e1,e2⟩:=dk_at r2' ej hg
   refine ⟨t,valV ks kk,rfl,?_,?_⟩
   ·rw [kV_of i1 ek]; exact DGet.k ht
   ·rw [isSome_rep e1 e2]
    exact ((k.after k1).after k2).bl r2' h2
  ·exact h2.elim
 ·exact h2.elim
theorem tok_dnotin (hi:TEok K ty ay) (ha:TEok K td ad):TEok K (tDNotIn ty td) (aDIn true ay ad):=by
 intro F σ ρ H q Q r h k
 refine hi F σ ρ H _ _ r h fun r1 ρ1 y H1 h1 o1=>?_
 obtain ⟨r1',k1,i1⟩:=o1.inF
 refine ha F σ ρ1 H1 _ _ r1' h1 fun r2 ρ2 x H2 h2 o2=>?_
 obtain ⟨r2',k2,i2⟩:=o2.inF
 split at h2
 ·rename_i d j
  have ej:σ[j]? = some (some x):=i2
  split at h2
  ·rename_i kvs kk hg ek
   obtain ⟨t,ks,rfl,ht,e1,e2⟩:=dk_at r2' ej hg
   refine ⟨t,valV ks kk,rfl,?_,?_⟩
   ·rw [kV_of i1 ek]; exact DGet.k ht
   ·rw [isSome_rep e1 e2]
    exact ((k.after k1).after k2).bl r2' h2
  ·exact h2.elim
 ·exact h2.elim
def aDPut (x o i:AE):AS:=fun e ρ=>x ρ fun r ρ1=>sto [r.frz] ρ1 fun ds ρ2=>o ρ2 fun r2 ρ3=>match r2 with
 | .o j=>i ρ3 fun r3 ρ4=>(match r3,gt ρ4 j,ds with
  | .d kd,.dk kvs,[d]=>(match dKey kd with | some k=>kvs.length ≤ 1000000∧e.nx (pt ρ4 j (.dk (putD kvs k d))) | none=>False)
  | _,_,_=>False)
 | _=>False
theorem sok_dput {pr:Nat→Bool} {tv:TE} {av:AE} (h:TEok K tv av) (ho:TEok K td ad) (hi:TEok K ty ay):TSok K pr (sDPut td ty tv) (aDPut av ad ay):=by
 intro F σ ρ H D e hp r ha k
 refine h F σ ρ H _ _ r ha fun r1 ρ1 v H1 h1 o=>?_
 obtain ⟨r',k1,i1⟩:=o.inF
 obtain ⟨ds,ρ2,h2,r2,k2,rd⟩:=sto_ok r' (.cons i1 .nil) h1
 refine ho F σ ρ2 H1 _ _ r2 h2 fun r3 ρ3 x H3 h3 o3=>?_
 obtain ⟨r3',k3,i3⟩:=o3.inF
 split at h3
 ·rename_i j
  have ej:σ[j]? = some (some x):=i3
  refine hi F σ ρ3 H3 _ _ r3' h3 fun r4 ρ4 y H4 h4 o4=>?_
  obtain ⟨r4',k4,i4⟩:=o4.inF
  split at h4
  ·rename_i kd kvs d hg
   split at h4
   ·rename_i kk ek
    obtain ⟨t,ks,rfl,ht,e1,e2⟩:=dk_at r4' ej hg
    unfold RepDs at rd
    have rd4:=(RepD.same rd.1 (k3.trans k4).vis)
    obtain ⟨p1,p2⟩:=put_rep kk rd4 e1 e2
    have hw:=r4'.write (i:=j) (l:=t) (o:=.dK (putK ks kk v)) (s:=.dk (putD kvs kk d)) (by rw [hg]; rfl) ej rfl ⟨t,_,rfl,upd_same,p1,p2⟩
    refine ⟨t,_,rfl,?_,k.nx _ _ _ h4.2 hw.1⟩
    rw [kV_of i4 ek]
    exact DPut.k ht (smallS (by rw [keys_len e1]; exact h4.1))
   ·exact h4.elim
  ·exact h4.elim
 ·exact h3.elim
@[irreducible] def gSetd (kvs:List (Key × D)) (kd d:D) (q:D→List (Key × D)→Prop):Prop:=match dKey kd with
 | some k=>kvs.length ≤ 1000000∧(match valD kvs k with | some x=>q x kvs | none=>q d (putD kvs k d))
 | none=>False
theorem gSetd_inv {kvs:List (Key × D)} {kd d:D} {q:D→List (Key × D)→Prop} (h:gSetd kvs kd d q):∃ k,dKey kd = some k∧kvs.length ≤ 1000000∧(∀ x,valD kvs k = some x→q x kvs)∧(valD kvs k = none→q d (putD kvs k d)):=by
 unfold gSetd at h
 split at h
 ·rename_i k e
  refine ⟨k,e,h.1,fun x hx=>?_,fun hx=>?_⟩
  ·have:=h.2; rw [hx] at this; exact this
  ·have:=h.2; rw [hx] at this; exact this
 ·exact h.elim
theorem gSetd_ok {kvs:List (Key × D)} {kd d:D} {k:Key} {q:D→List (Key × D)→Prop} (e:dKey kd = some k) (hz:kvs.length ≤ 1000000) (h1:∀ x,valD kvs k = some x→q x kvs) (h2:valD kvs k = none→q d (putD kvs k d)):gSetd kvs kd d q:=by
 unfold gSetd
 simp only [e]
 refine ⟨hz,?_⟩
 cases hv:valD kvs k with
 | none=>exact h2 hv
 | some x=>exact h1 x hv
def aDSetd (a i x:AE):AE:=fun ρ q=>a ρ fun r ρ1=>match r with
 | .o j=>(match gt ρ1 j with
  | .dk _=>i ρ1 fun r2 ρ2=>x ρ2 fun r3 ρ3=>(match r2,r3,gt ρ3 j with
   | .d kd,.d d,.dk kvs=>gSetd kvs kd d fun z kvs'=>q (.d z) (pt ρ3 j (.dk kvs'))
   | _,_,_=>False)
  | _=>False)
 | _=>False
theorem pt_gt:∀ {ρ:En} {i:Nat} {s:Sv},gt ρ i = s→s.own = true→pt ρ i s = ρ
 | [],_,_,h,ho=>by cases h; cases ho
 | x :: r,0,s,h,_=>by cases h; rfl
 | x :: r,i + 1,s,h,ho=>by show x :: pt r i s = x :: r; rw [pt_gt (ρ:=r) h ho]
theorem tok_dsetd (ha:TEok K td ad) (hi:TEok K ty ay) (hx:TEok K tx ax):TEok K (tDSetd td ty tx) (aDSetd ad ay ax):=by
 intro F σ ρ H q Q r h k
 refine ha F σ ρ H _ _ r h fun r1 ρ1 x H1 h1 o1=>?_
 obtain ⟨r1',k1,i1⟩:=o1.inF
 split at h1
 ·rename_i j
  have ej:σ[j]? = some (some x):=i1
  split at h1
  ·rename_i kvs0 hg0
   obtain ⟨t,ks0,rfl,ht0,_,_⟩:=dk_at r1' ej hg0
   refine ⟨t,rfl,.inl ⟨ks0,.inl ht0⟩,?_⟩
   refine hi F σ ρ1 H1 _ _ r1' h1 fun r2 ρ2 y H2 h2 o2=>?_
   obtain ⟨r2',k2,i2⟩:=o2.inF
   refine hx F σ ρ2 H2 _ _ r2' h2 fun r3 ρ3 z H3 h3 o3=>?_
   obtain ⟨r3',k3,i3⟩:=o3.inF
   have kk:=((k.after k1).after k2).after k3
   split at h3
   ·rename_i kd d kvs hg
    obtain ⟨key,ek,hz,h4,h5⟩:=gSetd_inv h3
    obtain ⟨t',ks,et,ht,e1,e2⟩:=dk_at r3' ej hg
    cases et
    obtain ⟨v1,v2⟩:=val_rep key e1 e2
    refine ⟨ks,key,kV_of i2 ek,ht,smallS (by rw [keys_len e1]; exact hz),fun v hv=>?_,fun hv=>?_⟩
    ·cases hd:valD kvs key with
     | none=>rw [v2 hd] at hv; cases hv
     | some x =>
      obtain ⟨v',ev,rv⟩:=v1 x hd
      rw [ev] at hv; cases hv
      have:=h4 x hd
      rw [pt_gt hg rfl] at this
      exact kk.dat r3' this rv
    ·cases hd:valD kvs key with
     | some x=>obtain ⟨v',ev,_⟩:=v1 x hd; rw [ev] at hv; cases hv
     | none =>
      obtain ⟨p1,p2⟩:=put_rep key i3 e1 e2
      have hw:=r3'.write (i:=j) (l:=t) (o:=.dK (putK ks key z)) (s:=.dk (putD kvs key d)) (by rw [hg]; rfl) ej rfl ⟨t,_,rfl,upd_same,p1,p2⟩
      exact (kk.after hw.2).dat hw.1 (h5 hd) (RepD.same i3 hw.2.vis)
   ·exact h3.elim
  ·exact h1.elim
 ·exact h1.elim
end
section
variable {X:Cx} {pins:List (Addr × Obj)} {σ:St} {H:Hp} {s:Shared} {h':Heap}
theorem Inv.turns {t':Nat} {ch:List Addr} (I:Inv X pins σ H s) (k:∀ b o,b ∉ ch→s.heap.get? b = some o→h'.get? b = some o) (hf:∀ b ∈ ch,FpOk X pins H b):Inv X pins σ H { s with heap:=h',toks:=t' }:=by
 have nit:∀ b u,H b = some u→b ∉ ch:=fun b u e z=>by rw [(hf b z).1] at e; cases e
 refine I.step (g':=s.gens) (d':=s.drawn) (ch:=ch) (fun b hb=>?_) (fun b o _ _ hc e _=>k b o hc e) (fun b o _ _ hc e _=>⟨o.slots,k b o hc e⟩) (fun _ _ _ _ n=>n)
  (fun b o hc e=>⟨o,k b o hc e⟩) (fun _ _ e=>e) (fun _ _ _ e=>e) (fun b ps e=>⟨#[],by rw [e]; simp⟩) (fun m hm=>?_) (fun b u e=>?_) I.bare
 ·obtain ⟨_,h2,_,h4,h5,h6⟩:=hf b hb
  exact ⟨h4,h2,h5,h6⟩
 ·obtain ⟨o,es,ep,ho,r⟩:=hm
  exact ⟨o,es,ep,k _ o (fun z=>(hf _ z).2.1 rfl) ho,r⟩
 ·refine (I.hok b u e).stay (fun c v hc q=>k c v ?_ q) (fun _ q=>q) fun _ _ q=>q
  rcases hc with z | z
  ·rw [z]; exact nit b u e
  ·exact nit c _ z
theorem Inv.trackO {p:Addr} {o:HO} (I:Inv X pins σ H s) (hf:FpOk X pins H p) (new:ObjOk X.prog X.w (upd H p o) s.heap p o):Inv X pins σ (upd H p o) s:=by
 have hn:=hf.1
 refine I.call' (ch:=[p]) rfl ⟨fun b u e _ _ _=>e,fun b u e _ _ _=>⟨u.slots,e⟩,fun b u e n hx=>?_,fun b u e _=>⟨u,e⟩,fun b xs e=>?_,fun b u v e=>?_,fun b ps e=>⟨#[],?_⟩⟩ (fun b u e=>?_) I.bare (fun b hb=>?_)
 ·rw [upd_ne (fun z=>hx (by simp [z]))]; exact n
 ·rw [upd_ne (ne_of_none e hn)]; exact e
 ·rw [upd_ne (ne_of_none e hn)]; exact e
 ·rw [upd_ne (ne_of_none e hn),e]; simp
 ·by_cases hb:b = p
  ·subst hb; rw [upd_same] at e; cases e; exact new
  ·rw [upd_ne hb] at e
   exact (I.hok b u e).stay (fun c v _ q=>q) (fun c q=>by rw [upd_ne (ne_of_none q hn)]; exact q) fun c xs q=>by rw [upd_ne (ne_of_none q hn)]; exact q
 ·rw [List.mem_singleton.mp hb]
  obtain ⟨_,h2,_,h4,h5,h6⟩:=hf
  exact ⟨h4,h2,h5,h6⟩
end
section
variable {K:PySem.W.Frag} {ts:TA} {as:AA}
def walkL (pin:Nat→Bool) (ρ:En):R→Option (List D × (En→Prop))
 | .d (.lst ds)=>some (ds,fun _=>True)
 | .o i=>(match gt ρ i with
  | .ow ds=>if pin i = true then some (ds,fun ρ2=>gt ρ2 i = .ow ds) else none
  | _=>none)
 | _=>none
theorem walkL_ok {pin:Nat→Bool} {F:Fr} {σ:St} {ρ:En} {H:Hp} {v:V} {r:R} {ds:List D} {c:En→Prop} (a:Rel K F σ ρ H) (i:InF K F σ ρ H v r) (e:walkL pin ρ r = some (ds,c)) :
  ∃ l vs,v = .ref l∧SqL K H l vs∧∀ σ2 ρ2 H2,Same (hid H (hs F σ ρ)) (hid H2 (hs F σ2 ρ2))→(∀ i,SvOk K (hid H2 (hs F σ2 ρ2)) H2 σ2[i]? (gt ρ2 i))→(∀ j a,pin j = true→σ[j]? = some (some (.ref a))→σ2[j]? = some (some (.ref a)))→c ρ2→∃ vs2,SqL K H2 l vs2∧RepDs K (hid H2 (hs F σ2 ρ2)) vs2 ds:=by
 cases r with
 | n s=>cases e
 | t n=>cases e
 | x s=>cases e
 | d d =>
  cases d with
  | lst es =>
   simp only [walkL,Option.some.injEq,Prod.mk.injEq] at e
   obtain ⟨rfl,rfl⟩:=e
   have rd:RepD K _ v (.lst es):=i
   unfold RepD at rd
   obtain ⟨l,vs,rfl,sq,rr⟩:=rd
   exact ⟨l,vs,rfl,hid_sub.seq (StL.sq sq),fun σ2 ρ2 H2 sm _ _ _=>⟨vs,hid_sub.seq (sm.seq (StL.sq sq)),rr.same sm⟩⟩
  | non=>cases e
  | bl _=>cases e
  | int _=>cases e
  | str _=>cases e
  | tup _=>cases e
 | o j =>
  have ej:σ[j]? = some (some v):=i
  unfold walkL at e
  cases hg:gt ρ j with
  | ow es =>
   simp only [hg] at e
   split at e
   ·rename_i hp
    simp only [Option.some.injEq,Prod.mk.injEq] at e
    obtain ⟨rfl,rfl⟩:=e
    have s:=a.sl j
    rw [hg,ej] at s
    obtain ⟨l,vs,e1,hl,rd⟩:=s
    injection e1 with e1; injection e1 with e1; subst e1
    refine ⟨l,vs,rfl,SqL.of hl,fun σ2 ρ2 H2 sm sv pn hc=>?_⟩
    have s2:=sv j
    rw [hc,pn j l hp ej] at s2
    obtain ⟨l',vs',e2,hl',rd'⟩:=s2
    injection e2 with e2; injection e2 with e2; injection e2 with e2; subst e2
    exact ⟨vs',SqL.of hl',rd'⟩
   ·cases e
  | un=>simp [hg] at e
  | vl _=>simp [hg] at e
  | tp _=>simp [hg] at e
  | dk _=>simp [hg] at e
  | dt _=>simp [hg] at e
  | ex _ _=>simp [hg] at e
  | sc _=>simp [hg] at e
  | px _ _ _=>simp [hg] at e
  | xl _=>simp [hg] at e
end
section
variable {X:Cx} (K:PySem.W.Frag)
def tFmt (te:TE):TE:=fun σ H Q=>te σ H fun x H1=>∃ i,x = .int i∧i.natAbs.log2 < 1920∧Q (.str (toString i)) H1
abbrev TJ:=Str→TE
def jNil:TJ:=fun out _ H Q=>out.length ≤ sizeLine∧Q (.str out) H
def jCons (te:TE) (t:TJ):TJ:=fun out σ H Q=>te σ H fun x H1=>∃ y,x = .str y∧(out ++ y).length ≤ sizeLine∧t (out ++ y) σ H1 Q
end
def Ite (K:PySem.W.Frag) (l:Addr):It :=
 ⟨fun i H=>∃ xs x,SqL K H l xs∧xs[i]? = some x,fun i H v H'=>∃ p x,v = .ref p∧H p = none∧H' = upd H p (.tup [.int (i:Nat),x])∧∀ xs,SqL K H l xs→xs[i]? = some x,
  fun i H=>∃ xs,SqL K H l xs∧xs.length ≤ i⟩
theorem turn_enum {P:Program} {w:World} {K:PySem.W.Frag} {elts:List Expr} {x1} {tpos:Pos} {e it l:Addr} (ne:e ≠ it) :
  Turn P w K (.Tuple elts x1 tpos) (Ite K l) [e,it] e (fun i h=>(∃ old,IsEnum h e it (i:Nat) old)∧h.IsListIter it l i) where
 mem:=by simp
 obj:=fun i h st b hb=>by
  obtain ⟨⟨old,he⟩,⟨o1,e1,c1,d1⟩⟩:=st
  simp only [List.mem_cons,List.not_mem_nil,or_false] at hb
  rcases hb with rfl | rfl
  ·exact ⟨_,he,fun v q=>by cases q⟩
  ·exact ⟨o1,e1,fun v q=>by rw [d1] at q; cases q⟩
 keep:=fun i h h' st k=>by
  obtain ⟨⟨old,he⟩,h1⟩:=st
  exact ⟨⟨old,k e (by simp) _ he⟩,h1.at fun o q=>k it (by simp) o q⟩
 item:=by
  intro X hP hw hK hc i pins s σ H E I hf st hg
  subst hP hw hK
  obtain ⟨xs,x,q1,hx⟩:=hg
  obtain ⟨⟨old,he⟩,h1⟩:=st
  obtain ⟨its,rv,p1,_⟩:=I.list q1
  obtain ⟨u,hu,ru⟩:=rv.get hx
  refine wpAny_pyNext_enum_item he h1 p1.isList (x:=u) (by simpa using hu) ne fun h' a1 a2 a3 a4 hk=>?_
  refine ⟨_,rfl,wpAny_letOwnedTupleGo_enum (s:={ s with heap:=h',toks:=s.toks + 1 }) a1 fun h2' he' hs'=>?_⟩
  have hs2:Heap.SameBut e h' h2':=hs'
  have ls:∀ {b o},s.heap.get? b = some o→b ≠ s.heap.objs.size:=fun e=>Nat.ne_of_lt (Heap.lt_size e)
  have es:e ≠ s.heap.objs.size:=ls he
  have up:∀ b o,b ∉ [e,it]→s.heap.get? b = some o→h2'.get? b = some o:=fun b o hb q=>by
   simp only [List.mem_cons,List.not_mem_nil,or_false,not_or] at hb
   exact (hs2.2 b hb.1).trans (hk b o hb.1 hb.2 q)
  have I1:Inv X pins σ H { s with heap:=h2',toks:=s.toks + 1 }:=I.turns (t':=s.toks + 1) up hf
  have fp:FpOk X pins H s.heap.objs.size:=I.fpOk (Nat.le_refl _) (I.hok.fresh (Nat.le_refl _))
  have g:h2'.get? s.heap.objs.size = some { cls:=.type "tuple",data:=.seq #[.int i s.toks,u] }:=(hs2.2 _ (Ne.symm es)).trans a3
  have I2:=I1.trackO (o:=.tup [.int (i:Nat),x]) fp ⟨by show 2 ≤ sizeLine; decide,[.int i s.toks,u],.cons ⟨_,rfl⟩ (.cons ru .nil),_,g,rfl,_,rfl⟩
  refine ⟨.ref s.heap.objs.size,upd H s.heap.objs.size (.tup [.int (i:Nat),x]),I2,rfl,⟨_,x,rfl,fp.1,rfl,fun zs hz=>by rw [I.list_inj hz q1]; exact hx⟩,?_,fun b hb=>?_⟩
  ·refine ⟨⟨u,by simpa using he'⟩,?_⟩
   obtain ⟨o,q,r⟩:=a2; exact ⟨o,(hs2.2 it (Ne.symm ne)).trans q,r⟩
  ·have hb':=(hf b hb).1
   have ne':b ≠ s.heap.objs.size:=by
    obtain ⟨o1,e1,_⟩:=h1
    simp only [List.mem_cons,List.not_mem_nil,or_false] at hb
    rcases hb with rfl | rfl
    ·exact ls he
    ·exact ls e1
   rw [upd_ne ne']; exact hb'
 done:=by
  intro X hP hw hK hc i pins s σ H E I hf st hg
  subst hP hw hK
  obtain ⟨xs,q1,hl⟩:=hg
  obtain ⟨⟨old,he⟩,h1⟩:=st
  obtain ⟨its,rv,p1,_⟩:=I.list q1
  have l1:=rv.length
  refine wpAny_pyNext_enum_end (I.ok.hd hc) he h1 p1.isList (by simp; omega) fun h' hk=>⟨rfl,I.turns (ch:=[e,it]) (t':=s.toks) (fun b o hb q=>?_) hf⟩
  simp only [List.mem_cons,List.not_mem_nil,or_false,not_or] at hb
  exact hk b o hb.2 q
 self:=fun _ _ _ _ _ st h=>by obtain ⟨⟨old,he⟩,_⟩:=st; exact wpAny_pyIter_enum he h
def iEnum (K:PySem.W.Frag) (t:TA):TI:=fun σ H R=>t σ H fun vs H1=>∃ l xs,vs = [.ref l]∧SqL K H1 l xs∧R (Ite K l) H1
theorem pi_enum (K:PySem.W.Frag) {X:Cx} {elts:List Expr} {x1} {tpos:Pos} {a:Expr} {ta:TA} {p pos:Pos} (hg:Gl X "enumerate") (hm:X.mg "enumerate" = none) (ha:PA X [a] ta) (hK:X.K = K:=by rfl) (hs:starEach [a] X.env = [(false,eval a X.env)]:=by rfl) :
  PI X (.Tuple elts x1 tpos) (.Call (.Name "enumerate" p) [a] [] pos) (iEnum K ta):=by
 subst hK
 intro pins s σ H R I h
 refine Call_ (ld_blt I hg hm bt_enumerate (PyProof.Rows.callWith_type1 (thn (ha pos pins s σ H _ I h) fun us s1 ⟨vs,H1,I1,r1,q1⟩=>?_) hs rfl))
 obtain ⟨l,xs,rfl,h1,q⟩:=q1
 obtain ⟨u,rfl,ru⟩:=vals1 r1
 cases ru
 obtain ⟨its,_,p1,_⟩:=I1.list h1
 refine call_enumerate_list p1.isList fun h' he hi hsz hk=>?_
 refine wpAny_pyIter_enum he ?_
 refine ⟨_,_,_,_,H1,rfl,I1.kept (t':=s1.toks) hk,turn_enum (show s1.heap.objs.size + 1 ≠ s1.heap.objs.size by omega),⟨⟨_,he⟩,hi⟩,fun b hb=>?_,q⟩
 have le:s1.heap.objs.size ≤ b:=by
  simp only [List.mem_cons,List.not_mem_nil,or_false] at hb
  rcases hb with rfl | rfl <;> omega
 exact I1.fpOk le (I1.hok.fresh le)
section
variable {K:PySem.W.Frag} {ts:TA} {as:AA}
def enumD (k:Nat):List D→List D
 | []=>[]
 | d :: ds=>.tup [.int (k:Nat),d] :: enumD (k + 1) ds
theorem enumD_get:∀ {ds:List D} {b k:Nat} {d:D},(enumD b ds)[k]? = some d→∃ x,ds[k]? = some x∧d = .tup [.int ((b + k:Nat):Int),x]
 | [],b,k,d,h=>by simp [enumD] at h
 | x :: ds,b,0,d,h=>by
  simp only [enumD,List.getElem?_cons_zero,Option.some.injEq] at h
  exact ⟨x,rfl,h.symm⟩
 | x :: ds,b,k + 1,d,h=>by
  simp only [enumD,List.getElem?_cons_succ] at h
  obtain ⟨a,e1,e2⟩:=enumD_get (ds:=ds) (b:=b + 1) (k:=k) h
  exact ⟨a,by simpa using e1,by rw [e2,show b + 1 + k = b + (k + 1) by omega]⟩
theorem enumD_len:∀ (ds:List D) (b:Nat),(enumD b ds).length = ds.length
 | [],b=>rfl
 | x :: ds,b=>by simp only [enumD,List.length_cons,enumD_len ds]
theorem wk_enum {S:Addr→Prop} {H:Hp} {l:Addr} {vs:List V} {ds:List D} (al:∀ a,S a→H a ≠ none) (h1:SqL K H l vs) (r1:RepDs K (hid H S) vs ds):WkAt K S H (Ite K l) (enumD 0 ds):=by
 intro k
 constructor
 ·intro d e
  obtain ⟨x,ex,rfl⟩:=enumD_get e
  rw [Nat.zero_add]
  obtain ⟨v,e1,rv⟩:=r1.get ex
  refine ⟨⟨vs,v,h1,e1⟩,fun z H' ⟨p,a,ez,hp,eH,ha⟩=>?_⟩
  have a1:=ha vs h1
  rw [e1] at a1
  cases a1
  subst eH ez
  have sm:Same H (upd H p (.tup [.int (k:Nat),v])):=(Same.refl H).new hp
  have sm':Same (hid H S) (hid (upd H p (.tup [.int (k:Nat),v])) S):=hid_same fun a o e n=>⟨sm a o e,n⟩
  refine ⟨sm,?_⟩
  unfold RepD
  exact ⟨p,[.int (k:Nat),v],rfl,(hid_of (fun z=>al p z hp) upd_same),.cons (by unfold RepD; rfl) (.cons (rv.same sm') .nil)⟩
 ·intro z
  rw [enumD_len] at z
  exact ⟨vs,h1,by rw [r1.length]; exact z⟩
def aEnum (pin:Nat→Bool) (as:AA):AI:=fun ρ q=>as ρ fun rs ρ1=>match rs with
 | [r1]=>(match walkL pin ρ1 r1 with
  | some (ds,c)=>q (enumD 0 ds) c ρ1
  | _=>False)
 | _=>False
theorem tiok_enum {pin:Nat→Bool} (h:TAok K ts as):TIok K pin (iEnum K ts) (aEnum pin as):=by
 intro F σ ρ H q Rk r ha k
 refine h F σ ρ H _ _ r ha fun rs ρ1 vs H1 h1 r1 i1 k1=>?_
 split at h1
 ·obtain ⟨x,rfl,ix⟩:=i1.one
  split at h1
  ·rename_i ds c e1
   obtain ⟨l1,us1,rfl,s1,w1⟩:=walkL_ok r1 ix e1
   refine ⟨l1,us1,rfl,s1,k _ _ _ _ _ h1 r1 k1 fun σ2 ρ2 H2 sm sv pn al hc=>?_⟩
   obtain ⟨v1,z1,rd1⟩:=w1 σ2 ρ2 H2 sm sv pn hc
   exact wk_enum (fun a z=>(al a z).1) z1 rd1
  ·exact h1.elim
 ·exact h1.elim
end
open Builtin.SmallTypes (nextOf)
structure Feed (prog:Program) (w:World) (it:Addr) (dep:List Addr) (St:Nat→Heap→Prop) (gv:Nat→Option Value):Prop where
 mem:it ∈ dep
 obj:∀ i h,St i h→∃ o vs n,h.get? it = some o∧o.data = .fields vs∧o.cls = .type n∧n ≠ "zip"
 keep:∀ i h h',St i h→(∀ b o,b ∈ dep→h.get? b = some o→h'.get? b = some o)→St i h'
 item:∀ (A:Around) i (s:Shared) x (Q:Value→Shared→Prop) E,St i s.heap→gv i = some x→(∀ h',St (i + 1) h'→Heap.SameBut it s.heap h'→Q x { s with heap:=h' })→wpAny (model prog w) A (nextOf (.ref it)) Q E s
 fin:∀ (A:Around) i (s:Shared) (Q:Value→Shared→Prop) E,A.handled = none→St i s.heap→gv i = none→(∀ h' e,Heap.ExtBut it s.heap h'→(∃ o,h'.get? e = some o∧o.cls = .type "StopIteration")→E (.ref e) { s with heap:=h' })→wpAny (model prog w) A (nextOf (.ref it)) Q E s
section
variable {prog:Program} {w:World}
theorem feed_tup {it l:Addr} {xs:Array Value} (hne:l ≠ it):Feed prog w it [it,l] (fun i h=>h.IsTupleIter it l i∧h.IsTuple l xs) (fun i=>xs[i]?) where
 mem:=by simp
 obj:=fun i h ⟨⟨o,e,c,d⟩,_⟩=>⟨o,_,_,e,d,c,by decide⟩
 keep:=fun i h h' ⟨a,b⟩ k=>⟨a.at fun o e=>k it o (by simp) e,by obtain ⟨o,e,r⟩:=b; exact ⟨o,k l o (by simp) e,r⟩⟩
 item:=fun A i s x Q E ⟨a,b⟩ hx k=>by
  obtain ⟨o,ho,hc,hd⟩:=id a
  obtain ⟨ol,hol,rr,nl,hdl⟩:=id b
  unfold nextOf
  refine wpAny_bind (wpAny_callSpecial?_slot (name:=Str.ofString "__next__") a.typeIs F.slot_tuple_iterator_next (wpAny_call_entry F.slot_tuple_iterator_next a.typeIs F.entry_tuple_iterator_next ?_ (F.args_tuple_iterator_next_1 _)))
  show wpAny _ _ (field (.ref it) 0 >>= _) _ _ s
  refine wpAny_bind (wpAny_field ho hd (x:=.ref l) rfl ?_)
  show wpAny _ _ (if (Value.ref l == Value.none) = true then _ else _) _ _ s
  rw [if_neg (fun z=>by cases z)]
  show wpAny _ _ (field (.ref it) 1 >>= _) _ _ s
  refine wpAny_bind (wpAny_field ho hd (x:=.int i 0) rfl ?_)
  show wpAny _ _ (seqItems? (.ref l) >>= _) _ _ s
  refine wpAny_bind (wpAny_seqItems hol hdl ?_)
  simp only [Int.toNat_natCast,hx]
  refine wpAny_bind (wpAny_setField ho hd (by simp) (wpAny_pure ⟨x,rfl,wpAny_pure ?_⟩))
  refine k _ ⟨⟨_,Heap.get?_update_self _ ho (Obj.isFreed_of_fields (Obj.data_mapFields hd _)),(Obj.cls_mapFields ..).trans hc,by rw [Obj.data_mapFields hd]; simp [rawInt]⟩,ol,?_,rr,nl,hdl⟩ (Heap.SameBut.update ..)
  exact ((Heap.SameBut.update ..).2 l hne).trans hol
 fin:=fun A i s Q E hh ⟨a,b⟩ hx k=>by
  obtain ⟨o,ho,hc,hd⟩:=id a
  obtain ⟨ol,hol,rr,nl,hdl⟩:=id b
  unfold nextOf
  refine wpAny_bind (wpAny_callSpecial?_slot (name:=Str.ofString "__next__") a.typeIs F.slot_tuple_iterator_next (wpAny_call_entry F.slot_tuple_iterator_next a.typeIs F.entry_tuple_iterator_next ?_ (F.args_tuple_iterator_next_1 _)))
  show wpAny _ _ (field (.ref it) 0 >>= _) _ _ s
  refine wpAny_bind (wpAny_field ho hd (x:=.ref l) rfl ?_)
  show wpAny _ _ (if (Value.ref l == Value.none) = true then _ else _) _ _ s
  rw [if_neg (fun z=>by cases z)]
  show wpAny _ _ (field (.ref it) 1 >>= _) _ _ s
  refine wpAny_bind (wpAny_field ho hd (x:=.int i 0) rfl ?_)
  show wpAny _ _ (seqItems? (.ref l) >>= _) _ _ s
  refine wpAny_bind (wpAny_seqItems hol hdl ?_)
  simp only [Int.toNat_natCast,hx]
  refine wpAny_bind (wpAny_rule (wpAny_bind (wpAny_setField ho hd (by simp) ?_)))
  show wpAny _ _ (newExc (.type "StopIteration") [] >>= _) _ _ _
  refine wpAny_bind ?_
  simp only [newExc,newTuple]
  refine wpAny_bind (wpAny_newObj_type ?_ (by size_fits))
  refine wpAny_bind (m:=firstArgMember _ _) (wpAny_of_eq (a:=Value.none) (by first | rfl | (simp only [firstArgMember]; rfl)) ?_)
  refine wpAny_newObj_type ?_ (by size_fits)
  simp only [raiseNew]
  refine wpAny_bind (wpAny_handled ?_)
  first | rw [show A.in1.handled = none from hh] | rw [hh]
  refine wpAny_bind (wpAny_pure (wpAny_throw ?_))
  exact k _ _ (((Heap.SameBut.update ..).extBut.push _).push _) ⟨_,Heap.get?_push_size _ rfl,rfl⟩
variable {A:Around} {E:Value→Shared→Prop} {s:Shared} {z TI TO i1 i2:Addr} {d1 d2:List Addr} {S1 S2:Nat→Heap→Prop} {g1 g2:Nat→Option Value}
end
section
variable {K:PySem.W.Frag} {te:TE} {ae:AE} {pr:Nat→Bool}
theorem rep_snoc {H:Hp}:∀ {vs:List V} {xs:List D} {y:D},RepDs K H vs (xs ++ [y])→∃ as b,vs = as ++ [b]∧RepDs K H as xs∧RepD K H b y
 | [],xs,y,h=>by have:=h.length; simp at this
 | v :: vs,[],y,h=>by
  have:=h.length
  simp at this
  subst this
  rw [List.nil_append] at h
  unfold RepDs at h
  exact ⟨[],v,rfl,.nil,h.1⟩
 | v :: vs,x :: xs,y,h=>by
  rw [List.cons_append] at h
  unfold RepDs at h
  obtain ⟨as,b,rfl,h1,h2⟩:=rep_snoc h.2
  exact ⟨v :: as,b,rfl,.cons h.1 h1,h2⟩
end
section
variable {K:PySem.W.Frag} {ta td tv:TE} {ad a av:AE} {ts:TA} {as:AA}
@[irreducible] def gPop (ds:List D) (q:D→List D→Prop):Prop:=∃ xs y,ds = xs ++ [y]∧q y xs
theorem gPop_ok {xs:List D} {y:D} {q:D→List D→Prop} (h:q y xs):gPop (xs ++ [y]) q:=by unfold gPop; exact ⟨xs,y,rfl,h⟩
def aPop (a:AE):AE:=fun ρ q=>a ρ fun r ρ1=>match r with
 | .o i=>(match gt ρ1 i with
  | .ow ds=>gPop ds fun y xs=>q (.d y) (pt ρ1 i (.ow xs))
  | _=>False)
 | _=>False
theorem tok_pop (ha:TEok K ta a):TEok K (tBM0 K "list" rPop ta) (aPop a):=by
 intro F σ ρ H q Q r h k
 refine ha F σ ρ H _ _ r h fun r1 ρ1 x H1 h1 rel1=>?_
 split at h1
 ·rename_i i
  obtain ⟨r',k1,i1⟩:=rel1.inF
  have ex:σ[i]? = some (some x):=i1
  split at h1
  ·rename_i ds0 hg
   have s:=r'.sl i
   rw [hg,ex] at s
   obtain ⟨l,us,e,hl,rd⟩:=s
   injection e with e; injection e with e; subst e
   unfold gPop at h1
   obtain ⟨xs,y,rfl,h1⟩:=h1
   obtain ⟨as',b,rfl,ra,rb⟩:=rep_snoc rd
   have hw:=r'.write (i:=i) (l:=l) (o:=.lst as') (s:=.ow xs) (by rw [hg]; rfl) ex rfl ⟨l,_,rfl,upd_same,ra⟩
   refine ⟨.inl ⟨rfl,_,SqL.of hl⟩,l,_,b,rfl,rfl,hl,by simp,?_⟩
   rw [show (as' ++ [b]).dropLast = as' by simp]
   exact ((k.after k1).after hw.2).dat hw.1 h1 (RepD.same rb hw.2.vis)
  ·exact h1.elim
 ·exact h1.elim
theorem InFs.length {F:Fr} {σ:St} {ρ:En} {H:Hp} {vs:List V} {rs:List R} (h:InFs K F σ ρ H vs rs):vs.length = rs.length:=by
 induction h with
 | nil=>rfl
 | cons _ _ ih=>rw [List.length_cons,List.length_cons,ih]
end
section
variable {X:Cx} (K:PySem.W.Frag)
def rIndex (K:PySem.W.Frag):V→List V→Hp→VK→Prop:=fun x vs H Q=>∃ (l:Addr) (ns:List Int) (y:Int) (j:Nat),x = .ref l∧vs = [.int y]∧SqL K H l (ns.map V.int)∧ns[j]? = some y∧j < 1000000∧(∀ m,m < j→ns[m]? ≠ some y)∧Q (.int (j:Nat)) H
theorem mt_index (hK:X.K = K:=by rfl):MtR X "list.index" (rIndex K):=by
 subst hK
 intro pins s σ H x vs v us Q I rx rv h
 obtain ⟨l,ns,y,j,rfl,rfl,hq,hj,hsm,hno,q⟩:=h
 cases rx
 obtain ⟨u,rfl,ru⟩:=rv.one
 obtain ⟨its,r,pl,hz⟩:=I.list hq
 obtain ⟨⟨cl,dd,dt,sl⟩,n,e,c1,c2,c3⟩:=pl
 simp only at c1 c2 c3
 subst c1 c2 c3
 have fx:(ns.map V.int).all flatV = true:=by simp [flatV]
 have hl:its.length = ns.length:=by have:=r.length; rw [List.length_map] at this; omega
 have hjl:j < ns.length:=(List.getElem?_eq_some_iff.mp hj).1
 have at':∀ m (hm:m < its.toArray.size),eqU (.int y) its.toArray[m] = decide (ns[m]? = some y):=fun m hm=>by
  have hm':m < its.length:=by simpa using hm
  obtain ⟨w,e1,e2⟩:=r.get (i:=m) (x:=V.int ns[m]) (by rw [List.getElem?_map,List.getElem?_eq_getElem (by omega)]; rfl)
  rw [List.getElem?_eq_getElem hm'] at e1
  cases e1
  have:=eqU_of (x:=.int y) e2 rfl
  simp only [List.getElem_toArray]
  rw [this,List.getElem?_eq_getElem (by omega)]
  simp only [eqV,Option.some.injEq]
  rw [Bool.eq_iff_iff,beq_iff_eq,decide_eq_true_eq]
 refine call_meets PySem.F.slot_list_index ⟨_,e,rfl⟩ PySem.F.entry_list_index (PySem.F.args_list_index_2 _ _) (SeqAt.list_indexAt l its.toArray n none sl u (eqU (.int y)) j (by rw [List.size_toArray]; omega) (by omega) (by rw [at']; exact decide_eq_true hj) (fun m hm hlt=>by rw [at']; exact decide_eq_false (hno m hlt))) ⟨e,fun w hw=>mem_eqAt ru rfl r fx w (by simpa using hw),?_⟩
 exact ⟨.int (j:Nat),H,I.tok _,⟨s.toks,rfl⟩,q⟩
end
section
variable {K:PySem.W.Frag} {ta:TE} {a:AE} {ts:TA} {as:AA}
@[irreducible] def gIdx (ds:List D) (y:Int) (q:Nat→Prop):Prop:=∃ (ns:List Int) (j:Nat),ds = ns.map D.int∧ns[j]? = some y∧j < 1000000∧(∀ m,m < j→ns[m]? ≠ some y)∧q j
theorem gIdx_ok {ns:List Int} {y:Int} {j:Nat} {q:Nat→Prop} (h:ns[j]? = some y) (hj:j < 1000000) (hno:∀ m,m < j→ns[m]? ≠ some y) (hq:q j):gIdx (ns.map D.int) y q:=by unfold gIdx; exact ⟨ns,j,rfl,h,hj,hno,hq⟩
def aIdx (a:AE) (as:AA):AE:=fun ρ q=>a ρ fun r ρ1=>match view ρ1 r.frz with
 | some (.lst ds)=>as ρ1 fun rs ρ2=>(match rs with
  | [.d (.int y)]=>gIdx ds y fun j=>ρ1 = ρ2∧q (.d (.int (j:Nat))) ρ2
  | _=>False)
 | _=>False
theorem tok_idx (ha:TEok K ta a) (hs':TAok K ts as):TEok K (tBM K "list" (rIndex K) ta ts) (aIdx a as):=by
 intro F σ ρ H q Q r h k
 refine ha F σ ρ H _ _ r h fun r1 ρ1 x H1 h1 o1=>?_
 obtain ⟨r1',k1,i1⟩:=o1.inF
 split at h1
 ·rename_i ds e
  obtain ⟨l0,us0,rfl,sq0,_⟩:=view_lst r1' i1 e
  refine ⟨.inl ⟨rfl,_,sq0⟩,hs' F σ ρ1 H1 _ _ r1' h1 fun rs ρ2 vs H2 h2 r2 i2 k2=>?_⟩
  split at h2
  ·rename_i y
   obtain ⟨z,rfl,iz⟩:=i2.one
   unfold gIdx at h2
   obtain ⟨ns,j,rfl,hj,hsm,hno,e12,hq⟩:=h2
   subst e12
   obtain ⟨l,us,el,sq,rd⟩:=view_lst r2 (i1.keep k2) e
   rw [repInts] at rd
   rw [rd] at sq
   exact ⟨l,ns,y,j,el,by rw [iz.int],sq,hj,hsm,hno,((k.after k1).after k2).int r2 hq⟩
  ·exact h2.elim
 ·exact h1.elim
end
section
variable {X:Cx}
structure BlkC (X:Cx) (scope:Scope) (own:List Str) (js:List Nat):Prop where
 kind:scope.kind = .function
 cells:∀ y ∈ scope.names,y.2 = .cell→scope.names.lookup y.1 = some .cell
 names:∀ y ∈ scope.names,y.2 = .local→scope.names.lookup y.1 = some .local
 free:∀ y ∈ scope.names,y.2 = .free→X.env.kindOf y.1 = some .cell ∨ X.env.kindOf y.1 = some .free
 uniq:∀ x,(x,NameKind.free) ∈ scope.names→scope.names.lookup x = some .free
 nd:(own ++ capN X.N js).Nodup
 cap:∀ j ∈ js,j < X.N.length∧((X.N[j]?).getD "",NameKind.free) ∈ scope.names
def blkCB (sc:Scope) (N:List Str) (scope:Scope) (own:List Str) (js:List Nat):Bool :=
 scope.kind == .function && scope.names.all (fun y=>y.2 != .cell || scope.names.lookup y.1 == some .cell) && scope.names.all (fun y=>y.2 != .local || scope.names.lookup y.1 == some .local) &&
 scope.names.all (fun y=>y.2 != .free || sc.names.lookup y.1 == some .cell || sc.names.lookup y.1 == some .free) && scope.names.all (fun y=>y.2 != .free || scope.names.lookup y.1 == some .free) &&
 decide (own ++ capN N js).Nodup && js.all (fun j=>decide (j < N.length) && scope.names.any fun y=>y.1 == (N[j]?).getD "" && y.2 == .free)
theorem BlkC.of {scope:Scope} {own:List Str} {js:List Nat} (sc:Scope) (N:List Str) (h:blkCB sc N scope own js = true:=by decide +kernel) (e1:X.env.scope = sc:=by rfl) (e2:X.N = N:=by rfl):BlkC X scope own js:=by
 subst e1 e2
 unfold blkCB at h
 simp only [Bool.and_eq_true,List.all_eq_true,decide_eq_true_eq,beq_iff_eq] at h
 obtain ⟨⟨⟨⟨⟨⟨h1,h2⟩,h3⟩,h4⟩,h5⟩,h6⟩,h7⟩:=h
 refine ⟨h1,fun y hy e=>?_,fun y hy e=>?_,fun y hy e=>?_,fun x hx=>?_,h6,fun j hj=>?_⟩
 ·have:=h2 y hy
  simpa [e] using this
 ·have:=h3 y hy
  simpa [e] using this
 ·have:=h4 y hy
  simp only [e,bne_self_eq_false,Bool.false_or,Bool.or_eq_true,beq_iff_eq] at this
  exact this
 ·have:=h5 _ hx
  simpa using this
 ·obtain ⟨a,b⟩:=h7 j hj
  refine ⟨a,?_⟩
  obtain ⟨y,hy,e⟩:=List.any_eq_true.mp b
  simp only [Bool.and_eq_true,beq_iff_eq] at e
  obtain ⟨e1,e2⟩:=e
  rw [← e1,← e2]
  exact hy
end
section
variable {X:Cx} (K:PySem.W.Frag)
def rSorted (K:PySem.W.Frag):List V→Hp→VK→Prop:=fun xs H Q=>∃ (p:Addr) (ns:List Int),xs = [.ref p]∧SqL K H p (ns.map V.int)∧ns.length < 64∧∀ ns':List Int,ns'.Perm ns→ns'.Pairwise (· ≤ ·)→∀ l,H l = none→Q (.ref l) (upd H l (.lst (ns'.map V.int)))
theorem call_sorted (hK:X.K = K:=by rfl):CallR X (.builtin "sorted") (rSorted K):=by
 subst hK
 intro pins s σ H xs us Q I r h
 obtain ⟨a,ns,rfl,hq,h64,q1⟩:=h
 obtain ⟨u1,rfl,ru⟩:=vals1 r
 cases ru
 obtain ⟨its,rv,pl,hz⟩:=I.list hq
 have hl:its.length = ns.length:=by have:=rv.length; rw [List.length_map] at this; omega
 refine sorted_ints pl.isList (intsAre_of rv) (by omega) fun out ns' a1 a2 a3=>?_
 obtain ⟨e,he⟩:=sortedAll_at s.heap its out
 have hlen:=a2.length_eq
 refine ⟨.ref (s.heap.objs.size + 1),_,I.laid (t':=s.toks) (o:=.lst (ns'.map V.int)) (fun b o q=>sortedAll_old q) (Nat.le_succ _) ⟨?_,out.toList,e,vals_ints a1,?_⟩,rfl,q1 ns' a2 a3 _ (I.hok.fresh (Nat.le_succ _))⟩
 ·rw [List.length_map]; exact Nat.le_of_lt (small1000 (n:=ns'.length) (by omega))
 ·rw [he]
end
section
variable {K:PySem.W.Frag}
@[irreducible] def gSorted:List R→AE:=fun rs ρ q=>match rs with
 | [r]=>(match view ρ r with
  | some (.lst ds)=>(match intsOf ds with | some ns=>ns.length < 64∧(∀ ns':List Int,ns'.Perm ns→ns'.Pairwise (· ≤ ·)→q (.f (ns'.map D.int)) ρ) | none=>False)
  | _=>False)
 | _=>False
theorem cbok_sorted:CbOk K (rSorted K) gSorted:=by
 intro F σ ρ H vs rs q Q a i h b
 unfold gSorted at h
 split at h
 ·obtain ⟨y,rfl,iy⟩:=i.one
  split at h
  ·rename_i ds e
   split at h
   ·rename_i ns e'
    obtain ⟨l,us,rfl,sq,rd⟩:=view_lst a iy e
    rw [intsOf_eq e',repInts] at rd
    rw [rd] at sq
    exact ⟨l,ns,rfl,sq,h.1,fun ns' h1 h2 p hp=>b.new a (h.2 ns' h1 h2) (repInts.mpr rfl) hp⟩
   ·exact h.elim
  ·exact h.elim
 ·exact h.elim
theorem gSorted_ok {r:R} {ρ:En} {q:Ko} {ns:List Int} (hv:view ρ r = some (.lst (ns.map D.int))) (h64:ns.length < 64) (h1:∀ ns':List Int,ns'.Perm ns→ns'.Pairwise (· ≤ ·)→q (.f (ns'.map D.int)) ρ):gSorted [r] ρ q:=by
 unfold gSorted
 simp only [hv,intsOf_map]
 exact ⟨h64,h1⟩
end
abbrev SM:=StateT SortSt Sem
def gal:Bool→Keyed→Array Keyed→Nat→Nat→Nat→SM (Option Nat):=sortPriv% PySem.Builtin.gallop
def bey (lf:Bool) (k:Keyed) (xs:Array Keyed) (b i:Nat):SM (Option Bool):=do
 let x ← elem' xs (b + i)
 if lf then lt' x k
 else return (← lt' k x).map (!·)
theorem gal_eq (lf:Bool) (k:Keyed) (xs:Array Keyed) (b n h:Nat):gal lf k xs b n h = (do
  let mut p:=0
  let mut q:=1
  let mut u:=0
  let mut v:=0
  let some rt ← bey lf k xs b h | return none
  if rt then
   let m:=n - h
   for _ in [0:n] do
    if q ≥ m then break
    let some c ← bey lf k xs b (h + q) | return none
    if !c then break
    p:=q
    q:=2 * q + 1
   u:=h + p + 1
   v:=h + min q m
  else
   let m:=h + 1
   for _ in [0:n] do
    if q ≥ m then break
    let some c ← bey lf k xs b (h - q) | return none
    if c then break
    p:=q
    q:=2 * q + 1
   u:=h + 1 - min q m
   v:=h - p
  for _ in [0:n] do
   if u ≥ v then break
   let w:=u + (v - u) / 2
   let some c ← bey lf k xs b w | return none
   if c then u:=w + 1 else v:=w
  return some v):=rfl
section
variable {M:Model} {A:Around} {E:Value→Shared→Prop} {s:Shared} {κ:SortKind} {r:Keyed→Int} {P:Keyed→Prop}
structure Cm (M:Model) (A:Around) (E:Value→Shared→Prop) (s:Shared) (κ:SortKind) (r:Keyed→Int) (P:Keyed→Prop):Prop where
 lt:∀ x y,P x→P y→∀ (st:SortSt) (Q:Option Bool→SortSt→Prop),kindOf st = κ→Q (some (decide (r x < r y))) st→wpS M A E s (lt' x y) Q st
theorem wp_elem {xs:Array Keyed} {i:Nat} {x:Keyed} {st:SortSt} {Q:Keyed→SortSt→Prop} (hx:xs[i]? = some x) (h:Q x st):wpS M A E s (elem' xs i) Q st:=by
 rw [elem'_eq,hx]; exact wpS_pure h
def bT (lf:Bool) (k v:Int):Bool:=if lf then decide (v < k) else !decide (k < v)
theorem wp_bey (C:Cm M A E s κ r P) {lf:Bool} {k x:Keyed} {xs:Array Keyed} {b i:Nat} {st:SortSt} {Q:Option Bool→SortSt→Prop} (hk:kindOf st = κ) (pk:P k) (hx:xs[b + i]? = some x) (px:P x) (h:Q (some (bT lf (r k) (r x))) st):wpS M A E s (bey lf k xs b i) Q st:=by
 unfold bey
 refine wpS_bind (wp_elem hx ?_)
 cases lf with
 | true=>exact C.lt _ _ px pk _ _ hk h
 | false=>exact wpS_bind (C.lt _ _ pk px _ _ hk (wpS_pure h))
theorem wp_galT {lf:Bool} {k:Keyed} {xs:Array Keyed} {b n hint:Nat} {st:SortSt} {Q:Option Nat→SortSt→Prop} (T:Nat→Bool)
  (hB:∀ i,i < n→∀ Q':Option Bool→SortSt→Prop,Q' (some (T i)) st→wpS M A E s (bey lf k xs b i) Q' st)
  (mono:∀ i j,i ≤ j→j < n→T j = true→T i = true) (hh:hint < n)
  (h:∀ m,m ≤ n→(∀ i,i < m→T i = true)→(∀ i,m ≤ i→i < n→T i = false)→Q (some m) st):wpS M A E s (gal lf k xs b n hint) Q st:=by
 have mono':∀ i j,i ≤ j→j < n→T i = false→T j = false:=fun i j a c e=>by
  cases q:T j with
  | false=>rfl
  | true=>rw [mono i j a c q] at e; cases e
 have last:∀ (u v:Nat),u ≤ v→v ≤ n→(∀ i,i < u→T i = true)→(∀ i,v ≤ i→i < n→T i = false) →
   ∀ f:(Option (Option Nat) × Nat × Nat)→SM (Option Nat),(∀ m,f (none,m,m) = pure (some m)) →
   wpS M A E s (forIn [0:n] ((none:Option (Option Nat)),u,v) (fun _ c=>if c.2.1 ≥ c.2.2 then pure (ForInStep.done (none,c.2.1,c.2.2)) else do
    let some z ← bey lf k xs b (c.2.1 + (c.2.2 - c.2.1) / 2) | pure (ForInStep.done (some none,c.2.1,c.2.2))
    if z then pure (ForInStep.yield (none,c.2.1 + (c.2.2 - c.2.1) / 2 + 1,c.2.2)) else pure (ForInStep.yield (none,c.2.1,c.2.1 + (c.2.2 - c.2.1) / 2))) >>= f) Q st:=by
  intro u v huv hv h1 h2 f hf
  refine wpS_bind (wpS_mono (wpS_forRange (I:=fun x c st'=>st' = st∧∃ u v,c = (none,u,v)∧u ≤ v∧v ≤ n∧v - u ≤ n - x∧(∀ i,i < u→T i = true)∧(∀ i,v ≤ i→i < n→T i = false))
   (Q:=fun c st'=>st' = st∧∃ m,c = (none,m,m)∧m ≤ n∧(∀ i,i < m→T i = true)∧(∀ i,m ≤ i→i < n→T i = false)) ?_ ?_ ⟨rfl,u,v,rfl,huv,hv,by omega,h1,h2⟩) ?_)
  ·rintro x c st' _ hx ⟨rfl,u,v,rfl,a1,a2,a3,a4,a5⟩
   dsimp only
   by_cases g:u ≥ v
   ·rw [if_pos g]
    have:u = v:=by omega
    subst this
    exact wpS_pure ⟨rfl,u,rfl,a2,a4,a5⟩
   ·rw [if_neg g]
    refine wpS_bind (hB _ (by omega) _ ?_)
    dsimp only
    cases z:T (u + (v - u) / 2) with
    | true =>
     rw [if_pos rfl]
     exact wpS_pure ⟨rfl,_,_,rfl,by omega,by omega,by omega,fun i hi=>mono i _ (by omega) (by omega) z,a5⟩
    | false =>
     rw [if_neg (by simp)]
     exact wpS_pure ⟨rfl,_,_,rfl,by omega,by omega,by omega,a4,fun i hi hn=>mono' _ i hi hn z⟩
  ·rintro c st' ⟨rfl,u,v,rfl,a1,a2,a3,a4,a5⟩
   have:u = v:=by omega
   subst this
   exact ⟨rfl,u,rfl,a2,a4,a5⟩
  ·rintro c st' ⟨rfl,m,rfl,a2,a4,a5⟩
   rw [hf]
   exact wpS_pure (h m a2 a4 a5)
 rw [gal_eq]
 dsimp only
 refine wpS_bind (hB _ hh _ ?_)
 dsimp only
 cases z:T hint with
 | true =>
  rw [if_pos rfl]
  refine wpS_bind (wpS_mono (wpS_forRange (I:=fun x c st'=>st' = st∧∃ p q,c = (none,p,q)∧p < q∧p + hint < n∧x + 1 ≤ q∧T (hint + p) = true)
   (Q:=fun c st'=>st' = st∧∃ p q,c = (none,p,q)∧p < q∧p + hint < n∧T (hint + p) = true∧(n - hint ≤ q ∨ T (hint + q) = false)) ?_ ?_ ⟨rfl,0,1,rfl,by omega,by omega,by omega,z⟩) ?_)
  ·rintro x c st' _ hx ⟨rfl,p,q,rfl,a1,a2,a3,a4⟩
   dsimp only
   by_cases g:q ≥ n - hint
   ·rw [if_pos g]; exact wpS_pure ⟨rfl,p,q,rfl,a1,a2,a4,.inl g⟩
   ·rw [if_neg g]
    refine wpS_bind (hB _ (by omega) _ ?_)
    dsimp only
    cases y:T (hint + q) with
    | true=>rw [if_neg (by simp)]; exact wpS_pure ⟨rfl,q,2 * q + 1,rfl,by omega,by omega,by omega,y⟩
    | false=>rw [if_pos (by simp)]; exact wpS_pure ⟨rfl,p,q,rfl,a1,a2,a4,.inr y⟩
  ·rintro c st' ⟨rfl,p,q,rfl,a1,a2,a3,a4⟩
   exact ⟨rfl,p,q,rfl,a1,a2,a4,.inl (by omega)⟩
  ·rintro c st' ⟨rfl,p,q,rfl,a1,a2,a4,a5⟩
   dsimp only
   refine last _ _ (by omega) (by omega) (fun i hi=>mono i _ (by omega) (by omega) a4) (fun i hi hn=>?_) _ fun m=>rfl
   rcases a5 with a5 | a5
   ·omega
   ·by_cases g:n - hint ≤ q
    ·omega
    ·exact mono' _ i (by omega) hn a5
 | false =>
  rw [if_neg (by simp)]
  refine wpS_bind (wpS_mono (wpS_forRange (I:=fun x c st'=>st' = st∧∃ p q,c = (none,p,q)∧p < q∧p ≤ hint∧x + 1 ≤ q∧T (hint - p) = false)
   (Q:=fun c st'=>st' = st∧∃ p q,c = (none,p,q)∧p < q∧p ≤ hint∧T (hint - p) = false∧(hint + 1 ≤ q ∨ (q ≤ hint∧T (hint - q) = true))) ?_ ?_ ⟨rfl,0,1,rfl,by omega,by omega,by omega,z⟩) ?_)
  ·rintro x c st' _ hx ⟨rfl,p,q,rfl,a1,a2,a3,a4⟩
   dsimp only
   by_cases g:q ≥ hint + 1
   ·rw [if_pos g]; exact wpS_pure ⟨rfl,p,q,rfl,a1,a2,a4,.inl g⟩
   ·rw [if_neg g]
    refine wpS_bind (hB _ (by omega) _ ?_)
    dsimp only
    cases y:T (hint - q) with
    | true=>rw [if_pos rfl]; exact wpS_pure ⟨rfl,p,q,rfl,a1,a2,a4,.inr ⟨by omega,y⟩⟩
    | false=>rw [if_neg (by simp)]; exact wpS_pure ⟨rfl,q,2 * q + 1,rfl,by omega,by omega,by omega,y⟩
  ·rintro c st' ⟨rfl,p,q,rfl,a1,a2,a3,a4⟩
   exact ⟨rfl,p,q,rfl,a1,a2,a4,.inl (by omega)⟩
  ·rintro c st' ⟨rfl,p,q,rfl,a1,a2,a4,a5⟩
   dsimp only
   refine last _ _ (by omega) (by omega) (fun i hi=>?_) (fun i hi hn=>mono' _ i (by omega) hn a4) _ fun m=>rfl
   rcases a5 with a5 | ⟨a6,a5⟩
   ·omega
   ·exact mono i (hint - q) (by omega) (by omega) a5
end
def mLo:Array Keyed→Array Keyed→SM (Array Keyed):=sortPriv% PySem.Builtin.mergeLo
def setG:Nat→SM Unit:=sortPriv% PySem.Builtin.setMinGallop
abbrev stG (st:SortSt) (g:Nat):SortSt:=SortSt.mk' (kindOf st) (arrOf st) (pendingOf st) g (failedOf st)
def dn (a b o:Array Keyed) (i j:Nat):Array Keyed:=o ++ a.extract i a.size ++ b.extract j b.size
def dl (a b o:Array Keyed) (i j:Nat):Array Keyed:=o ++ b.extract j b.size ++ a.extract i a.size
theorem setG_eq (g:Nat):setG g = modify fun st=>stG st g:=rfl
def Srt (r:Keyed→Int) (l:List Keyed):Prop:=l.Pairwise fun x y=>r x ≤ r y
structure Mg (r:Keyed→Int) (all out A B:List Keyed):Prop where
 pm:(out ++ A ++ B).Perm all
 so:Srt r out
 sa:Srt r A
 sb:Srt r B
 oa:∀ x ∈ out,∀ y ∈ A,r x ≤ r y
 ob:∀ x ∈ out,∀ y ∈ B,r x ≤ r y
section
variable {r:Keyed→Int} {all out A B X:List Keyed}
theorem Mg.takeA (m:Mg r all out (X ++ A) B) (h:∀ x ∈ X,∀ y ∈ B,r x ≤ r y):Mg r all (out ++ X) A B:=by
 have s:=List.pairwise_append.mp m.sa
 refine ⟨by have:=m.pm; simpa [List.append_assoc] using this,List.pairwise_append.mpr ⟨m.so,s.1,fun x hx y hy=>m.oa x hx y (List.mem_append_left _ hy)⟩,s.2.1,m.sb,fun x hx y hy=>?_,fun x hx y hy=>?_⟩
 ·rcases List.mem_append.mp hx with q | q
  ·exact m.oa x q y (List.mem_append_right _ hy)
  ·exact s.2.2 x q y hy
 ·rcases List.mem_append.mp hx with q | q
  ·exact m.ob x q y hy
  ·exact h x q y hy
theorem Mg.takeB (m:Mg r all out A (X ++ B)) (h:∀ x ∈ X,∀ y ∈ A,r x ≤ r y):Mg r all (out ++ X) A B:=by
 have s:=List.pairwise_append.mp m.sb
 refine ⟨?_,List.pairwise_append.mpr ⟨m.so,s.1,fun x hx y hy=>m.ob x hx y (List.mem_append_left _ hy)⟩,m.sa,s.2.1,fun x hx y hy=>?_,fun x hx y hy=>?_⟩
 ·refine List.Perm.trans ?_ m.pm
  rw [List.append_assoc,List.append_assoc,List.append_assoc]
  refine List.Perm.append_left out ?_
  rw [← List.append_assoc,← List.append_assoc]
  exact List.Perm.append_right B List.perm_append_comm
 ·rcases List.mem_append.mp hx with q | q
  ·exact m.oa x q y hy
  ·exact h x q y hy
 ·rcases List.mem_append.mp hx with q | q
  ·exact m.ob x q y (List.mem_append_right _ hy)
  ·exact s.2.2 x q y hy
def Res (r:Keyed→Int) (all:List Keyed) (xs:Array Keyed):Prop:=xs.toList.Perm all∧Srt r xs.toList
end
theorem ext_drop (a:Array Keyed) (i:Nat):(a.extract i a.size).toList = a.toList.drop i:=by
 rw [Array.toList_extract,List.extract_eq_take_drop]
 exact List.take_of_length_le (by simp)
theorem drop_at {a:Array Keyed} {i:Nat} (h:i < a.size):a.toList.drop i = a[i] :: a.toList.drop (i + 1):=by
 rw [List.drop_eq_getElem_cons (by simpa using h)]; simp
theorem drop_mem {a:Array Keyed} {i:Nat} {x:Keyed} (h:x ∈ a.toList.drop i):∃ k,i ≤ k∧∃ (q:k < a.size),a[k] = x:=by
 obtain ⟨n,hn,e⟩:=List.getElem_of_mem h
 rw [List.getElem_drop] at e
 rw [List.length_drop] at hn
 exact ⟨i + n,by omega,by simp at hn; omega,by simpa using e⟩
theorem srt_at {r:Keyed→Int} {a:Array Keyed} (h:Srt r a.toList) {i j:Nat} (ij:i ≤ j) (hj:j < a.size):r (a[i]'(by omega)) ≤ r a[j]:=by
 rcases Nat.lt_or_ge i j with q | q
 ·have:=List.pairwise_iff_getElem.mp h i j (by simp; omega) (by simpa using hj) q
  simpa using this
 ·have:i = j:=by omega
  subst this; exact Int.le_refl _
theorem ext_split {a:Array Keyed} {i k:Nat}:a.toList.drop i = (a.extract i (i + k)).toList ++ a.toList.drop (i + k):=by
 rw [Array.toList_extract,List.extract_eq_take_drop,Nat.add_sub_cancel_left,← List.drop_drop,List.take_append_drop]
theorem ext_mem {a:Array Keyed} {i k:Nat} {x:Keyed} (h:x ∈ (a.extract i (i + k)).toList):∃ m,i ≤ m∧m < i + k∧∃ (q:m < a.size),a[m] = x:=by
 rw [Array.toList_extract,List.extract_eq_take_drop,Nat.add_sub_cancel_left] at h
 obtain ⟨n,hn,e⟩:=List.getElem_of_mem h
 rw [List.length_take,List.length_drop] at hn
 rw [List.getElem_take,List.getElem_drop] at e
 exact ⟨i + n,by omega,by omega,by simp at hn; omega,by simpa using e⟩
section
variable {M:Model} {A:Around} {E:Value→Shared→Prop} {s:Shared} {κ:SortKind} {r:Keyed→Int} {P:Keyed→Prop}
theorem wp_gal (C:Cm M A E s κ r P) {lf:Bool} {k:Keyed} {xs:Array Keyed} {b n hint:Nat} {st:SortSt} {Q:Option Nat→SortSt→Prop} (hk:kindOf st = κ) (pk:P k) (hP:∀ x ∈ xs.toList,P x) (hn:b + n ≤ xs.size)
  (hs:∀ i j (ij:i ≤ j) (hj:j < n),r (xs[b + i]'(by omega)) ≤ r (xs[b + j]'(by omega))) (hh:hint < n)
  (h:∀ m,m ≤ n→(∀ i (q:i < m) (z:b + i < xs.size),bT lf (r k) (r xs[b + i]) = true)→(∀ i,m ≤ i→i < n→∀ z:b + i < xs.size,bT lf (r k) (r xs[b + i]) = false)→Q (some m) st):wpS M A E s (gal lf k xs b n hint) Q st:=by
 have ev:∀ i,i < n→∃ z:b + i < xs.size,(match xs[b + i]? with | some x=>bT lf (r k) (r x) | none=>false) = bT lf (r k) (r xs[b + i]):=fun i hi=>by
  have z:b + i < xs.size:=by omega
  exact ⟨z,by rw [Array.getElem?_eq_getElem z]⟩
 refine wp_galT (fun i=>match xs[b + i]? with | some x=>bT lf (r k) (r x) | none=>false) (fun i hi Q' q=>?_) (fun i j ij hj q=>?_) hh fun m hm h1 h2=>h m hm (fun i hi z=>?_) fun i hi hn z=>?_
 ·obtain ⟨z,e⟩:=ev i hi
  rw [e] at q
  exact wp_bey C hk pk (Array.getElem?_eq_getElem z) (hP _ (by simp)) q
 ·obtain ⟨z,e⟩:=ev i (by omega)
  obtain ⟨z',e'⟩:=ev j hj
  rw [e'] at q; rw [e]
  have:=hs i j ij hj
  unfold bT at q ⊢
  cases lf <;> simp at q ⊢ <;> omega
 ·obtain ⟨z',e⟩:=ev i (by omega)
  rw [← e]; exact h1 i hi
 ·obtain ⟨z',e⟩:=ev i hn
  rw [← e]; exact h2 i hi hn
end
abbrev T7:=Option (Array Keyed) × Array Keyed × Nat × Nat × Nat × Nat × Nat
abbrev T6:=Option (Array Keyed) × Array Keyed × Nat × Nat × Nat × Nat
abbrev T5:=Option (Array Keyed) × Array Keyed × Nat × Nat × Nat
def loC (a b o:Array Keyed) (i j g c d:Nat):SM (ForInStep T7):=do
 let x ← elem' a i
 if i + 1 + 1 == a.size then pure (.done (some (dl a b (o.push x) (i + 1) j),o.push x,i + 1,j,g,c,d))
 else if c < 7 && d < 7 then pure (.done (none,o.push x,i + 1,j,g,c,d))
 else pure (.yield (none,o.push x,i + 1,j,g,c,d))
def loB (a b o:Array Keyed) (i j g c d:Nat):SM (ForInStep T7):=do
 let x ← elem' b j
 if j + 1 == b.size then pure (.done (some (dn a b (o.push x) i (j + 1)),o.push x,i,j + 1,g,c,d))
 else
  let y ← elem' a i
  let some k ← gal true y b (j + 1) (b.size - (j + 1)) 0 | pure (.done (some (dn a b (o.push x) i (j + 1)),o.push x,i,j + 1,g,c,d))
  if k > 0 then
   if j + 1 + k == b.size then pure (.done (some (dn a b (o.push x ++ b.extract (j + 1) (j + 1 + k)) i (j + 1 + k)),o.push x ++ b.extract (j + 1) (j + 1 + k),i,j + 1 + k,g,c,k))
   else loC a b (o.push x ++ b.extract (j + 1) (j + 1 + k)) i (j + 1 + k) g c k
  else loC a b (o.push x) i (j + 1) g c k
def loA (a b o:Array Keyed) (i j g c d:Nat):SM (ForInStep T7):=do
 setG g
 let y ← elem' b j
 let some k ← gal false y a i (a.size - i) 0 | pure (.done (some (dn a b o i j),o,i,j,g,c,d))
 if k > 0 then
  if i + k + 1 == a.size then pure (.done (some (dl a b (o ++ a.extract i (i + k)) (i + k) j),o ++ a.extract i (i + k),i + k,j,g,k,d))
  else if i + k == a.size then pure (.done (some (dn a b (o ++ a.extract i (i + k)) (i + k) j),o ++ a.extract i (i + k),i + k,j,g,k,d))
  else loB a b (o ++ a.extract i (i + k)) (i + k) j g k d
 else loB a b o i j g k d
def lo2 (a b:Array Keyed) (q:T7):SM (ForInStep T7) :=
 if q.2.2.2.2.1 > 1 then loA a b q.2.1 q.2.2.1 q.2.2.2.1 (q.2.2.2.2.1 - 1) q.2.2.2.2.2.1 q.2.2.2.2.2.2 else loA a b q.2.1 q.2.2.1 q.2.2.2.1 q.2.2.2.2.1 q.2.2.2.2.2.1 q.2.2.2.2.2.2
def lo1 (a b:Array Keyed) (g:Nat) (q:T6):SM (ForInStep T6):=do
 let o:=q.2.1
 let i:=q.2.2.1
 let j:=q.2.2.2.1
 let c:=q.2.2.2.2.1
 let d:=q.2.2.2.2.2
 let x ← elem' b j
 let y ← elem' a i
 let some z ← lt' x y | pure (.done (some (dn a b o i j),o,i,j,c,d))
 if z then
  let x ← elem' b j
  if j + 1 == b.size then pure (.done (some (dn a b (o.push x) i (j + 1)),o.push x,i,j + 1,0,d + 1))
  else if d + 1 ≥ g then pure (.done (none,o.push x,i,j + 1,0,d + 1))
  else pure (.yield (none,o.push x,i,j + 1,0,d + 1))
 else
  let y ← elem' a i
  if i + 1 + 1 == a.size then pure (.done (some (dl a b (o.push y) (i + 1) j),o.push y,i + 1,j,c + 1,0))
  else if c + 1 ≥ g then pure (.done (none,o.push y,i + 1,j,c + 1,0))
  else pure (.yield (none,o.push y,i + 1,j,c + 1,0))
def loO (a b:Array Keyed) (q:T5):SM (ForInStep T5):=do
 let u ← forIn [0:a.size + b.size] ((none,q.2.1,q.2.2.1,q.2.2.2.1,0,0):T6) fun _ z=>lo1 a b q.2.2.2.2 z
 match u.1 with
 | some x=>pure (.done (some x,u.2.1,u.2.2.1,u.2.2.2.1,q.2.2.2.2))
 | none =>
  rule "list.sort.gallop"
  let v ← forIn [0:a.size + b.size] ((none,u.2.1,u.2.2.1,u.2.2.2.1,q.2.2.2.2 + 1,u.2.2.2.2.1,u.2.2.2.2.2):T7) fun _ z=>lo2 a b z
  match v.1 with
  | some x=>pure (.done (some x,v.2.1,v.2.2.1,v.2.2.2.1,v.2.2.2.2.1))
  | none=>do
   setG (v.2.2.2.2.1 + 1)
   pure (.yield (none,v.2.1,v.2.2.1,v.2.2.2.1,v.2.2.2.2.1 + 1))
theorem mLo_do (a b:Array Keyed):mLo a b = (do
  rule "list.sort.merge-lo"
  let t:=a.size + b.size
  let mut o:Array Keyed:=#[← elem' b 0]
  let mut i:=0
  let mut j:=1
  if j == b.size then return dn a b o i j
  if i + 1 == a.size then return dl a b o i j
  let mut g:=gallopOf (← get)
  for _ in [0:t] do
   let mut c:=0
   let mut d:=0
   for _ in [0:t] do
    let some z ← lt' (← elem' b j) (← elem' a i) | return dn a b o i j
    if z then
     o:=o.push (← elem' b j); j:=j + 1; d:=d + 1; c:=0
     if j == b.size then return dn a b o i j
     if d ≥ g then break
    else
     o:=o.push (← elem' a i); i:=i + 1; c:=c + 1; d:=0
     if i + 1 == a.size then return dl a b o i j
     if c ≥ g then break
   rule "list.sort.gallop"
   g:=g + 1
   for _ in [0:t] do
    if g > 1 then g:=g - 1
    setG g
    let some k ← gal false (← elem' b j) a i (a.size - i) 0 | return dn a b o i j
    c:=k
    if k > 0 then
     o:=o ++ a.extract i (i + k); i:=i + k
     if i + 1 == a.size then return dl a b o i j
     if i == a.size then return dn a b o i j
    o:=o.push (← elem' b j); j:=j + 1
    if j == b.size then return dn a b o i j
    let some k ← gal true (← elem' a i) b j (b.size - j) 0 | return dn a b o i j
    d:=k
    if k > 0 then
     o:=o ++ b.extract j (j + k); j:=j + k
     if j == b.size then return dn a b o i j
    o:=o.push (← elem' a i); i:=i + 1
    if i + 1 == a.size then return dl a b o i j
    if c < 7 && d < 7 then break
   g:=g + 1
   setG g
  (unsupported "internal:list.sort.merge-bound" : SM (Array Keyed))):=rfl
theorem mLo_eq (a b:Array Keyed):mLo a b = (do
  rule "list.sort.merge-lo"
  let x ← elem' b 0
  if 1 == b.size then return dn a b #[x] 0 1
  if 0 + 1 == a.size then return dl a b #[x] 0 1
  let u ← get
  let v ← forIn [0:a.size + b.size] ((none,#[x],0,1,gallopOf u):T5) fun _ z=>loO a b z
  match v.1 with
  | some x=>pure x
  | none=>(unsupported "internal:list.sort.merge-bound" : SM (Array Keyed))):=by
 refine (mLo_do a b).trans ?_
 dsimp only
 refine congrArg (bind _) (funext fun _=>?_)
 refine congrArg (bind _) (funext fun x=>?_)
 refine ite_congr rfl (fun _=>rfl) fun _=>?_
 refine ite_congr rfl (fun _=>rfl) fun _=>?_
 refine congrArg (bind _) (funext fun u=>?_)
 refine congr (congrArg bind (congrArg (forIn _ _) (funext fun _=>funext fun q=>?_))) (funext fun v=>?_)
 ·unfold loO
  refine congr (congrArg bind (congrArg (forIn _ _) (funext fun _=>funext fun q2=>?_))) (funext fun v=>?_)
  ·unfold lo1
   rfl
  ·rcases v with ⟨v,v2⟩
   cases v with
   | some v=>rfl
   | none =>
    dsimp only
    refine congrArg (bind _) (funext fun _=>?_)
    refine congr (congrArg bind (congrArg (forIn _ _) (funext fun _=>funext fun q3=>?_))) (funext fun v=>?_)
    ·unfold lo2 loA loB loC
     rfl
    ·rcases v with ⟨v,v2⟩
     cases v with
     | some v=>rfl
     | none=>rfl
 ·rcases v with ⟨v,v2⟩
  cases v with
  | some v=>rfl
  | none=>rfl
section
variable {M:Model} {A:Around} {E:Value→Shared→Prop} {s:Shared} {κ:SortKind} {r:Keyed→Int} {P:Keyed→Prop} {a b:Array Keyed} {all:List Keyed}
structure Two (r:Keyed→Int) (P:Keyed→Prop) (a b:Array Keyed):Prop where
 pa:∀ x ∈ a.toList,P x
 pb:∀ x ∈ b.toList,P x
 sa:Srt r a.toList
 sb:Srt r b.toList
 la:∀ (h:a.size - 1 < a.size),∀ x ∈ b.toList,r x < r a[a.size - 1]
 fb:∀ (h:0 < b.size),∀ x ∈ a.toList,r b[0] < r x
abbrev JL (r:Keyed→Int) (all:List Keyed) (a b o:Array Keyed) (i j:Nat):Prop:=Mg r all o.toList (a.toList.drop i) (b.toList.drop j)
theorem le_drop (sa:Srt r a.toList) {i:Nat} (h:i < a.size) {z:Int} (hz:z ≤ r a[i]):∀ y ∈ a.toList.drop i,z ≤ r y:=fun y hy=>by
 obtain ⟨k,h1,h2,rfl⟩:=drop_mem hy
 exact Int.le_trans hz (srt_at sa h1 h2)
theorem JL.pushB (t:Two r P a b) {o:Array Keyed} {i j:Nat} (m:JL r all a b o i j) (hi:i < a.size) (hj:j < b.size) (h:r b[j] ≤ r a[i]):JL r all a b (o.push b[j]) i (j + 1):=by
 unfold JL at m ⊢
 rw [drop_at hj] at m
 have:=m.takeB (X:=[b[j]]) (B:=b.toList.drop (j + 1)) fun x hx y hy=>by
  rw [List.mem_singleton] at hx; subst hx
  exact le_drop t.sa hi h y hy
 simpa using this
theorem JL.pushA (t:Two r P a b) {o:Array Keyed} {i j:Nat} (m:JL r all a b o i j) (hi:i < a.size) (hj:j < b.size) (h:r a[i] ≤ r b[j]):JL r all a b (o.push a[i]) (i + 1) j:=by
 unfold JL at m ⊢
 rw [drop_at hi] at m
 have:=m.takeA (X:=[a[i]]) (A:=a.toList.drop (i + 1)) fun x hx y hy=>by
  rw [List.mem_singleton] at hx; subst hx
  exact le_drop t.sb hj h y hy
 simpa using this
theorem JL.appA (t:Two r P a b) {o:Array Keyed} {i j k:Nat} (m:JL r all a b o i j) (hj:j < b.size) (h:∀ n,i ≤ n→n < i + k→∀ z:n < a.size,r a[n] ≤ r b[j]):JL r all a b (o ++ a.extract i (i + k)) (i + k) j:=by
 unfold JL at m ⊢
 rw [ext_split (k:=k)] at m
 have:=m.takeA fun x hx y hy=>by
  obtain ⟨n,h1,h2,h3,rfl⟩:=ext_mem hx
  exact le_drop t.sb hj (h n h1 h2 h3) y hy
 rw [Array.toList_append]; exact this
theorem JL.appB (t:Two r P a b) {o:Array Keyed} {i j k:Nat} (m:JL r all a b o i j) (hi:i < a.size) (h:∀ n,j ≤ n→n < j + k→∀ z:n < b.size,r b[n] ≤ r a[i]):JL r all a b (o ++ b.extract j (j + k)) i (j + k):=by
 unfold JL at m ⊢
 rw [ext_split (a:=b) (k:=k)] at m
 have:=m.takeB fun x hx y hy=>by
  obtain ⟨n,h1,h2,h3,rfl⟩:=ext_mem hx
  exact le_drop t.sa hi (h n h1 h2 h3) y hy
 rw [Array.toList_append]; exact this
theorem JL.dn {o:Array Keyed} {i j:Nat} (m:JL r all a b o i j) (hj:j = b.size):Res r all (dn a b o i j):=by
 have e:(L2.dn a b o i j).toList = o.toList ++ a.toList.drop i ++ b.toList.drop j:=by unfold L2.dn; rw [Array.toList_append,Array.toList_append,ext_drop,ext_drop]
 unfold Res
 rw [e]
 refine ⟨m.pm,?_⟩
 have hn:b.toList.drop j = []:=by subst hj; simp
 rw [hn,List.append_nil]
 exact List.pairwise_append.mpr ⟨m.so,m.sa,m.oa⟩
theorem JL.dl (t:Two r P a b) {o:Array Keyed} {i j:Nat} (m:JL r all a b o i j) (hi:i + 1 = a.size):Res r all (dl a b o i j):=by
 have e:(L2.dl a b o i j).toList = o.toList ++ b.toList.drop j ++ a.toList.drop i:=by unfold L2.dl; rw [Array.toList_append,Array.toList_append,ext_drop,ext_drop]
 unfold Res
 rw [e]
 refine ⟨List.Perm.trans ?_ m.pm,?_⟩
 ·rw [List.append_assoc,List.append_assoc]
  exact List.Perm.append_left _ List.perm_append_comm
 ·refine List.pairwise_append.mpr ⟨List.pairwise_append.mpr ⟨m.so,m.sb,m.ob⟩,m.sa,fun x hx y hy=>?_⟩
  rcases List.mem_append.mp hx with q | q
  ·exact m.oa x q y hy
  ·obtain ⟨n,h1,h2,rfl⟩:=drop_mem hy
   have:n = a.size - 1:=by omega
   subst this
   exact Int.le_of_lt (t.la h2 x (List.mem_of_mem_drop q))
def IV (r:Keyed→Int) (all:List Keyed) (a b:Array Keyed) (n:Nat) (z:Option (Array Keyed)) (o:Array Keyed) (i j:Nat):Prop :=
 (∃ x,z = some x∧Res r all x) ∨ (z = none∧JL r all a b o i j∧i + 1 < a.size∧j < b.size∧n ≤ i + j)
theorem kind_stG {st:SortSt} {g:Nat} (hk:kindOf st = κ):kindOf (stG st g) = κ:=hk
theorem wp_lo1 (C:Cm M A E s κ r P) (t:Two r P a b) {st:SortSt} (hk:kindOf st = κ) {o:Array Keyed} {i j c d g n:Nat} (m:JL r all a b o i j) (hi:i + 1 < a.size) (hj:j < b.size) (hn:n ≤ i + j) {Q:ForInStep T6→SortSt→Prop}
  (hd:∀ z o i j c d,IV r all a b (n + 1) z o i j→Q (.done (z,o,i,j,c,d)) st) (hy:∀ o i j c d,IV r all a b (n + 1) none o i j→Q (.yield (none,o,i,j,c,d)) st):wpS M A E s (lo1 a b g (none,o,i,j,c,d)) Q st:=by
 unfold lo1
 dsimp only
 have hi':i < a.size:=by omega
 refine wpS_bind (wp_elem (Array.getElem?_eq_getElem hj) (wpS_bind (wp_elem (Array.getElem?_eq_getElem hi') (wpS_bind (C.lt _ _ (t.pb _ (by simp)) (t.pa _ (by simp)) _ _ hk ?_)))))
 dsimp only
 by_cases z:r b[j] < r a[i]
 ·rw [decide_eq_true z,if_pos rfl]
  refine wpS_bind (wp_elem (Array.getElem?_eq_getElem hj) ?_)
  have m':=m.pushB t hi' hj (Int.le_of_lt z)
  by_cases e:j + 1 = b.size
  ·rw [if_pos (by simpa using e)]
   exact wpS_pure (hd _ _ _ _ _ _ (.inl ⟨_,rfl,m'.dn e⟩))
  ·rw [if_neg (by simpa using e)]
   have iv:IV r all a b (n + 1) none (o.push b[j]) i (j + 1):=.inr ⟨rfl,m',hi,by omega,by omega⟩
   split
   ·exact wpS_pure (hd _ _ _ _ _ _ iv)
   ·exact wpS_pure (hy _ _ _ _ _ iv)
 ·rw [decide_eq_false z,if_neg (by simp)]
  refine wpS_bind (wp_elem (Array.getElem?_eq_getElem hi') ?_)
  have m':=m.pushA t hi' hj (by omega)
  by_cases e:i + 1 + 1 = a.size
  ·rw [if_pos (by simpa using e)]
   exact wpS_pure (hd _ _ _ _ _ _ (.inl ⟨_,rfl,m'.dl t e⟩))
  ·rw [if_neg (by simpa using e)]
   have iv:IV r all a b (n + 1) none (o.push a[i]) (i + 1) j:=.inr ⟨rfl,m',by omega,hj,by omega⟩
   split
   ·exact wpS_pure (hd _ _ _ _ _ _ iv)
   ·exact wpS_pure (hy _ _ _ _ _ iv)
theorem wp_loC (C:Cm M A E s κ r P) (t:Two r P a b) {st:SortSt} {o:Array Keyed} {i j c d g n:Nat} (m:JL r all a b o i j) (hi:i + 1 < a.size) (hj:j < b.size) (hn:n ≤ i + j) (hl:r (a[i]'(by omega)) ≤ r b[j]) {Q:ForInStep T7→SortSt→Prop}
  (hd:∀ z o i j c d,IV r all a b n z o i j→Q (.done (z,o,i,j,g,c,d)) st) (hy:∀ o i j c d,IV r all a b n none o i j→Q (.yield (none,o,i,j,g,c,d)) st):wpS M A E s (loC a b o i j g c d) Q st:=by
 unfold loC
 have hi':i < a.size:=by omega
 refine wpS_bind (wp_elem (Array.getElem?_eq_getElem hi') ?_)
 have m':=m.pushA t hi' hj hl
 by_cases e:i + 1 + 1 = a.size
 ·rw [if_pos (by simpa using e)]
  exact wpS_pure (hd _ _ _ _ _ _ (.inl ⟨_,rfl,m'.dl t e⟩))
 ·rw [if_neg (by simpa using e)]
  have iv:IV r all a b n none (o.push a[i]) (i + 1) j:=.inr ⟨rfl,m',by omega,hj,by omega⟩
  split
  ·exact wpS_pure (hd _ _ _ _ _ _ iv)
  ·exact wpS_pure (hy _ _ _ _ _ iv)
theorem wp_loB (C:Cm M A E s κ r P) (t:Two r P a b) {st:SortSt} (hk:kindOf st = κ) {o:Array Keyed} {i j c d g n:Nat} (m:JL r all a b o i j) (hi:i + 1 < a.size) (hj:j < b.size) (hn:n ≤ i + j) (hl:r b[j] ≤ r (a[i]'(by omega))) {Q:ForInStep T7→SortSt→Prop}
  (hd:∀ z o i j c d,IV r all a b n z o i j→Q (.done (z,o,i,j,g,c,d)) st) (hy:∀ o i j c d,IV r all a b n none o i j→Q (.yield (none,o,i,j,g,c,d)) st):wpS M A E s (loB a b o i j g c d) Q st:=by
 unfold loB
 have hi':i < a.size:=by omega
 refine wpS_bind (wp_elem (Array.getElem?_eq_getElem hj) ?_)
 have m':=m.pushB t hi' hj hl
 by_cases e:j + 1 = b.size
 ·rw [if_pos (by simpa using e)]
  exact wpS_pure (hd _ _ _ _ _ _ (.inl ⟨_,rfl,m'.dn e⟩))
 ·rw [if_neg (by simpa using e)]
  refine wpS_bind (wp_elem (Array.getElem?_eq_getElem hi') (wpS_bind (wp_gal C hk (t.pa _ (by simp)) t.pb (by omega) (fun x y xy hy=>srt_at t.sb (by omega) (by omega)) (by omega) fun k hk1 hk2 hk3=>?_)))
  dsimp only
  have lo:∀ n,j + 1 ≤ n→n < j + 1 + k→∀ z:n < b.size,r b[n] ≤ r a[i]:=fun n h1 h2 z=>by
   obtain ⟨x,rfl⟩:∃ x,n = j + 1 + x:=⟨n - (j + 1),by omega⟩
   have:=hk2 x (by omega) z
   unfold bT at this; simp at this; omega
  have hi2:∀ z:j + 1 + k < b.size,r a[i] ≤ r b[j + 1 + k]:=fun z=>by
   have:=hk3 k (Nat.le_refl _) (by omega) z
   unfold bT at this; simp at this; omega
  by_cases k0:k > 0
  ·rw [if_pos k0]
   have m2:=m'.appB t hi' lo
   by_cases e2:j + 1 + k = b.size
   ·rw [if_pos (by simpa using e2)]
    exact wpS_pure (hd _ _ _ _ _ _ (.inl ⟨_,rfl,m2.dn e2⟩))
   ·rw [if_neg (by simpa using e2)]
    exact wp_loC C t m2 hi (by omega) (by omega) (hi2 _) hd hy
  ·rw [if_neg k0]
   have:k = 0:=by omega
   subst this
   exact wp_loC C t m' hi (by omega) (by omega) (hi2 (by omega)) hd hy
theorem wp_loA (C:Cm M A E s κ r P) (t:Two r P a b) {st:SortSt} (hk:kindOf st = κ) {o:Array Keyed} {i j c d g n:Nat} (m:JL r all a b o i j) (hi:i + 1 < a.size) (hj:j < b.size) (hn:n ≤ i + j) {Q:ForInStep T7→SortSt→Prop}
  (hd:∀ z o i j c d,IV r all a b n z o i j→Q (.done (z,o,i,j,g,c,d)) (stG st g)) (hy:∀ o i j c d,IV r all a b n none o i j→Q (.yield (none,o,i,j,g,c,d)) (stG st g)):wpS M A E s (loA a b o i j g c d) Q st:=by
 unfold loA
 have hi':i < a.size:=by omega
 rw [setG_eq]
 refine wpS_bind (wpS_modify (wpS_bind (wp_elem (Array.getElem?_eq_getElem hj) (wpS_bind (wp_gal C (kind_stG hk) (t.pb _ (by simp)) t.pa (by omega) (fun x y xy hy=>srt_at t.sa (by omega) (by omega)) (by omega) fun k hk1 hk2 hk3=>?_)))))
 dsimp only
 have lo:∀ n,i ≤ n→n < i + k→∀ z:n < a.size,r a[n] ≤ r b[j]:=fun n h1 h2 z=>by
  obtain ⟨x,rfl⟩:∃ x,n = i + x:=⟨n - i,by omega⟩
  have:=hk2 x (by omega) z
  unfold bT at this; simp at this; omega
 have hi2:∀ z:i + k < a.size,r b[j] ≤ r a[i + k]:=fun z=>by
  have:=hk3 k (Nat.le_refl _) (by omega) z
  unfold bT at this; simp at this; omega
 have kl:i + k < a.size:=by
  rcases Nat.lt_or_ge (i + k) a.size with q | q
  ·exact q
  ·have h1:=lo (a.size - 1) (by omega) (by omega) (by omega)
   have h2:=t.la (by omega) b[j] (by simp)
   omega
 by_cases k0:k > 0
 ·rw [if_pos k0]
  have m2:=m.appA t hj lo
  by_cases e2:i + k + 1 = a.size
  ·rw [if_pos (by simpa using e2)]
   exact wpS_pure (hd _ _ _ _ _ _ (.inl ⟨_,rfl,m2.dl t e2⟩))
  ·rw [if_neg (by simpa using e2),if_neg (by simp; omega)]
   exact wp_loB C t (kind_stG hk) m2 (by omega) hj (by omega) (hi2 kl) hd hy
 ·rw [if_neg k0]
  have:k = 0:=by omega
  subst this
  exact wp_loB C t (kind_stG hk) m hi hj hn (hi2 kl) hd hy
end
section
variable {M:Model} {A:Around} {E:Value→Shared→Prop} {s:Shared} {κ:SortKind} {r:Keyed→Int} {P:Keyed→Prop} {a b:Array Keyed} {all:List Keyed}
theorem IV.weak {n m:Nat} {z:Option (Array Keyed)} {o:Array Keyed} {i j:Nat} (h:IV r all a b m z o i j) (nm:n ≤ m):IV r all a b n z o i j:=h.imp id fun ⟨a1,a2,a3,a4,a5⟩=>⟨a1,a2,a3,a4,Nat.le_trans nm a5⟩
theorem wp_loO (C:Cm M A E s κ r P) (t:Two r P a b) {st:SortSt} (hk:kindOf st = κ) {o:Array Keyed} {i j g n:Nat} (m:JL r all a b o i j) (hi:i + 1 < a.size) (hj:j < b.size) (hn:n ≤ i + j) {Q:ForInStep T5→SortSt→Prop}
  (hd:∀ z o i j g g',(∃ x,z = some x∧Res r all x)→Q (.done (z,o,i,j,g)) (stG st g')) (hy:∀ o i j g g',IV r all a b (n + 1) none o i j→Q (.yield (none,o,i,j,g)) (stG st g')):wpS M A E s (loO a b (none,o,i,j,g)) Q st:=by
 unfold loO
 dsimp only
 refine wpS_bind (wpS_mono (wpS_forRange (I:=fun x c st'=>st' = st∧∃ o i j c1 d,c = (none,o,i,j,c1,d)∧IV r all a b (n + x) none o i j)
  (Q:=fun c st'=>st' = st∧IV r all a b (n + 1) c.1 c.2.1 c.2.2.1 c.2.2.2.1) ?_ ?_ ⟨rfl,o,i,j,0,0,rfl,.inr ⟨rfl,m,hi,hj,by omega⟩⟩) ?_)
 ·rintro x c st' _ hx ⟨rfl,o,i,j,c1,d,rfl,iv⟩
  rcases iv with ⟨_,e,_⟩ | ⟨_,m,hi,hj,hn⟩
  ·cases e
  ·refine wp_lo1 C t hk m hi hj hn (fun z o i j c d iv=>⟨rfl,?_⟩) fun o i j c d iv=>⟨rfl,o,i,j,c,d,rfl,?_⟩
   ·exact iv.weak (by omega)
   ·exact iv.weak (by omega)
 ·rintro c st' ⟨rfl,o,i,j,c1,d,rfl,iv⟩
  exact ⟨rfl,iv.weak (by omega)⟩
 ·rintro ⟨z,o,i,j,c1,d⟩ st' ⟨rfl,iv⟩
  dsimp only at iv ⊢
  rcases iv with ⟨x,rfl,hx⟩ | ⟨rfl,m,hi,hj,hn⟩
  ·exact wpS_pure (hd _ _ _ _ _ (gallopOf st') ⟨x,rfl,hx⟩)
  ·dsimp only
   refine wpS_bind (wpS_lift (wpAny_rule ⟨rfl,?_⟩))
   refine wpS_bind (wpS_mono (wpS_forRange (I:=fun x c st2=>(∃ g',st2 = stG st' g')∧∃ o i j g c1 d,c = (none,o,i,j,g,c1,d)∧IV r all a b (n + 1) none o i j)
    (Q:=fun c st2=>(∃ g',st2 = stG st' g')∧IV r all a b (n + 1) c.1 c.2.1 c.2.2.1 c.2.2.2.1) ?_ ?_ ⟨⟨gallopOf st',rfl⟩,o,i,j,_,_,_,rfl,.inr ⟨rfl,m,hi,hj,hn⟩⟩) ?_)
   ·rintro x c st2 _ hx ⟨⟨g',rfl⟩,o,i,j,g,c1,d,rfl,iv⟩
    rcases iv with ⟨_,e,_⟩ | ⟨_,m,hi,hj,hn⟩
    ·cases e
    ·unfold lo2
     dsimp only
     split
     ·exact wp_loA C t (kind_stG hk) m hi hj hn (fun z o i j c d iv=>⟨⟨_,rfl⟩,iv⟩) fun o i j c d iv=>⟨⟨_,rfl⟩,_,_,_,_,_,_,rfl,iv⟩
     ·exact wp_loA C t (kind_stG hk) m hi hj hn (fun z o i j c d iv=>⟨⟨_,rfl⟩,iv⟩) fun o i j c d iv=>⟨⟨_,rfl⟩,_,_,_,_,_,_,rfl,iv⟩
   ·rintro c st2 ⟨g',o,i,j,g,c1,d,rfl,iv⟩
    exact ⟨g',iv⟩
   ·rintro ⟨z,o,i,j,g,c1,d⟩ st2 ⟨⟨g',rfl⟩,iv⟩
    dsimp only at iv ⊢
    rcases iv with ⟨x,rfl,hx⟩ | ⟨rfl,m,hi,hj,hn⟩
    ·exact wpS_pure (hd _ _ _ _ _ _ ⟨x,rfl,hx⟩)
    ·dsimp only
     rw [setG_eq]
     exact wpS_bind (wpS_modify (wpS_pure (hy _ _ _ _ _ (.inr ⟨rfl,m,hi,hj,hn⟩))))
theorem Mg.start (sa:Srt r a.toList) (sb:Srt r b.toList):Mg r (a.toList ++ b.toList) [] a.toList b.toList :=
 ⟨List.Perm.refl _,List.Pairwise.nil,sa,sb,(fun _ h=>nomatch h),(fun _ h=>nomatch h)⟩
theorem wp_mLo (C:Cm M A E s κ r P) (t:Two r P a b) {st:SortSt} (hk:kindOf st = κ) (ha:0 < a.size) (hb:0 < b.size) {Q:Array Keyed→SortSt→Prop} (h:∀ x g,Res r (a.toList ++ b.toList) x→Q x (stG st g)):wpS M A E s (mLo a b) Q st:=by
 rw [mLo_eq]
 refine wpS_bind (wpS_lift (wpAny_rule ⟨rfl,?_⟩))
 refine wpS_bind (wp_elem (Array.getElem?_eq_getElem hb) ?_)
 have m0:JL r (a.toList ++ b.toList) a b #[] 0 0:=by
  show Mg _ _ _ _ _
  rw [List.drop_zero,List.drop_zero]
  exact Mg.start t.sa t.sb
 have m:JL r (a.toList ++ b.toList) a b #[b[0]] 0 1:=m0.pushB t ha hb (Int.le_of_lt (t.fb hb _ (by simp)))
 by_cases e1:1 = b.size
 ·rw [if_pos (by simpa using e1)]
  exact wpS_pure (h _ (gallopOf st) (m.dn e1))
 rw [if_neg (by simpa using e1)]
 by_cases e2:0 + 1 = a.size
 ·rw [if_pos (by simpa using e2)]
  exact wpS_pure (h _ (gallopOf st) (m.dl t e2))
 rw [if_neg (by simpa using e2)]
 refine wpS_bind (wpS_get (wpS_bind (wpS_mono (wpS_forRange (I:=fun x c st2=>(∃ g',st2 = stG st g')∧∃ o i j g,c = (none,o,i,j,g)∧IV r (a.toList ++ b.toList) a b x none o i j)
  (Q:=fun c st2=>(∃ g',st2 = stG st g')∧∃ x,c.1 = some x∧Res r (a.toList ++ b.toList) x) ?_ ?_ ⟨⟨gallopOf st,rfl⟩,_,_,_,_,rfl,.inr ⟨rfl,m,by omega,by omega,by omega⟩⟩) ?_)))
 ·rintro x c st2 _ hx ⟨⟨g',rfl⟩,o,i,j,g,rfl,iv⟩
  rcases iv with ⟨_,e,_⟩ | ⟨_,m,hi,hj,hn⟩
  ·cases e
  ·exact wp_loO C t (kind_stG hk) m hi hj hn (fun z o i j g g' e=>⟨⟨_,rfl⟩,e⟩) fun o i j g g' iv=>⟨⟨_,rfl⟩,_,_,_,_,rfl,iv⟩
 ·rintro c st2 ⟨g',o,i,j,g,rfl,iv⟩
  rcases iv with ⟨_,e,_⟩ | ⟨_,m,hi,hj,hn⟩
  ·cases e
  ·omega
 ·rintro ⟨z,q⟩ st2 ⟨⟨g',rfl⟩,x,e,hx⟩
  dsimp only at e ⊢
  subst e
  exact wpS_pure (h _ _ hx)
end
def mHi:Array Keyed→Array Keyed→SM (Array Keyed):=sortPriv% PySem.Builtin.mergeHi
def hn (a b o:Array Keyed) (p q:Nat):Array Keyed:=a.extract 0 p ++ b.extract 0 q ++ o.reverse
def hf (a b o:Array Keyed) (p q:Nat):Array Keyed:=b.extract 0 q ++ a.extract 0 p ++ o.reverse
theorem mHi_do (a b:Array Keyed):mHi a b = (do
  rule "list.sort.merge-hi"
  let t:=a.size + b.size
  let mut p:=a.size - 1
  let mut q:=b.size
  let mut o:Array Keyed:=#[← elem' a p]
  if p == 0 then return hn a b o p q
  if q == 1 then return hf a b o p q
  let mut g:=gallopOf (← get)
  for _ in [0:t] do
   let mut c:=0
   let mut d:=0
   for _ in [0:t] do
    let some z ← lt' (← elem' b (q - 1)) (← elem' a (p - 1)) | return hn a b o p q
    if z then
     p:=p - 1; o:=o.push (← elem' a p); c:=c + 1; d:=0
     if p == 0 then return hn a b o p q
     if c ≥ g then break
    else
     q:=q - 1; o:=o.push (← elem' b q); d:=d + 1; c:=0
     if q == 1 then return hf a b o p q
     if d ≥ g then break
   rule "list.sort.gallop"
   g:=g + 1
   for _ in [0:t] do
    if g > 1 then g:=g - 1
    setG g
    let some k ← gal false (← elem' b (q - 1)) a 0 p (p - 1) | return hn a b o p q
    let l:=p - k
    c:=l
    if l > 0 then
     o:=o ++ (a.extract k p).reverse; p:=k
     if p == 0 then return hn a b o p q
    q:=q - 1; o:=o.push (← elem' b q)
    if q == 1 then return hf a b o p q
    let some k ← gal true (← elem' a (p - 1)) b 0 q (q - 1) | return hn a b o p q
    let l:=q - k
    d:=l
    if l > 0 then
     o:=o ++ (b.extract k q).reverse; q:=k
     if q == 1 then return hf a b o p q
     if q == 0 then return hn a b o p q
    p:=p - 1; o:=o.push (← elem' a p)
    if p == 0 then return hn a b o p q
    if c < 7 && d < 7 then break
   g:=g + 1
   setG g
  (unsupported "internal:list.sort.merge-bound" : SM (Array Keyed))):=rfl
abbrev U7:=Option (Array Keyed) × Nat × Nat × Array Keyed × Nat × Nat × Nat
abbrev U6:=Option (Array Keyed) × Nat × Nat × Array Keyed × Nat × Nat
abbrev U5:=Option (Array Keyed) × Nat × Nat × Array Keyed × Nat
def hiC (a b o:Array Keyed) (p q g c d:Nat):SM (ForInStep U7):=do
 let x ← elem' a (p - 1)
 if p - 1 == 0 then pure (.done (some (hn a b (o.push x) (p - 1) q),p - 1,q,o.push x,g,c,d))
 else if c < 7 && d < 7 then pure (.done (none,p - 1,q,o.push x,g,c,d))
 else pure (.yield (none,p - 1,q,o.push x,g,c,d))
def hiB (a b o:Array Keyed) (p q g c d:Nat):SM (ForInStep U7):=do
 let x ← elem' b (q - 1)
 if q - 1 == 1 then pure (.done (some (hf a b (o.push x) p (q - 1)),p,q - 1,o.push x,g,c,d))
 else
  let y ← elem' a (p - 1)
  let some k ← gal true y b 0 (q - 1) (q - 1 - 1) | pure (.done (some (hn a b (o.push x) p (q - 1)),p,q - 1,o.push x,g,c,d))
  if q - 1 - k > 0 then
   if k == 1 then pure (.done (some (hf a b (o.push x ++ (b.extract k (q - 1)).reverse) p k),p,k,o.push x ++ (b.extract k (q - 1)).reverse,g,c,q - 1 - k))
   else if k == 0 then pure (.done (some (hn a b (o.push x ++ (b.extract k (q - 1)).reverse) p k),p,k,o.push x ++ (b.extract k (q - 1)).reverse,g,c,q - 1 - k))
   else hiC a b (o.push x ++ (b.extract k (q - 1)).reverse) p k g c (q - 1 - k)
  else hiC a b (o.push x) p (q - 1) g c (q - 1 - k)
def hiA (a b o:Array Keyed) (p q g c d:Nat):SM (ForInStep U7):=do
 setG g
 let y ← elem' b (q - 1)
 let some k ← gal false y a 0 p (p - 1) | pure (.done (some (hn a b o p q),p,q,o,g,c,d))
 if p - k > 0 then
  if k == 0 then pure (.done (some (hn a b (o ++ (a.extract k p).reverse) k q),k,q,o ++ (a.extract k p).reverse,g,p - k,d))
  else hiB a b (o ++ (a.extract k p).reverse) k q g (p - k) d
 else hiB a b o p q g (p - k) d
def hi2 (a b:Array Keyed) (z:U7):SM (ForInStep U7) :=
 if z.2.2.2.2.1 > 1 then hiA a b z.2.2.2.1 z.2.1 z.2.2.1 (z.2.2.2.2.1 - 1) z.2.2.2.2.2.1 z.2.2.2.2.2.2 else hiA a b z.2.2.2.1 z.2.1 z.2.2.1 z.2.2.2.2.1 z.2.2.2.2.2.1 z.2.2.2.2.2.2
def hi1 (a b:Array Keyed) (g:Nat) (z:U6):SM (ForInStep U6):=do
 let p:=z.2.1
 let q:=z.2.2.1
 let o:=z.2.2.2.1
 let c:=z.2.2.2.2.1
 let d:=z.2.2.2.2.2
 let x ← elem' b (q - 1)
 let y ← elem' a (p - 1)
 let some z ← lt' x y | pure (.done (some (hn a b o p q),p,q,o,c,d))
 if z then
  let x ← elem' a (p - 1)
  if p - 1 == 0 then pure (.done (some (hn a b (o.push x) (p - 1) q),p - 1,q,o.push x,c + 1,0))
  else if c + 1 ≥ g then pure (.done (none,p - 1,q,o.push x,c + 1,0))
  else pure (.yield (none,p - 1,q,o.push x,c + 1,0))
 else
  let y ← elem' b (q - 1)
  if q - 1 == 1 then pure (.done (some (hf a b (o.push y) p (q - 1)),p,q - 1,o.push y,0,d + 1))
  else if d + 1 ≥ g then pure (.done (none,p,q - 1,o.push y,0,d + 1))
  else pure (.yield (none,p,q - 1,o.push y,0,d + 1))
def hiO (a b:Array Keyed) (q:U5):SM (ForInStep U5):=do
 let u ← forIn [0:a.size + b.size] ((none,q.2.1,q.2.2.1,q.2.2.2.1,0,0):U6) fun _ z=>hi1 a b q.2.2.2.2 z
 match u.1 with
 | some x=>pure (.done (some x,u.2.1,u.2.2.1,u.2.2.2.1,q.2.2.2.2))
 | none =>
  rule "list.sort.gallop"
  let v ← forIn [0:a.size + b.size] ((none,u.2.1,u.2.2.1,u.2.2.2.1,q.2.2.2.2 + 1,u.2.2.2.2.1,u.2.2.2.2.2):U7) fun _ z=>hi2 a b z
  match v.1 with
  | some x=>pure (.done (some x,v.2.1,v.2.2.1,v.2.2.2.1,v.2.2.2.2.1))
  | none=>do
   setG (v.2.2.2.2.1 + 1)
   pure (.yield (none,v.2.1,v.2.2.1,v.2.2.2.1,v.2.2.2.2.1 + 1))
theorem mHi_eq (a b:Array Keyed):mHi a b = (do
  rule "list.sort.merge-hi"
  let x ← elem' a (a.size - 1)
  if a.size - 1 == 0 then return hn a b #[x] (a.size - 1) b.size
  if b.size == 1 then return hf a b #[x] (a.size - 1) b.size
  let u ← get
  let v ← forIn [0:a.size + b.size] ((none,a.size - 1,b.size,#[x],gallopOf u):U5) fun _ z=>hiO a b z
  match v.1 with
  | some x=>pure x
  | none=>(unsupported "internal:list.sort.merge-bound" : SM (Array Keyed))):=by
 refine (mHi_do a b).trans ?_
 dsimp only
 refine congrArg (bind _) (funext fun _=>?_)
 refine congrArg (bind _) (funext fun x=>?_)
 refine ite_congr rfl (fun _=>rfl) fun _=>?_
 refine ite_congr rfl (fun _=>rfl) fun _=>?_
 refine congrArg (bind _) (funext fun u=>?_)
 refine congr (congrArg bind (congrArg (forIn _ _) (funext fun _=>funext fun q=>?_))) (funext fun v=>?_)
 ·unfold hiO
  refine congr (congrArg bind (congrArg (forIn _ _) (funext fun _=>funext fun q2=>?_))) (funext fun v=>?_)
  ·unfold hi1
   rfl
  ·rcases v with ⟨v,v2⟩
   cases v with
   | some v=>rfl
   | none =>
    dsimp only
    refine congrArg (bind _) (funext fun _=>?_)
    refine congr (congrArg bind (congrArg (forIn _ _) (funext fun _=>funext fun q3=>?_))) (funext fun v=>?_)
    ·unfold hi2 hiA hiB hiC
     rfl
    ·rcases v with ⟨v,v2⟩
     cases v with
     | some v=>rfl
     | none=>rfl
 ·rcases v with ⟨v,v2⟩
  cases v with
  | some v=>rfl
  | none=>rfl
structure Mh (r:Keyed→Int) (all A B out:List Keyed):Prop where
 pm:(A ++ B ++ out).Perm all
 so:Srt r out
 sa:Srt r A
 sb:Srt r B
 ao:∀ x ∈ A,∀ y ∈ out,r x ≤ r y
 bo:∀ x ∈ B,∀ y ∈ out,r x ≤ r y
section
variable {r:Keyed→Int} {all out A B X:List Keyed}
theorem Mh.takeB (m:Mh r all A (B ++ X) out) (h:∀ x ∈ X,∀ y ∈ A,r y ≤ r x):Mh r all A B (X ++ out):=by
 have s:=List.pairwise_append.mp m.sb
 refine ⟨by have:=m.pm; simpa [List.append_assoc] using this,List.pairwise_append.mpr ⟨s.2.1,m.so,fun x hx y hy=>m.bo x (List.mem_append_right _ hx) y hy⟩,m.sa,s.1,fun x hx y hy=>?_,fun x hx y hy=>?_⟩
 ·rcases List.mem_append.mp hy with q | q
  ·exact h y q x hx
  ·exact m.ao x hx y q
 ·rcases List.mem_append.mp hy with q | q
  ·exact s.2.2 x hx y q
  ·exact m.bo x (List.mem_append_left _ hx) y q
theorem Mh.takeA (m:Mh r all (A ++ X) B out) (h:∀ x ∈ X,∀ y ∈ B,r y ≤ r x):Mh r all A B (X ++ out):=by
 have s:=List.pairwise_append.mp m.sa
 refine ⟨?_,List.pairwise_append.mpr ⟨s.2.1,m.so,fun x hx y hy=>m.ao x (List.mem_append_right _ hx) y hy⟩,s.1,m.sb,fun x hx y hy=>?_,fun x hx y hy=>?_⟩
 ·refine List.Perm.trans ?_ m.pm
  rw [List.append_assoc,List.append_assoc,List.append_assoc]
  refine List.Perm.append_left A ?_
  rw [← List.append_assoc,← List.append_assoc]
  exact List.Perm.append_right out List.perm_append_comm
 ·rcases List.mem_append.mp hy with q | q
  ·exact s.2.2 x hx y q
  ·exact m.ao x (List.mem_append_left _ hx) y q
 ·rcases List.mem_append.mp hy with q | q
  ·exact h y q x hx
  ·exact m.bo x hx y q
end
theorem take_at {a:Array Keyed} {p:Nat} (h:p - 1 < a.size) (h0:0 < p):a.toList.take p = a.toList.take (p - 1) ++ [a[p - 1]]:=by
 obtain ⟨n,rfl⟩:∃ n,p = n + 1:=⟨p - 1,by omega⟩
 simp only [Nat.add_sub_cancel] at h ⊢
 rw [List.take_succ_eq_append_getElem (by simpa using h)]; simp
theorem take_mem {a:Array Keyed} {p:Nat} {x:Keyed} (h:x ∈ a.toList.take p):∃ k,k < p∧∃ (q:k < a.size),a[k] = x:=by
 obtain ⟨n,hn,e⟩:=List.getElem_of_mem h
 rw [List.getElem_take] at e
 rw [List.length_take] at hn
 exact ⟨n,by omega,by simp at hn; omega,by simpa using e⟩
theorem ext0 (a:Array Keyed) (p:Nat):(a.extract 0 p).toList = a.toList.take p:=by
 rw [Array.toList_extract,List.extract_eq_take_drop]; simp
theorem take_split {a:Array Keyed} {k p:Nat} (h:k ≤ p):a.toList.take p = a.toList.take k ++ (a.extract k p).toList:=by
 rw [Array.toList_extract,List.extract_eq_take_drop]
 obtain ⟨n,rfl⟩:∃ n,p = k + n:=⟨p - k,by omega⟩
 rw [List.take_add,Nat.add_sub_cancel_left]
theorem ext_mem2 {a:Array Keyed} {k p:Nat} {x:Keyed} (h:x ∈ (a.extract k p).toList):∃ m,k ≤ m∧m < p∧∃ (q:m < a.size),a[m] = x:=by
 rw [Array.toList_extract,List.extract_eq_take_drop] at h
 obtain ⟨n,hn,e⟩:=List.getElem_of_mem h
 rw [List.length_take,List.length_drop] at hn
 rw [List.getElem_take,List.getElem_drop] at e
 exact ⟨k + n,by omega,by omega,by simp at hn; omega,by simpa using e⟩
section
variable {M:Model} {A:Around} {E:Value→Shared→Prop} {s:Shared} {κ:SortKind} {r:Keyed→Int} {P:Keyed→Prop} {a b:Array Keyed} {all:List Keyed}
abbrev JH (r:Keyed→Int) (all:List Keyed) (a b o:Array Keyed) (p q:Nat):Prop:=Mh r all (a.toList.take p) (b.toList.take q) o.toList.reverse
theorem ge_take (sa:Srt r a.toList) {p:Nat} (h:p - 1 < a.size) {z:Int} (hz:r a[p - 1] ≤ z):∀ y ∈ a.toList.take p,r y ≤ z:=fun y hy=>by
 obtain ⟨k,h1,h2,rfl⟩:=take_mem hy
 exact Int.le_trans (srt_at sa (by omega) h) hz
theorem JH.pushB (t:Two r P a b) {o:Array Keyed} {p q:Nat} (m:JH r all a b o p q) (hp:p - 1 < a.size) (hq:q - 1 < b.size) (q0:0 < q) (h:r a[p - 1] ≤ r b[q - 1]):JH r all a b (o.push b[q - 1]) p (q - 1):=by
 unfold JH at m ⊢
 rw [take_at hq q0] at m
 have:=m.takeB fun x hx y hy=>by
  rw [List.mem_singleton] at hx; subst hx
  exact ge_take t.sa hp h y hy
 simpa using this
theorem JH.pushA (t:Two r P a b) {o:Array Keyed} {p q:Nat} (m:JH r all a b o p q) (hp:p - 1 < a.size) (hq:q - 1 < b.size) (p0:0 < p) (h:r b[q - 1] ≤ r a[p - 1]):JH r all a b (o.push a[p - 1]) (p - 1) q:=by
 unfold JH at m ⊢
 rw [take_at hp p0] at m
 have:=m.takeA fun x hx y hy=>by
  rw [List.mem_singleton] at hx; subst hx
  exact ge_take t.sb hq h y hy
 simpa using this
theorem JH.appA (t:Two r P a b) {o:Array Keyed} {p q k:Nat} (m:JH r all a b o p q) (kp:k ≤ p) (hq:q - 1 < b.size) (h:∀ n,k ≤ n→n < p→∀ z:n < a.size,r b[q - 1] ≤ r a[n]):JH r all a b (o ++ (a.extract k p).reverse) k q:=by
 unfold JH at m ⊢
 rw [take_split kp] at m
 have:=m.takeA fun x hx y hy=>by
  obtain ⟨n,h1,h2,h3,rfl⟩:=ext_mem2 hx
  exact ge_take t.sb hq (h n h1 h2 h3) y hy
 rw [Array.toList_append,Array.toList_reverse,List.reverse_append,List.reverse_reverse]; exact this
theorem JH.appB (t:Two r P a b) {o:Array Keyed} {p q k:Nat} (m:JH r all a b o p q) (kq:k ≤ q) (hp:p - 1 < a.size) (h:∀ n,k ≤ n→n < q→∀ z:n < b.size,r a[p - 1] ≤ r b[n]):JH r all a b (o ++ (b.extract k q).reverse) p k:=by
 unfold JH at m ⊢
 rw [take_split (a:=b) kq] at m
 have:=m.takeB fun x hx y hy=>by
  obtain ⟨n,h1,h2,h3,rfl⟩:=ext_mem2 hx
  exact ge_take t.sa hp (h n h1 h2 h3) y hy
 rw [Array.toList_append,Array.toList_reverse,List.reverse_append,List.reverse_reverse]; exact this
theorem JH.hn {o:Array Keyed} {p q:Nat} (m:JH r all a b o p q) (h0:p = 0 ∨ q = 0):Res r all (hn a b o p q):=by
 have e:(L2.hn a b o p q).toList = a.toList.take p ++ b.toList.take q ++ o.toList.reverse:=by unfold L2.hn; rw [Array.toList_append,Array.toList_append,ext0,ext0,Array.toList_reverse]
 unfold Res
 rw [e]
 refine ⟨m.pm,List.pairwise_append.mpr ⟨List.pairwise_append.mpr ⟨m.sa,m.sb,fun x hx y hy=>?_⟩,m.so,fun x hx y hy=>?_⟩⟩
 ·rcases h0 with rfl | rfl
  ·simp at hx
  ·simp at hy
 ·rcases List.mem_append.mp hx with z | z
  ·exact m.ao x z y hy
  ·exact m.bo x z y hy
theorem JH.hf (t:Two r P a b) {o:Array Keyed} {p q:Nat} (m:JH r all a b o p q) (hb:0 < b.size) (h0:q = 1):Res r all (hf a b o p q):=by
 have e:(L2.hf a b o p q).toList = b.toList.take q ++ a.toList.take p ++ o.toList.reverse:=by unfold L2.hf; rw [Array.toList_append,Array.toList_append,ext0,ext0,Array.toList_reverse]
 unfold Res
 rw [e]
 refine ⟨List.Perm.trans (List.Perm.append_right _ List.perm_append_comm) m.pm,List.pairwise_append.mpr ⟨List.pairwise_append.mpr ⟨m.sb,m.sa,fun x hx y hy=>?_⟩,m.so,fun x hx y hy=>?_⟩⟩
 ·obtain ⟨k,h1,h2,rfl⟩:=take_mem hx
  have:k = 0:=by omega
  subst this
  exact Int.le_of_lt (t.fb hb y (List.mem_of_mem_take hy))
 ·rcases List.mem_append.mp hx with z | z
  ·exact m.bo x z y hy
  ·exact m.ao x z y hy
def IH (r:Keyed→Int) (all:List Keyed) (a b:Array Keyed) (n:Nat) (z:Option (Array Keyed)) (p q:Nat) (o:Array Keyed):Prop :=
 (∃ x,z = some x∧Res r all x) ∨ (z = none∧JH r all a b o p q∧1 ≤ p∧2 ≤ q∧p ≤ a.size∧q ≤ b.size∧p + q + n ≤ a.size + b.size)
theorem IH.weak {n m:Nat} {z:Option (Array Keyed)} {o:Array Keyed} {i j:Nat} (h:IH r all a b m z i j o) (nm:n ≤ m):IH r all a b n z i j o:=h.imp id fun ⟨a1,a2,a3,a4,a5,a6,a7⟩=>⟨a1,a2,a3,a4,a5,a6,by omega⟩
theorem wp_hi1 (C:Cm M A E s κ r P) (t:Two r P a b) {st:SortSt} (hk:kindOf st = κ) {o:Array Keyed} {p q c d g n:Nat} (m:JH r all a b o p q) (hp:1 ≤ p) (hq:2 ≤ q) (lp:p ≤ a.size) (lq:q ≤ b.size) (hn:p + q + n ≤ a.size + b.size) {Q:ForInStep U6→SortSt→Prop}
  (hd:∀ z p q o c d,IH r all a b (n + 1) z p q o→Q (.done (z,p,q,o,c,d)) st) (hy:∀ p q o c d,IH r all a b (n + 1) none p q o→Q (.yield (none,p,q,o,c,d)) st):wpS M A E s (hi1 a b g (none,p,q,o,c,d)) Q st:=by
 unfold hi1
 dsimp only
 have hi:p - 1 < a.size:=by omega
 have hj:q - 1 < b.size:=by omega
 refine wpS_bind (wp_elem (Array.getElem?_eq_getElem hj) (wpS_bind (wp_elem (Array.getElem?_eq_getElem hi) (wpS_bind (C.lt _ _ (t.pb _ (by simp)) (t.pa _ (by simp)) _ _ hk ?_)))))
 dsimp only
 by_cases z:r b[q - 1] < r a[p - 1]
 ·rw [decide_eq_true z,if_pos rfl]
  refine wpS_bind (wp_elem (Array.getElem?_eq_getElem hi) ?_)
  have m':=m.pushA t hi hj (by omega) (Int.le_of_lt z)
  by_cases e:p - 1 = 0
  ·rw [if_pos (by simpa using e)]
   exact wpS_pure (hd _ _ _ _ _ _ (.inl ⟨_,rfl,m'.hn (.inl e)⟩))
  ·rw [if_neg (by simpa using e)]
   have iv:IH r all a b (n + 1) none (p - 1) q (o.push a[p - 1]):=.inr ⟨rfl,m',by omega,by omega,by omega,by omega,by omega⟩
   split
   ·exact wpS_pure (hd _ _ _ _ _ _ iv)
   ·exact wpS_pure (hy _ _ _ _ _ iv)
 ·rw [decide_eq_false z,if_neg (by simp)]
  refine wpS_bind (wp_elem (Array.getElem?_eq_getElem hj) ?_)
  have m':=m.pushB t hi hj (by omega) (by omega)
  by_cases e:q - 1 = 1
  ·rw [if_pos (by simpa using e)]
   exact wpS_pure (hd _ _ _ _ _ _ (.inl ⟨_,rfl,m'.hf t (by omega) e⟩))
  ·rw [if_neg (by simpa using e)]
   have iv:IH r all a b (n + 1) none p (q - 1) (o.push b[q - 1]):=.inr ⟨rfl,m',by omega,by omega,by omega,by omega,by omega⟩
   split
   ·exact wpS_pure (hd _ _ _ _ _ _ iv)
   ·exact wpS_pure (hy _ _ _ _ _ iv)
theorem wp_hiC (C:Cm M A E s κ r P) (t:Two r P a b) {st:SortSt} {o:Array Keyed} {p q c d g n:Nat} (m:JH r all a b o p q) (hp:1 ≤ p) (hq:2 ≤ q) (lp:p ≤ a.size) (lq:q ≤ b.size) (hn:p + q + n ≤ a.size + b.size) (hl:r (b[q - 1]'(by omega)) ≤ r (a[p - 1]'(by omega))) {Q:ForInStep U7→SortSt→Prop}
  (hd:∀ z p q o c d,IH r all a b n z p q o→Q (.done (z,p,q,o,g,c,d)) st) (hy:∀ p q o c d,IH r all a b n none p q o→Q (.yield (none,p,q,o,g,c,d)) st):wpS M A E s (hiC a b o p q g c d) Q st:=by
 unfold hiC
 have hi:p - 1 < a.size:=by omega
 have hj:q - 1 < b.size:=by omega
 refine wpS_bind (wp_elem (Array.getElem?_eq_getElem hi) ?_)
 have m':=m.pushA t hi hj (by omega) hl
 by_cases e:p - 1 = 0
 ·rw [if_pos (by simpa using e)]
  exact wpS_pure (hd _ _ _ _ _ _ (.inl ⟨_,rfl,m'.hn (.inl e)⟩))
 ·rw [if_neg (by simpa using e)]
  have iv:IH r all a b n none (p - 1) q (o.push a[p - 1]):=.inr ⟨rfl,m',by omega,by omega,by omega,by omega,by omega⟩
  split
  ·exact wpS_pure (hd _ _ _ _ _ _ iv)
  ·exact wpS_pure (hy _ _ _ _ _ iv)
theorem wp_hiB (C:Cm M A E s κ r P) (t:Two r P a b) {st:SortSt} (hk:kindOf st = κ) {o:Array Keyed} {p q c d g n:Nat} (m:JH r all a b o p q) (hp:1 ≤ p) (hq:2 ≤ q) (lp:p ≤ a.size) (lq:q ≤ b.size) (hn:p + q + n ≤ a.size + b.size) (hl:r (a[p - 1]'(by omega)) ≤ r (b[q - 1]'(by omega))) {Q:ForInStep U7→SortSt→Prop}
  (hd:∀ z p q o c d,IH r all a b n z p q o→Q (.done (z,p,q,o,g,c,d)) st) (hy:∀ p q o c d,IH r all a b n none p q o→Q (.yield (none,p,q,o,g,c,d)) st):wpS M A E s (hiB a b o p q g c d) Q st:=by
 unfold hiB
 have hi:p - 1 < a.size:=by omega
 have hj:q - 1 < b.size:=by omega
 refine wpS_bind (wp_elem (Array.getElem?_eq_getElem hj) ?_)
 have m':=m.pushB t hi hj (by omega) hl
 by_cases e:q - 1 = 1
 ·rw [if_pos (by simpa using e)]
  exact wpS_pure (hd _ _ _ _ _ _ (.inl ⟨_,rfl,m'.hf t (by omega) e⟩))
 ·rw [if_neg (by simpa using e)]
  refine wpS_bind (wp_elem (Array.getElem?_eq_getElem hi) (wpS_bind (wp_gal C hk (t.pa _ (by simp)) t.pb (by omega) (fun x y xy hy=>srt_at t.sb (by omega) (by omega)) (by omega) fun k hk1 hk2 hk3=>?_)))
  simp only [Nat.zero_add] at hk2 hk3
  dsimp only
  have up:∀ n,k ≤ n→n < q - 1→∀ z:n < b.size,r a[p - 1] ≤ r b[n]:=fun n h1 h2 z=>by
   have:=hk3 n h1 h2 z
   unfold bT at this; simp at this; omega
  have dwn:∀ z:k - 1 < b.size,0 < k→r b[k - 1] ≤ r a[p - 1]:=fun z h=>by
   have:=hk2 (k - 1) (by omega) z
   unfold bT at this; simp at this; omega
  by_cases k0:q - 1 - k > 0
  ·rw [if_pos k0]
   have m2:=m'.appB t (by omega) hi up
   by_cases e1:k = 1
   ·rw [if_pos (by simpa using e1)]
    exact wpS_pure (hd _ _ _ _ _ _ (.inl ⟨_,rfl,m2.hf t (by omega) e1⟩))
   ·rw [if_neg (by simpa using e1)]
    by_cases e2:k = 0
    ·rw [if_pos (by simpa using e2)]
     exact wpS_pure (hd _ _ _ _ _ _ (.inl ⟨_,rfl,m2.hn (.inr e2)⟩))
    ·rw [if_neg (by simpa using e2)]
     exact wp_hiC C t m2 hp (by omega) lp (by omega) (by omega) (dwn _ (by omega)) hd hy
  ·rw [if_neg k0]
   have:k = q - 1:=by omega
   subst this
   exact wp_hiC C t m' hp (by omega) lp (by omega) (by omega) (dwn _ (by omega)) hd hy
theorem wp_hiA (C:Cm M A E s κ r P) (t:Two r P a b) {st:SortSt} (hk:kindOf st = κ) {o:Array Keyed} {p q c d g n:Nat} (m:JH r all a b o p q) (hp:1 ≤ p) (hq:2 ≤ q) (lp:p ≤ a.size) (lq:q ≤ b.size) (hn:p + q + n ≤ a.size + b.size) {Q:ForInStep U7→SortSt→Prop}
  (hd:∀ z p q o c d,IH r all a b n z p q o→Q (.done (z,p,q,o,g,c,d)) (stG st g)) (hy:∀ p q o c d,IH r all a b n none p q o→Q (.yield (none,p,q,o,g,c,d)) (stG st g)):wpS M A E s (hiA a b o p q g c d) Q st:=by
 unfold hiA
 have hi:p - 1 < a.size:=by omega
 have hj:q - 1 < b.size:=by omega
 rw [setG_eq]
 refine wpS_bind (wpS_modify (wpS_bind (wp_elem (Array.getElem?_eq_getElem hj) (wpS_bind (wp_gal C (kind_stG hk) (t.pb _ (by simp)) t.pa (by omega) (fun x y xy hy=>srt_at t.sa (by omega) (by omega)) (by omega) fun k hk1 hk2 hk3=>?_)))))
 simp only [Nat.zero_add] at hk2 hk3
 dsimp only
 have up:∀ n,k ≤ n→n < p→∀ z:n < a.size,r b[q - 1] ≤ r a[n]:=fun n h1 h2 z=>by
  have:=hk3 n h1 h2 z
  unfold bT at this; simp at this; omega
 have dwn:∀ z:k - 1 < a.size,0 < k→r a[k - 1] ≤ r b[q - 1]:=fun z h=>by
  have:=hk2 (k - 1) (by omega) z
  unfold bT at this; simp at this; omega
 by_cases k0:p - k > 0
 ·rw [if_pos k0]
  have m2:=m.appA t (by omega) hj up
  by_cases e1:k = 0
  ·rw [if_pos (by simpa using e1)]
   exact wpS_pure (hd _ _ _ _ _ _ (.inl ⟨_,rfl,m2.hn (.inl e1)⟩))
  ·rw [if_neg (by simpa using e1)]
   exact wp_hiB C t (kind_stG hk) m2 (by omega) hq (by omega) lq (by omega) (dwn _ (by omega)) hd hy
 ·rw [if_neg k0]
  have:k = p:=by omega
  subst this
  exact wp_hiB C t (kind_stG hk) m hp hq lp lq hn (dwn _ (by omega)) hd hy
end
section
variable {M:Model} {A:Around} {E:Value→Shared→Prop} {s:Shared} {κ:SortKind} {r:Keyed→Int} {P:Keyed→Prop} {a b:Array Keyed} {all:List Keyed}
theorem wp_hiO (C:Cm M A E s κ r P) (t:Two r P a b) {st:SortSt} (hk:kindOf st = κ) {o:Array Keyed} {p q g n:Nat} (m:JH r all a b o p q) (hp:1 ≤ p) (hq:2 ≤ q) (lp:p ≤ a.size) (lq:q ≤ b.size) (hn:p + q + n ≤ a.size + b.size) {Q:ForInStep U5→SortSt→Prop}
  (hd:∀ z p q o g g',(∃ x,z = some x∧Res r all x)→Q (.done (z,p,q,o,g)) (stG st g')) (hy:∀ p q o g g',IH r all a b (n + 1) none p q o→Q (.yield (none,p,q,o,g)) (stG st g')):wpS M A E s (hiO a b (none,p,q,o,g)) Q st:=by
 unfold hiO
 dsimp only
 refine wpS_bind (wpS_mono (wpS_forRange (I:=fun x c st'=>st' = st∧∃ p q o c1 d,c = (none,p,q,o,c1,d)∧IH r all a b (n + x) none p q o)
  (Q:=fun c st'=>st' = st∧IH r all a b (n + 1) c.1 c.2.1 c.2.2.1 c.2.2.2.1) ?_ ?_ ⟨rfl,p,q,o,0,0,rfl,.inr ⟨rfl,m,hp,hq,lp,lq,by omega⟩⟩) ?_)
 ·rintro x c st' _ hx ⟨rfl,p,q,o,c1,d,rfl,iv⟩
  rcases iv with ⟨_,e,_⟩ | ⟨_,m,hp,hq,lp,lq,hn⟩
  ·cases e
  ·exact wp_hi1 C t hk m hp hq lp lq hn (fun z p q o c d iv=>⟨rfl,iv.weak (by omega)⟩) fun p q o c d iv=>⟨rfl,p,q,o,c,d,rfl,iv.weak (by omega)⟩
 ·rintro c st' ⟨rfl,p,q,o,c1,d,rfl,iv⟩
  exact ⟨rfl,iv.weak (by omega)⟩
 ·rintro ⟨z,p,q,o,c1,d⟩ st' ⟨rfl,iv⟩
  dsimp only at iv ⊢
  rcases iv with ⟨x,rfl,hx⟩ | ⟨rfl,m,hp,hq,lp,lq,hn⟩
  ·exact wpS_pure (hd _ _ _ _ _ (gallopOf st') ⟨x,rfl,hx⟩)
  ·dsimp only
   refine wpS_bind (wpS_lift (wpAny_rule ⟨rfl,?_⟩))
   refine wpS_bind (wpS_mono (wpS_forRange (I:=fun x c st2=>(∃ g',st2 = stG st' g')∧∃ p q o g c1 d,c = (none,p,q,o,g,c1,d)∧IH r all a b (n + 1) none p q o)
    (Q:=fun c st2=>(∃ g',st2 = stG st' g')∧IH r all a b (n + 1) c.1 c.2.1 c.2.2.1 c.2.2.2.1) ?_ ?_ ⟨⟨gallopOf st',rfl⟩,p,q,o,_,_,_,rfl,.inr ⟨rfl,m,hp,hq,lp,lq,hn⟩⟩) ?_)
   ·rintro x c st2 _ hx ⟨⟨g',rfl⟩,p,q,o,g,c1,d,rfl,iv⟩
    rcases iv with ⟨_,e,_⟩ | ⟨_,m,hp,hq,lp,lq,hn⟩
    ·cases e
    ·unfold hi2
     dsimp only
     split
     ·exact wp_hiA C t (kind_stG hk) m hp hq lp lq hn (fun z p q o c d iv=>⟨⟨_,rfl⟩,iv⟩) fun p q o c d iv=>⟨⟨_,rfl⟩,_,_,_,_,_,_,rfl,iv⟩
     ·exact wp_hiA C t (kind_stG hk) m hp hq lp lq hn (fun z p q o c d iv=>⟨⟨_,rfl⟩,iv⟩) fun p q o c d iv=>⟨⟨_,rfl⟩,_,_,_,_,_,_,rfl,iv⟩
   ·rintro c st2 ⟨g',p,q,o,g,c1,d,rfl,iv⟩
    exact ⟨g',iv⟩
   ·rintro ⟨z,p,q,o,g,c1,d⟩ st2 ⟨⟨g',rfl⟩,iv⟩
    dsimp only at iv ⊢
    rcases iv with ⟨x,rfl,hx⟩ | ⟨rfl,m,hp,hq,lp,lq,hn⟩
    ·exact wpS_pure (hd _ _ _ _ _ _ ⟨x,rfl,hx⟩)
    ·dsimp only
     rw [setG_eq]
     exact wpS_bind (wpS_modify (wpS_pure (hy _ _ _ _ _ (.inr ⟨rfl,m,hp,hq,lp,lq,hn⟩))))
theorem wp_mHi (C:Cm M A E s κ r P) (t:Two r P a b) {st:SortSt} (hk:kindOf st = κ) (ha:0 < a.size) (hb:0 < b.size) {Q:Array Keyed→SortSt→Prop} (h:∀ x g,Res r (a.toList ++ b.toList) x→Q x (stG st g)):wpS M A E s (mHi a b) Q st:=by
 rw [mHi_eq]
 have hi:a.size - 1 < a.size:=by omega
 refine wpS_bind (wpS_lift (wpAny_rule ⟨rfl,?_⟩))
 refine wpS_bind (wp_elem (Array.getElem?_eq_getElem hi) ?_)
 have m0:JH r (a.toList ++ b.toList) a b #[] a.size b.size:=by
  show Mh _ _ _ _ _
  rw [List.take_of_length_le (by simp),List.take_of_length_le (by simp)]
  exact ⟨by simp,List.Pairwise.nil,t.sa,t.sb,(fun _ _ _ h=>nomatch h),(fun _ _ _ h=>nomatch h)⟩
 have m:JH r (a.toList ++ b.toList) a b #[a[a.size - 1]] (a.size - 1) b.size:=m0.pushA t hi (by omega) ha (Int.le_of_lt (t.la hi _ (by simp)))
 by_cases e1:a.size - 1 = 0
 ·rw [if_pos (by simpa using e1)]
  exact wpS_pure (h _ (gallopOf st) (m.hn (.inl e1)))
 rw [if_neg (by simpa using e1)]
 by_cases e2:b.size = 1
 ·rw [if_pos (by simpa using e2)]
  exact wpS_pure (h _ (gallopOf st) (m.hf t hb e2))
 rw [if_neg (by simpa using e2)]
 refine wpS_bind (wpS_get (wpS_bind (wpS_mono (wpS_forRange (I:=fun x c st2=>(∃ g',st2 = stG st g')∧∃ p q o g,c = (none,p,q,o,g)∧IH r (a.toList ++ b.toList) a b x none p q o)
  (Q:=fun c st2=>(∃ g',st2 = stG st g')∧∃ x,c.1 = some x∧Res r (a.toList ++ b.toList) x) ?_ ?_ ⟨⟨gallopOf st,rfl⟩,_,_,_,_,rfl,.inr ⟨rfl,m,by omega,by omega,by omega,by omega,by omega⟩⟩) ?_)))
 ·rintro x c st2 _ hx ⟨⟨g',rfl⟩,p,q,o,g,rfl,iv⟩
  rcases iv with ⟨_,e,_⟩ | ⟨_,m,hp,hq,lp,lq,hn⟩
  ·cases e
  ·exact wp_hiO C t (kind_stG hk) m hp hq lp lq hn (fun z p q o g g' e=>⟨⟨_,rfl⟩,e⟩) fun p q o g g' iv=>⟨⟨_,rfl⟩,_,_,_,_,rfl,iv⟩
 ·rintro c st2 ⟨g',p,q,o,g,rfl,iv⟩
  rcases iv with ⟨_,e,_⟩ | ⟨_,m,hp,hq,lp,lq,hn⟩
  ·cases e
  ·omega
 ·rintro ⟨z,q⟩ st2 ⟨⟨g',rfl⟩,x,e,hx⟩
  dsimp only at e ⊢
  subst e
  exact wpS_pure (h _ _ hx)
end
def wr (a:Array Keyed) (u:Nat) (m:List Keyed):Array Keyed:=m.zipIdx.foldl (fun a (p,j)=>a.setIfInBounds (u + j) p) a
theorem mAt_eq (i:Nat):mergeAt' i = (do
  let st ← get
  let (some (u,n,w),some (v,m,_)):=((pendingOf st)[i]?,(pendingOf st)[i + 1]?) | (unsupported "internal:list.sort.pending" : SM Bool)
  set (SortSt.mk' (kindOf st) (arrOf st) (((pendingOf st).setIfInBounds i (u,n + m,w)).eraseIdxIfInBounds (i + 1)) (gallopOf st) (failedOf st))
  let some k ← gal false (← elem' (arrOf st) v) (arrOf st) u n 0 | return false
  if n - k == 0 then return true
  let some l ← gal true (← elem' (arrOf st) (u + k + (n - k) - 1)) (arrOf st) v m (m - 1) | return false
  if l == 0 then return true
  let z ← if n - k ≤ l then mLo ((arrOf st).extract (u + k) v) ((arrOf st).extract v (v + l)) else mHi ((arrOf st).extract (u + k) v) ((arrOf st).extract v (v + l))
  modify fun st=>setArr st (wr (arrOf st) (u + k) z.toList)
  return (failedOf (← get)).isNone):=rfl
theorem wr_go (s:Nat):∀ (m v u w:List Keyed) (k:Nat) (a:Array Keyed),a.toList = u ++ v ++ w→u.length = s + k→v.length = m.length→((m.zipIdx k).foldl (fun a (p,j)=>a.setIfInBounds (s + j) p) a).toList = u ++ m ++ w
 | [],v,u,w,k,a,h,hu,hv=>by
  have:v = []:=List.length_eq_zero_iff.mp hv
  subst this
  simpa using h
 | p :: m,[],u,w,k,a,h,hu,hv=>by simp at hv
 | p :: m,q :: v,u,w,k,a,h,hu,hv=>by
  rw [List.zipIdx_cons,List.foldl_cons]
  have:=wr_go s m v (u ++ [p]) w (k + 1) (a.setIfInBounds (s + k) p) (by
   rw [Array.toList_setIfInBounds,h,← hu]
   simp) (by simp; omega) (by simpa using hv)
  rw [this]; simp
theorem wr_list {a:Array Keyed} {u v w m:List Keyed} (h:a.toList = u ++ v ++ w) (hv:v.length = m.length):(wr a u.length m).toList = u ++ m ++ w:=wr_go u.length m v u w 0 a h rfl hv
theorem at_mid {a:Array Keyed} {u v w:List Keyed} (h:a.toList = u ++ v ++ w) {i:Nat} (hi:i < v.length):∃ q:u.length + i < a.size,a[u.length + i] = v[i]:=by
 have hs:a.size = (u ++ v ++ w).length:=by rw [← h]; simp
 have q:u.length + i < a.size:=by rw [hs]; simp; omega
 refine ⟨q,?_⟩
 rw [← Array.getElem_toList]
 simp only [h]
 rw [List.getElem_append_left (by simp; omega),List.getElem_append_right (by omega)]
 simp
theorem ext_mid {a:Array Keyed} {u v w:List Keyed} (h:a.toList = u ++ v ++ w) {i j:Nat} (hi:i = u.length) (hj:j = u.length + v.length):(a.extract i j).toList = v:=by
 subst hi; subst hj
 rw [Array.toList_extract,List.extract_eq_take_drop,h]
 simp
theorem cut3 (u v w:List Keyed) (k:Nat):u ++ v ++ w = u ++ v.take k ++ v.drop k ++ w:=by rw [List.append_assoc u (v.take k),List.take_append_drop]
section
variable {M:Model} {A:Around} {E:Value→Shared→Prop} {s:Shared} {κ:SortKind} {r:Keyed→Int} {P:Keyed→Prop}
theorem srtL {l:List Keyed} (h:Srt r l) {i j:Nat} (ij:i ≤ j) (hj:j < l.length):r (l[i]'(by omega)) ≤ r l[j]:=by
 rcases Nat.lt_or_ge i j with q | q
 ·exact List.pairwise_iff_getElem.mp h i j (by omega) hj q
 ·have:i = j:=by omega
  subst this; exact Int.le_refl _
theorem wp_set {st st':SortSt} {Q:PUnit→SortSt→Prop} (h:Q ⟨⟩ st'):wpS M A E s (set st':SM PUnit) Q st:=by
 unfold wpS; rw [StateT.run_set]; exact wpAny_pure ⟨rfl,h⟩
theorem wp_mAt (C:Cm M A E s κ r P) {st:SortSt} {i u v n m w w':Nat} {pre X Y post:List Keyed} (hk:kindOf st = κ) (hf:failedOf st = none) (p1:(pendingOf st)[i]? = some (u,n,w)) (p2:(pendingOf st)[i + 1]? = some (v,m,w'))
  (hl:(arrOf st).toList = pre ++ X ++ Y ++ post) (hP:∀ x ∈ (arrOf st).toList,P x) (hu:u = pre.length) (hn:n = X.length) (hv:v = pre.length + X.length) (hm:m = Y.length) (sx:Srt r X) (sy:Srt r Y) (nx:0 < X.length) (ny:0 < Y.length) {Q:Bool→SortSt→Prop}
  (h:∀ Z arr g,Z.Perm (X ++ Y)→Srt r Z→arr.toList = pre ++ Z ++ post→Q true (SortSt.mk' κ arr (((pendingOf st).setIfInBounds i (u,n + m,w)).eraseIdxIfInBounds (i + 1)) g none)):wpS M A E s (mergeAt' i) Q st:=by
 subst hu hn hv hm
 have lx:(arrOf st).toList = pre ++ X ++ (Y ++ post):=by rw [hl]; simp
 have ly:(arrOf st).toList = (pre ++ X) ++ Y ++ post:=hl
 have hsz:(arrOf st).size = pre.length + X.length + Y.length + post.length:=by rw [← Array.length_toList,hl]; simp; omega
 have atx:∀ i,i < X.length→∃ q:pre.length + i < (arrOf st).size,(arrOf st)[pre.length + i] = X[i]!:=fun i hi=>by
  obtain ⟨q,e⟩:=at_mid lx hi
  exact ⟨q,by rw [e,List.getElem!_eq_getElem?_getD,List.getElem?_eq_getElem hi]; rfl⟩
 have aty:∀ i (hi:i < Y.length),∃ q:pre.length + X.length + i < (arrOf st).size,(arrOf st)[pre.length + X.length + i] = Y[i]:=fun i hi=>by
  obtain ⟨q,e⟩:=at_mid ly hi
  simp only [List.length_append] at q e
  exact ⟨q,e⟩
 have y0:pre.length + X.length < (arrOf st).size:=by omega
 have ey0:(arrOf st)[pre.length + X.length] = Y[0]:=by
  obtain ⟨q,e⟩:=aty 0 ny
  exact e
 rw [mAt_eq]
 refine wpS_bind (wpS_get ?_)
 rw [p1,p2]
 dsimp only
 refine wpS_bind (wp_set ?_)
 refine wpS_bind (wp_elem (Array.getElem?_eq_getElem y0) ?_)
 refine wpS_bind (wp_gal C (st:=SortSt.mk' _ _ _ _ _) hk (hP _ (by simp)) hP (by omega) (fun i j ij hj=>?_) (by omega) fun k k1 k2 k3=>?_)
 ·obtain ⟨q1,e1⟩:=at_mid lx (i:=i) (by omega)
  obtain ⟨q2,e2⟩:=at_mid lx (i:=j) (by omega)
  rw [e1,e2]; exact srtL sx ij hj
 dsimp only
 have xlo:∀ x ∈ X.take k,r x ≤ r Y[0]:=fun x hx=>by
  obtain ⟨j,hj,rfl⟩:=List.getElem_of_mem hx
  rw [List.length_take] at hj
  rw [List.getElem_take]
  obtain ⟨q,e⟩:=at_mid lx (i:=j) (by omega)
  have:=k2 j (by omega) q
  rw [e,ey0] at this
  unfold bT at this; simp at this; exact this
 have xhi:∀ x ∈ X.drop k,r Y[0] < r x:=fun x hx=>by
  obtain ⟨j,hj,rfl⟩:=List.getElem_of_mem hx
  rw [List.length_drop] at hj
  rw [List.getElem_drop]
  obtain ⟨q,e⟩:=at_mid lx (i:=k + j) (by omega)
  have:=k3 (k + j) (by omega) (by omega) q
  rw [e,ey0] at this
  unfold bT at this; simp at this; exact this
 have ymin:∀ y ∈ Y,r Y[0] ≤ r y:=fun y hy=>by
  obtain ⟨j,hj,rfl⟩:=List.getElem_of_mem hy
  exact srtL sy (Nat.zero_le _) hj
 have sX:=List.pairwise_append.mp (show Srt r (X.take k ++ X.drop k) by rw [List.take_append_drop]; exact sx)
 by_cases e1:X.length - k = 0
 ·rw [if_pos (by simpa using e1)]
  have ek:X.take k = X:=List.take_of_length_le (by omega)
  refine wpS_pure ?_
  have:=h (X ++ Y) (arrOf st) (gallopOf st) (List.Perm.refl _) (List.pairwise_append.mpr ⟨sx,sy,fun x hx y hy=>Int.le_trans (xlo x (by rw [ek]; exact hx)) (ymin y hy)⟩) (by rw [hl]; simp)
  rw [← hk,← hf] at this
  exact this
 rw [if_neg (by simpa using e1)]
 have lastlt:pre.length + k + (X.length - k) - 1 < (arrOf st).size:=by omega
 refine wpS_bind (wp_elem (Array.getElem?_eq_getElem lastlt) ?_)
 have elast:(arrOf st)[pre.length + k + (X.length - k) - 1] = X[X.length - 1]:=by
  obtain ⟨q,e⟩:=at_mid lx (i:=X.length - 1) (by omega)
  rw [← e]; congr 1; omega
 refine wpS_bind (wp_gal C (st:=SortSt.mk' _ _ _ _ _) hk (hP _ (by simp)) hP (by omega) (fun i j ij hj=>?_) (by omega) fun l l1 l2 l3=>?_)
 ·obtain ⟨q1,e1⟩:=aty i (by omega)
  obtain ⟨q2,e2⟩:=aty j (by omega)
  rw [e1,e2]; exact srtL sy ij hj
 dsimp only
 have ylo:∀ y ∈ Y.take l,r y < r X[X.length - 1]:=fun x hx=>by
  obtain ⟨j,hj,rfl⟩:=List.getElem_of_mem hx
  rw [List.length_take] at hj
  rw [List.getElem_take]
  obtain ⟨q,e⟩:=aty j (by omega)
  have:=l2 j (by omega) q
  rw [e,elast] at this
  unfold bT at this; simp at this; exact this
 have yhi:∀ y ∈ Y.drop l,r X[X.length - 1] ≤ r y:=fun x hx=>by
  obtain ⟨j,hj,rfl⟩:=List.getElem_of_mem hx
  rw [List.length_drop] at hj
  rw [List.getElem_drop]
  obtain ⟨q,e⟩:=aty (l + j) (by omega)
  have:=l3 (l + j) (by omega) (by omega) q
  rw [e,elast] at this
  unfold bT at this; simp at this; exact this
 have xmax:∀ x ∈ X,r x ≤ r X[X.length - 1]:=fun y hy=>by
  obtain ⟨j,hj,rfl⟩:=List.getElem_of_mem hy
  exact srtL sx (by omega) (by omega)
 have sY:=List.pairwise_append.mp (show Srt r (Y.take l ++ Y.drop l) by rw [List.take_append_drop]; exact sy)
 by_cases e2:l = 0
 ·rw [if_pos (by simpa using e2)]
  refine wpS_pure ?_
  have:=h (X ++ Y) (arrOf st) (gallopOf st) (List.Perm.refl _) (List.pairwise_append.mpr ⟨sx,sy,fun x hx y hy=>Int.le_trans (xmax x hx) (yhi y (by rw [e2]; exact hy))⟩) (by rw [hl]; simp)
  rw [← hk,← hf] at this
  exact this
 rw [if_neg (by simpa using e2)]
 have l3':(arrOf st).toList = (pre ++ X.take k) ++ X.drop k ++ (Y ++ post):=lx.trans (cut3 _ _ _ k)
 have l4':(arrOf st).toList = (pre ++ X) ++ Y.take l ++ (Y.drop l ++ post):=(ly.trans (cut3 _ _ _ l)).trans (List.append_assoc _ _ _)
 have ex:((arrOf st).extract (pre.length + k) (pre.length + X.length)).toList = X.drop k:=ext_mid l3' (by simp; omega) (by simp; omega)
 have ey:((arrOf st).extract (pre.length + X.length) (pre.length + X.length + l)).toList = Y.take l:=ext_mid l4' (by simp) (by simp; omega)
 have sx':((arrOf st).extract (pre.length + k) (pre.length + X.length)).size = X.length - k:=by rw [← Array.length_toList,ex]; simp
 have sy':((arrOf st).extract (pre.length + X.length) (pre.length + X.length + l)).size = l:=by rw [← Array.length_toList,ey]; simp; omega
 have t:Two r P ((arrOf st).extract (pre.length + k) (pre.length + X.length)) ((arrOf st).extract (pre.length + X.length) (pre.length + X.length + l)):=by
  refine ⟨fun x hx=>?_,fun x hx=>?_,by rw [ex]; exact sX.2.1,by rw [ey]; exact sY.1,fun q x hx=>?_,fun q x hx=>?_⟩
  ·rw [ex] at hx; exact hP _ (by rw [lx]; simp [List.mem_of_mem_drop hx])
  ·rw [ey] at hx; exact hP _ (by rw [ly]; simp [List.mem_of_mem_take hx])
  ·rw [ey] at hx
   have:=ylo x hx
   rw [Array.getElem_extract]
   obtain ⟨q2,e⟩:=at_mid lx (i:=X.length - 1) (by omega)
   have:(arrOf st)[pre.length + k + (((arrOf st).extract (pre.length + k) (pre.length + X.length)).size - 1)]'(by omega) = X[X.length - 1]:=by
    rw [← e]; congr 1; omega
   rw [this]; exact ylo x hx
  ·rw [ex] at hx
   rw [Array.getElem_extract]
   simp only [Nat.add_zero]
   rw [ey0]; exact xhi x hx
 have fin:∀ z g,Res r (((arrOf st).extract (pre.length + k) (pre.length + X.length)).toList ++ ((arrOf st).extract (pre.length + X.length) (pre.length + X.length + l)).toList) z →
   Q true (SortSt.mk' κ (wr (arrOf st) (pre.length + k) z.toList) (((pendingOf st).setIfInBounds i (pre.length,X.length + Y.length,w)).eraseIdxIfInBounds (i + 1)) g none):=by
  rintro z g ⟨zp,zs⟩
  rw [ex,ey] at zp
  have zl:(X.drop k ++ Y.take l).length = z.toList.length:=zp.length_eq.symm
  have lw:=wr_list (a:=arrOf st) (u:=pre ++ X.take k) (v:=X.drop k ++ Y.take l) (w:=Y.drop l ++ post) (m:=z.toList) (by
   have e5:=cut3 pre X (Y.take l ++ (Y.drop l ++ post)) k
   rw [l4']; rw [List.append_assoc,e5]; simp only [List.append_assoc]) zl
  have ul:(pre ++ X.take k).length = pre.length + k:=by simp; omega
  rw [ul] at lw
  have mem:∀ y ∈ z.toList,y ∈ X.drop k ∨ y ∈ Y.take l:=fun y hy=>List.mem_append.mp (zp.mem_iff.mp hy)
  refine h (X.take k ++ z.toList ++ Y.drop l) _ g ?_ ?_ (by rw [lw]; simp)
  ·have e3:X ++ Y = X.take k ++ (X.drop k ++ Y.take l) ++ Y.drop l:=by
    have e6:=cut3 [] X Y k
    have e7:=cut3 (X.take k ++ X.drop k) Y [] l
    simp only [List.nil_append,List.append_nil] at e6 e7
    rw [e6,e7]; simp only [List.append_assoc]
   rw [e3]
   exact List.Perm.append_right _ (List.Perm.append_left _ zp)
  ·refine List.pairwise_append.mpr ⟨List.pairwise_append.mpr ⟨sX.1,zs,fun x hx y hy=>?_⟩,sY.2.1,fun x hx y hy=>?_⟩
   ·rcases mem y hy with q | q
    ·exact sX.2.2 x hx y q
    ·exact Int.le_trans (xlo x hx) (ymin y (List.mem_of_mem_take q))
   ·rcases List.mem_append.mp hx with q | q
    ·exact Int.le_trans (xmax x (List.mem_of_mem_take q)) (yhi y hy)
    ·rcases mem x q with q | q
     ·exact Int.le_trans (xmax x (List.mem_of_mem_drop q)) (yhi y hy)
     ·exact sY.2.2 x q y hy
 have last:∀ z g,Res r (((arrOf st).extract (pre.length + k) (pre.length + X.length)).toList ++ ((arrOf st).extract (pre.length + X.length) (pre.length + X.length + l)).toList) z →
   Q (failedOf st).isNone (SortSt.mk' (kindOf st) (wr (arrOf st) (pre.length + k) z.toList) (((pendingOf st).setIfInBounds i (pre.length,X.length + Y.length,w)).eraseIdxIfInBounds (i + 1)) g (failedOf st)):=fun z g hz=>by
  rw [hf,hk]; exact fin z g hz
 split
 ·refine wpS_bind (wp_mLo C t ?_ (by omega) (by omega) fun z g hz=>?_)
  ·exact hk
  exact wpS_bind (wpS_modify (wpS_bind (wpS_get (wpS_pure (last z g hz)))))
 ·refine wpS_bind (wp_mHi C t ?_ (by omega) (by omega) fun z g hz=>?_)
  ·exact hk
  exact wpS_bind (wpS_modify (wpS_bind (wpS_get (wpS_pure (last z g hz)))))
end
def kr (r:Keyed→Int) (xs:Array Keyed) (i:Nat):Int:=(xs[i]?.map r).getD 0
theorem kr_cg {r:Keyed→Int} {xs ys:Array Keyed} {i j:Nat} (h:xs[i]? = ys[j]?):kr r xs i = kr r ys j:=by unfold kr; rw [h]
theorem kr_bub {r:Keyed→Int} {xs:Array Keyed} {c d:Nat} (hs:c < xs.size) (hd:d ≤ c) (k:Nat) :
  kr r (bubble xs c d) k = if k = c - d then kr r xs c else if c - d < k∧k ≤ c then kr r xs (k - 1) else kr r xs k:=by
 have e:=getElem?_bubble hs d hd k
 split
 ·rename_i g; rw [if_pos g] at e; exact kr_cg e
 ·rename_i g; rw [if_neg g] at e
  split
  ·rename_i g'; rw [if_pos g'] at e; exact kr_cg e
  ·rename_i g'; rw [if_neg g'] at e; exact kr_cg e
theorem kr_mir {r:Keyed→Int} {xs:Array Keyed} {i j:Nat} (hj:j ≤ xs.size) (k:Nat):kr r (mirror xs i j ((j - i) / 2)) k = if i ≤ k∧k < j then kr r xs (i + j - 1 - k) else kr r xs k:=by
 have e:=getElem?_mirror_all (i:=i) hj k
 split
 ·rename_i g; rw [if_pos g] at e; exact kr_cg e
 ·rename_i g; rw [if_neg g] at e; exact kr_cg e
theorem kr_mir_same {r:Keyed→Int} {xs:Array Keyed} {i j:Nat} (hj:j ≤ xs.size) {v:Int} (hv:∀ k,i ≤ k→k < j→kr r xs k = v) (k:Nat):kr r (mirror xs i j ((j - i) / 2)) k = kr r xs k:=by
 rw [kr_mir hj]
 split
 ·rename_i g; rw [hv _ (by omega) (by omega),hv k g.1 g.2]
 ·rfl
structure Bs (st0:SortSt) (lo:Nat) (st:SortSt):Prop where
 eq:st = setArr st0 (arrOf st)
 pm:(arrOf st).Perm (arrOf st0)
 ah:∀ i,i < lo→(arrOf st)[i]? = (arrOf st0)[i]?
theorem Bs.sz {st0 st:SortSt} {lo:Nat} (b:Bs st0 lo st):(arrOf st).size = (arrOf st0).size:=b.pm.size_eq
theorem Bs.start (st:SortSt) (lo:Nat):Bs st lo st:=⟨rfl,Array.Perm.refl _,fun _ _=>rfl⟩
theorem Bs.mir {st0 st:SortSt} {lo i j:Nat} (b:Bs st0 lo st) (hi:lo ≤ i) (hj:j ≤ (arrOf st0).size):Bs st0 lo (setArr st (mirror (arrOf st) i j ((j - i) / 2))):=by
 refine ⟨by rw [b.eq],(mirror_perm _ _ _ _).trans b.pm,fun k hk=>?_⟩
 show (mirror (arrOf st) i j ((j - i) / 2))[k]? = _
 rw [getElem?_mirror_all (by rw [b.sz]; exact hj),if_neg (by omega)]
 exact b.ah k hk
theorem Bs.bub {st0 st:SortSt} {lo c d:Nat} (b:Bs st0 lo st) (hc:c < (arrOf st0).size) (hd:d ≤ c) (hl:lo ≤ c - d):Bs st0 lo (setArr st (bubble (arrOf st) c d)):=by
 refine ⟨by rw [b.eq],(bubble_perm _ _ _).trans b.pm,fun k hk=>?_⟩
 show (bubble (arrOf st) c d)[k]? = _
 rw [getElem?_bubble (by rw [b.sz]; exact hc) d hd,if_neg (by omega),if_neg (by omega)]
 exact b.ah k hk
def Up (r:Keyed→Int) (xs:Array Keyed) (lo n:Nat):Prop:=∀ i j,i ≤ j→j < n→kr r xs (lo + i) ≤ kr r xs (lo + j)
def Dw (r:Keyed→Int) (xs:Array Keyed) (lo n:Nat):Prop:=∀ i j,i ≤ j→j < n→kr r xs (lo + j) ≤ kr r xs (lo + i)
theorem Up.one {r:Keyed→Int} {xs:Array Keyed} {lo:Nat}:Up r xs lo 1:=fun i j h1 h2=>by
 have:i = j:=by omega
 subst this; exact Int.le_refl _
theorem Up.more {r:Keyed→Int} {xs:Array Keyed} {lo n:Nat} (u:Up r xs lo n) (h1:1 ≤ n) (h:kr r xs (lo + (n - 1)) ≤ kr r xs (lo + n)):Up r xs lo (n + 1):=fun i j a b=>by
 rcases Nat.lt_or_ge j n with q | q
 ·exact u i j a q
 ·have e:j = n:=by omega
  subst e
  rcases Nat.lt_or_ge i j with z | z
  ·exact Int.le_trans (u i (j - 1) (by omega) (by omega)) h
  ·have:i = j:=by omega
   subst this; exact Int.le_refl _
theorem Dw.more {r:Keyed→Int} {xs:Array Keyed} {lo n:Nat} (u:Dw r xs lo n) (h1:1 ≤ n) (h:kr r xs (lo + n) ≤ kr r xs (lo + (n - 1))):Dw r xs lo (n + 1):=fun i j a b=>by
 rcases Nat.lt_or_ge j n with q | q
 ·exact u i j a q
 ·have e:j = n:=by omega
  subst e
  rcases Nat.lt_or_ge i j with z | z
  ·exact Int.le_trans h (u i (j - 1) (by omega) (by omega))
  ·have:i = j:=by omega
   subst this; exact Int.le_refl _
theorem Dw.cg {r:Keyed→Int} {xs ys:Array Keyed} {lo n:Nat} (u:Dw r xs lo n) (h:∀ k,kr r ys k = kr r xs k):Dw r ys lo n:=fun i j a b=>by rw [h,h]; exact u i j a b
section
variable {M:Model} {A:Around} {E:Value→Shared→Prop} {s:Shared} {κ:SortKind} {r:Keyed→Int} {P:Keyed→Prop} {st0:SortSt}
theorem wp_ltA (C:Cm M A E s κ r P) (hk:kindOf st0 = κ) (hP:∀ x ∈ (arrOf st0).toList,P x) {st:SortSt} {lo i j:Nat} (b:Bs st0 lo st) (hi:i < (arrOf st0).size) (hj:j < (arrOf st0).size) {Q:Option Bool→SortSt→Prop}
  (h:Q (some (decide (kr r (arrOf st) i < kr r (arrOf st) j))) st):wpS M A E s (ltAt' i j) Q st:=by
 have zi:i < (arrOf st).size:=by rw [b.sz]; exact hi
 have zj:j < (arrOf st).size:=by rw [b.sz]; exact hj
 have pp:∀ (k:Nat) (z:k < (arrOf st).size),P (arrOf st)[k]:=fun k z=>hP _ ((Array.perm_iff_toList_perm.mp b.pm).mem_iff.mp (by simp))
 rw [ltAt'_eq]
 refine wpS_bind (wpS_get (wpS_bind (wp_elem (Array.getElem?_eq_getElem zi) (wpS_bind (wp_elem (Array.getElem?_eq_getElem zj) ?_)))))
 refine C.lt _ _ (pp i zi) (pp j zj) _ _ (by rw [b.eq]; exact hk) ?_
 unfold kr at h
 rw [Array.getElem?_eq_getElem zi,Array.getElem?_eq_getElem zj] at h
 exact h
theorem wp_bin (C:Cm M A E s κ r P) (hk:kindOf st0 = κ) (hP:∀ x ∈ (arrOf st0).toList,P x) {st:SortSt} {lo n ok:Nat} {Q:Bool→SortSt→Prop} (hn:lo + n ≤ (arrOf st0).size) (ho:ok ≤ n) (h1:1 ≤ n) (b:Bs st0 lo st) (u:Up r (arrOf st) lo ok)
  (h:∀ st',Bs st0 lo st'→Up r (arrOf st') lo n→Q true st'):wpS M A E s (binarySort' lo n ok) Q st:=by
 rw [binarySort'_eq]
 refine wpS_bind (wpS_mono (wpS_forRange (I:=fun k c st'=>c = (none,())∧Bs st0 lo st'∧Up r (arrOf st') lo k) (Q:=fun c st'=>c = (none,())∧Bs st0 lo st'∧Up r (arrOf st') lo n) ?_ ?_ ⟨rfl,b,?_⟩) ?_)
 ·rintro k c st2 a1 a2 ⟨rfl,b2,u2⟩
  refine wpS_bind (wpS_mono (wpS_forRange (I:=fun x c st3=>st3 = st2∧∃ p q,c = (none,p,q)∧p ≤ q∧q ≤ k∧q - p ≤ k - x∧(∀ i,i < p→kr r (arrOf st2) (lo + i) ≤ kr r (arrOf st2) (lo + k))∧(∀ i,q ≤ i→i < k→kr r (arrOf st2) (lo + k) < kr r (arrOf st2) (lo + i)))
   (Q:=fun c st3=>st3 = st2∧∃ p,c = (none,p,p)∧p ≤ k∧(∀ i,i < p→kr r (arrOf st2) (lo + i) ≤ kr r (arrOf st2) (lo + k))∧(∀ i,p ≤ i→i < k→kr r (arrOf st2) (lo + k) < kr r (arrOf st2) (lo + i))) ?_ ?_ ⟨rfl,0,k,rfl,by omega,by omega,by omega,fun i hi=>by omega,fun i c d=>by omega⟩) ?_)
  ·rintro x c st3 _ hx ⟨rfl,p,q,rfl,e1,e2,e3,e4,e5⟩
   dsimp only
   by_cases g:p ≥ q
   ·rw [if_pos g]
    have:p = q:=by omega
    subst this
    exact wpS_pure ⟨rfl,p,rfl,e2,e4,e5⟩
   ·rw [if_neg g]
    refine wpS_bind (wp_ltA C hk hP b2 (by omega) (by omega) ?_)
    by_cases z:kr r (arrOf st3) (lo + k) < kr r (arrOf st3) (lo + (p + q) / 2)
    ·simp only [z,decide_true,if_true]
     exact wpS_pure ⟨rfl,p,(p + q) / 2,rfl,by omega,by omega,by omega,e4,fun i c d=>Int.lt_of_lt_of_le z (u2 _ _ c d)⟩
    ·simp only [z,decide_false,Bool.false_eq_true,if_false]
     exact wpS_pure ⟨rfl,(p + q) / 2 + 1,q,rfl,by omega,by omega,by omega,fun i c=>Int.le_trans (u2 i ((p + q) / 2) (by omega) (by omega)) (by omega),e5⟩
  ·rintro c st3 ⟨rfl,p,q,rfl,e1,e2,e3,e4,e5⟩
   have:p = q:=by omega
   subst this
   exact ⟨rfl,p,rfl,e2,e4,e5⟩
  ·rintro c st3 ⟨rfl,p,rfl,e2,e4,e5⟩
   dsimp only
   rw [moveDown'_eq]
   have hks:lo + k < (arrOf st3).size:=by rw [b2.sz]; omega
   refine wpS_bind (wpS_modify (wpS_pure ⟨rfl,b2.bub (by omega) (by omega) (by omega),?_⟩))
   intro i j ij hj
   show kr r (bubble (arrOf st3) (lo + k) (lo + k - (lo + p))) (lo + i) ≤ kr r (bubble (arrOf st3) (lo + k) (lo + k - (lo + p))) (lo + j)
   rw [kr_bub hks (by omega),kr_bub hks (by omega)]
   have s1:∀ x,lo + x - 1 = lo + (x - 1) ∨ x = 0:=fun x=>by omega
   have lt1:∀ x,x < p→kr r (arrOf st3) (lo + x) ≤ kr r (arrOf st3) (lo + k):=e4
   have em:∀ x,1 ≤ x→kr r (arrOf st3) (lo + x - 1) = kr r (arrOf st3) (lo + (x - 1)):=fun x hx=>by rw [show lo + x - 1 = lo + (x - 1) by omega]
   repeat' split
   all_goals first
    | (exfalso; omega)
    | exact Int.le_refl _
    | exact e4 _ (by omega)
    | (rw [em _ (by omega)]; exact Int.le_of_lt (e5 _ (by omega) (by omega)))
    | (rw [em _ (by omega),em _ (by omega)]; exact u2 _ _ (by omega) (by omega))
    | (rw [em _ (by omega)]; exact u2 _ _ (by omega) (by omega))
    | exact u2 _ _ (by omega) (by omega)
 ·rintro c st2 ⟨hc,b2,u2⟩
  refine ⟨hc,b2,fun i j a c=>u2 i j a (by omega)⟩
 ·intro i j a c
  rcases Nat.lt_or_ge j ok with q | q
  ·exact u i j a q
  ·have:i = j:=by omega
   subst this; exact Int.le_refl _
 ·rintro c st2 ⟨rfl,b2,u2⟩
  exact wpS_pure (h _ b2 u2)
def asc (lo a m:Nat):StateT SortSt Sem AscSt :=
 forIn [a:m] ((none,a):AscSt) fun _ c=>do
  let z ← ltAt' (lo + c.2) (lo + c.2 - 1)
  match z with
  | some y=>if y = true then pure (.done (none,c.2)) else pure (.yield (none,c.2 + 1))
  | _=>pure (.done (some none,c.2))
def tl3 (lo n m:Nat):StateT SortSt Sem (Option Nat):=do
 reverseSlice' lo (lo + n)
 let c ← asc lo n m
 match c.1 with
 | some q=>pure q
 | none=>pure (some c.2)
def dsc (lo n m:Nat):StateT SortSt Sem DescSt :=
 forIn [n:m] ((none,n,0):DescSt) fun _ c=>do
  let z ← ltAt' (lo + c.2.1) (lo + c.2.1 - 1)
  match z with
  | some y =>
   if y = true then
    if c.2.2 > 0 then do
     reverseSlice' (lo + c.2.1 - (c.2.2 + 1)) (lo + c.2.1)
     pure (.yield (none,c.2.1 + 1,0))
    else pure (.yield (none,c.2.1 + 1,0))
   else do
    let z ← ltAt' (lo + c.2.1 - 1) (lo + c.2.1)
    match z with
    | some y=>if y = true then pure (.done (none,c.2.1,c.2.2)) else pure (.yield (none,c.2.1 + 1,c.2.2 + 1))
    | _=>pure (.done (some none,c.2.1,c.2.2))
  | _=>pure (.done (some none,c.2.1,c.2.2))
def dpt (lo n m:Nat):StateT SortSt Sem (Option Nat):=do
 liftM (rule "list.sort.descending-run")
 let c ← dsc lo (n + 1) m
 match c.1 with
 | some q=>pure q
 | none =>
  if c.2.2 > 0 then do
   reverseSlice' (lo + c.2.1 - (c.2.2 + 1)) (lo + c.2.1)
   tl3 lo c.2.1 m
  else tl3 lo c.2.1 m
theorem cR_eq (lo m:Nat):countRun' lo m = (do
  let c ← asc lo 1 m
  match c.1 with
  | some q=>pure q
  | none =>
   if (c.2 == m) = true then pure (some c.2)
   else if c.2 > 1 then do
    let z ← ltAt' lo (lo + c.2 - 1)
    match z with
    | some y=>if y = true then pure (some c.2) else do
      reverseSlice' lo (lo + c.2)
      dpt lo c.2 m
    | _=>pure none
   else dpt lo c.2 m):=by
 rw [countRun'_eq]
 dsimp only
 unfold dpt tl3 dsc asc
 congr 1
 funext c
 obtain ⟨q,n⟩:=c
 cases q with
 | some q=>rfl
 | none =>
  dsimp only
  split
  ·rfl
  ·split
   ·congr 1
    funext x
    cases x with
    | none=>rfl
    | some y =>
     dsimp only
     split
     ·rfl
     ·congr 1
      funext _
      congr 1; funext _; congr 1; congr 1; funext c; obtain ⟨q,n,k⟩:=c
      cases q with
      | some q=>rfl
      | none =>
       dsimp only
       split
       ·congr 1; funext _; congr 1; funext _; congr 1; funext c; obtain ⟨q,n⟩:=c; cases q <;> rfl
       ·congr 1; funext _; congr 1; funext c; obtain ⟨q,n⟩:=c; cases q <;> rfl
   ·congr 1; funext _; congr 1; congr 1; funext c; obtain ⟨q,n,k⟩:=c
    cases q with
    | some q=>rfl
    | none =>
     dsimp only
     split
     ·congr 1; funext _; congr 1; funext _; congr 1; funext c; obtain ⟨q,n⟩:=c; cases q <;> rfl
     ·congr 1; funext _; congr 1; funext c; obtain ⟨q,n⟩:=c; cases q <;> rfl
theorem wp_asc (C:Cm M A E s κ r P) (hk:kindOf st0 = κ) (hP:∀ x ∈ (arrOf st0).toList,P x) {st:SortSt} {lo a m:Nat} {Q:AscSt→SortSt→Prop} (hm:lo + m ≤ (arrOf st0).size) (ha:1 ≤ a) (am:a ≤ m) (b:Bs st0 lo st) (u:Up r (arrOf st) lo a)
  (h:∀ n,a ≤ n→n ≤ m→Up r (arrOf st) lo n→(n = m ∨ kr r (arrOf st) (lo + n) < kr r (arrOf st) (lo + n - 1))→Q (none,n) st):wpS M A E s (asc lo a m) Q st:=by
 unfold asc
 refine wpS_forRange (I:=fun x c st'=>st' = st∧c = (none,x)∧Up r (arrOf st) lo x) ?_ ?_ ⟨rfl,rfl,u⟩
 ·rintro x c st2 a1 a2 ⟨rfl,rfl,u2⟩
  dsimp only
  refine wpS_bind (wp_ltA C hk hP b (by omega) (by omega) ?_)
  by_cases z:kr r (arrOf st2) (lo + x) < kr r (arrOf st2) (lo + x - 1)
  ·simp only [z,decide_true,if_true]
   exact wpS_pure (h x a1 (by omega) u2 (.inr z))
  ·simp only [z,decide_false,Bool.false_eq_true,if_false]
   refine wpS_pure ⟨rfl,rfl,u2.more (by omega) ?_⟩
   rw [show lo + (x - 1) = lo + x - 1 by omega]; omega
 ·rintro c st2 ⟨rfl,rfl,u2⟩
  rw [show max a m = m by omega] at u2 ⊢
  exact h m am (Nat.le_refl _) u2 (.inl rfl)
theorem wp_tl3 (C:Cm M A E s κ r P) (hk:kindOf st0 = κ) (hP:∀ x ∈ (arrOf st0).toList,P x) {st:SortSt} {lo n m:Nat} {Q:Option Nat→SortSt→Prop} (hm:lo + m ≤ (arrOf st0).size) (h1:1 ≤ n) (nm:n ≤ m) (b:Bs st0 lo st) (u:Dw r (arrOf st) lo n)
  (h:∀ k st',Bs st0 lo st'→1 ≤ k→k ≤ m→Up r (arrOf st') lo k→Q (some k) st'):wpS M A E s (tl3 lo n m) Q st:=by
 unfold tl3
 rw [reverseSlice'_eq]
 have b2:=b.mir (i:=lo) (j:=lo + n) (Nat.le_refl _) (by omega)
 refine wpS_bind (wpS_modify (wpS_bind (wp_asc C hk hP hm h1 nm b2 (fun i j ij hj=>?_) fun k k1 k2 k3 _=>wpS_pure (h k _ b2 (by omega) k2 k3))))
 show kr r (mirror (arrOf st) lo (lo + n) ((lo + n - lo) / 2)) (lo + i) ≤ kr r (mirror (arrOf st) lo (lo + n) ((lo + n - lo) / 2)) (lo + j)
 have hz:lo + n ≤ (arrOf st).size:=by rw [b.sz]; omega
 rw [kr_mir hz,kr_mir hz,if_pos (by omega),if_pos (by omega),show lo + (lo + n) - 1 - (lo + i) = lo + (n - 1 - i) by omega,show lo + (lo + n) - 1 - (lo + j) = lo + (n - 1 - j) by omega]
 exact u _ _ (by omega) (by omega)
theorem wp_dsc (C:Cm M A E s κ r P) (hk:kindOf st0 = κ) (hP:∀ x ∈ (arrOf st0).toList,P x) {st:SortSt} {lo n m:Nat} {Q:DescSt→SortSt→Prop} (hm:lo + m ≤ (arrOf st0).size) (h1:1 ≤ n) (nm:n ≤ m) (b:Bs st0 lo st) (u:Dw r (arrOf st) lo n)
  (h:∀ k e st',Bs st0 lo st'→n ≤ k→k ≤ m→Dw r (arrOf st') lo k→e + 1 ≤ k→(∀ i,k - (e + 1) ≤ i→i < k→kr r (arrOf st') (lo + i) = kr r (arrOf st') (lo + k - 1))→Q (none,k,e) st'):wpS M A E s (dsc lo n m) Q st:=by
 unfold dsc
 refine wpS_forRange (I:=fun x c st'=>∃ e,c = (none,x,e)∧Bs st0 lo st'∧Dw r (arrOf st') lo x∧e + 1 ≤ x∧(∀ i,x - (e + 1) ≤ i→i < x→kr r (arrOf st') (lo + i) = kr r (arrOf st') (lo + x - 1))) ?_ ?_ ⟨0,rfl,b,u,by omega,fun i a c=>by congr 1; omega⟩
 ·rintro x c st2 a1 a2 ⟨e,rfl,b2,u2,e1,e2⟩
  dsimp only
  have hz:lo + x ≤ (arrOf st2).size:=by rw [b2.sz]; omega
  refine wpS_bind (wp_ltA C hk hP b2 (by omega) (by omega) ?_)
  have e3:∀ k,lo + x - (e + 1) ≤ k→k < lo + x→kr r (arrOf st2) k = kr r (arrOf st2) (lo + x - 1):=fun k p q=>by
   have:=e2 (k - lo) (by omega) (by omega)
   rwa [show lo + (k - lo) = k by omega] at this
  by_cases z:kr r (arrOf st2) (lo + x) < kr r (arrOf st2) (lo + x - 1)
  ·simp only [z,decide_true,if_true]
   have u3:Dw r (arrOf st2) lo (x + 1):=u2.more (by omega) (by rw [show lo + (x - 1) = lo + x - 1 by omega]; omega)
   by_cases g:e > 0
   ·rw [if_pos g,reverseSlice'_eq]
    exact wpS_bind (wpS_modify (wpS_pure ⟨0,rfl,b2.mir (by omega) (by omega),u3.cg (kr_mir_same hz e3),by omega,fun i p q=>by congr 1; omega⟩))
   ·rw [if_neg g]
    exact wpS_pure ⟨0,rfl,b2,u3,by omega,fun i p q=>by congr 1; omega⟩
  ·simp only [z,decide_false,Bool.false_eq_true,if_false]
   refine wpS_bind (wp_ltA C hk hP b2 (by omega) (by omega) ?_)
   by_cases y:kr r (arrOf st2) (lo + x - 1) < kr r (arrOf st2) (lo + x)
   ·simp only [y,decide_true,if_true]
    exact wpS_pure (h x e st2 b2 a1 (by omega) u2 e1 e2)
   ·simp only [y,decide_false,Bool.false_eq_true,if_false]
    refine wpS_pure ⟨e + 1,rfl,b2,u2.more (by omega) (by rw [show lo + (x - 1) = lo + x - 1 by omega]; omega),by omega,fun i p q=>?_⟩
    rw [show lo + (x + 1) - 1 = lo + x by omega]
    rcases Nat.lt_or_ge i x with w | w
    ·have:=e2 i (by omega) w
     omega
    ·have:i = x:=by omega
     subst this; rfl
 ·rintro c st2 ⟨e,rfl,b2,u2,e1,e2⟩
  rw [show max n m = m by omega] at u2 e1 e2 ⊢
  exact h m e st2 b2 nm (Nat.le_refl _) u2 e1 e2
theorem wp_dpt (C:Cm M A E s κ r P) (hk:kindOf st0 = κ) (hP:∀ x ∈ (arrOf st0).toList,P x) {st:SortSt} {lo n m:Nat} {Q:Option Nat→SortSt→Prop} (hm:lo + m ≤ (arrOf st0).size) (nm:n + 1 ≤ m) (b:Bs st0 lo st) (u:Dw r (arrOf st) lo (n + 1))
  (h:∀ k st',Bs st0 lo st'→1 ≤ k→k ≤ m→Up r (arrOf st') lo k→Q (some k) st'):wpS M A E s (dpt lo n m) Q st:=by
 unfold dpt
 refine wpS_bind (wpS_lift (wpAny_rule ⟨rfl,?_⟩))
 refine wpS_bind (wp_dsc C hk hP hm (by omega) nm b u fun k e st2 b2 k1 k2 u2 e1 e2=>?_)
 dsimp only
 have hz:lo + k ≤ (arrOf st2).size:=by rw [b2.sz]; omega
 have e3:∀ i,lo + k - (e + 1) ≤ i→i < lo + k→kr r (arrOf st2) i = kr r (arrOf st2) (lo + k - 1):=fun i p q=>by
  have:=e2 (i - lo) (by omega) (by omega)
  rwa [show lo + (i - lo) = i by omega] at this
 by_cases g:e > 0
 ·rw [if_pos g,reverseSlice'_eq]
  exact wpS_bind (wpS_modify (wp_tl3 C hk hP hm (by omega) k2 (b2.mir (by omega) (by omega)) (u2.cg (kr_mir_same hz e3)) h))
 ·rw [if_neg g]
  exact wp_tl3 C hk hP hm (by omega) k2 b2 u2 h
theorem wp_cR (C:Cm M A E s κ r P) (hk:kindOf st0 = κ) (hP:∀ x ∈ (arrOf st0).toList,P x) {st:SortSt} {lo m:Nat} {Q:Option Nat→SortSt→Prop} (hm:lo + m ≤ (arrOf st0).size) (h1:1 ≤ m) (b:Bs st0 lo st)
  (h:∀ k st',Bs st0 lo st'→1 ≤ k→k ≤ m→Up r (arrOf st') lo k→Q (some k) st'):wpS M A E s (countRun' lo m) Q st:=by
 rw [cR_eq]
 refine wpS_bind (wp_asc C hk hP hm (Nat.le_refl 1) h1 b Up.one fun n n1 n2 u hor=>?_)
 dsimp only
 by_cases g:n = m
 ·rw [if_pos (by simpa using g)]
  exact wpS_pure (h n st b n1 n2 u)
 ·rw [if_neg (by simpa using g)]
  have hlt:=hor.resolve_left g
  have hz:lo + n ≤ (arrOf st).size:=by rw [b.sz]; omega
  by_cases g2:n > 1
  ·rw [if_pos g2]
   refine wpS_bind (wp_ltA C hk hP b (by omega) (by omega) ?_)
   by_cases z:kr r (arrOf st) lo < kr r (arrOf st) (lo + n - 1)
   ·simp only [z,decide_true,if_true]
    exact wpS_pure (h n st b n1 n2 u)
   ·simp only [z,decide_false,Bool.false_eq_true,if_false]
    have all:∀ k,lo ≤ k→k < lo + n→kr r (arrOf st) k = kr r (arrOf st) lo:=fun k p q=>by
     have e1:=u 0 (k - lo) (by omega) (by omega)
     have e2:=u (k - lo) (n - 1) (by omega) (by omega)
     rw [show lo + (k - lo) = k by omega] at e1 e2
     rw [show lo + (n - 1) = lo + n - 1 by omega] at e2
     rw [Nat.add_zero] at e1
     omega
    have d:Dw r (arrOf st) lo n:=fun i j ij hj=>by rw [all _ (by omega) (by omega),all (lo + i) (by omega) (by omega)]; exact Int.le_refl _
    rw [reverseSlice'_eq]
    refine wpS_bind (wpS_modify (wp_dpt C hk hP hm (by omega) (b.mir (by omega) (by omega)) ((d.more (by omega) ?_).cg (kr_mir_same hz all)) h))
    rw [show lo + (n - 1) = lo + n - 1 by omega]; omega
  ·rw [if_neg g2]
   have:n = 1:=by omega
   subst this
   refine wp_dpt C hk hP hm (by omega) b (Dw.more (fun i j ij hj=>?_) (by omega) ?_) h
   ·have:i = j:=by omega
    subst this; exact Int.le_refl _
   ·rw [show lo + (1 - 1) = lo + 1 - 1 by omega]; omega
end
def Pn (r:Keyed→Int):Nat→List (Nat × Nat × Nat)→List (List Keyed)→Prop
 | _,[],[]=>True
 | b,p :: ps,X :: Xs=>p.1 = b∧p.2.1 = X.length∧0 < X.length∧Srt r X∧Pn r (b + X.length) ps Xs
 | _,_,_=>False
theorem Pn.len {r:Keyed→Int}:∀ {b ps Xs},Pn r b ps Xs→ps.length = Xs.length∧Xs.length ≤ Xs.flatten.length
 | _,[],[],_=>⟨rfl,Nat.le_refl _⟩
 | _,p :: ps,X :: Xs,h=>by
  have:=Pn.len h.2.2.2.2
  simp only [List.length_cons,List.flatten_cons,List.length_append]
  have:=h.2.2.1
  omega
 | _,[],_ :: _,h=>h.elim
 | _,_ :: _,[],h=>h.elim
theorem Pn.two {r:Keyed→Int}:∀ {i b ps Xs u n w v m w'},Pn r b ps Xs→ps[i]? = some (u,n,w)→ps[i + 1]? = some (v,m,w') →
  ∃ A X Y B,Xs = A ++ X :: Y :: B∧u = b + A.flatten.length∧n = X.length∧v = u + X.length∧m = Y.length∧Srt r X∧Srt r Y∧0 < X.length∧0 < Y.length ∧
   ∀ Z,Srt r Z→Z.length = n + m→Pn r b ((ps.set i (u,n + m,w)).eraseIdx (i + 1)) (A ++ Z :: B)
 | 0,b,p :: q :: ps,X :: Y :: Xs,u,n,w,v,m,w',h,e1,e2=>by
  obtain ⟨a1,a2,a3,a4,c1,c2,c3,c4,c5⟩:=h
  simp only [List.getElem?_cons_zero,List.getElem?_cons_succ,Option.some.injEq] at e1 e2
  subst e1 e2
  dsimp only at a1 a2 c1 c2
  refine ⟨[],X,Y,Xs,rfl,by simpa using a1,a2,by omega,c2,a4,c4,a3,c3,fun Z sz lz=>?_⟩
  refine ⟨a1,lz.symm,by omega,sz,?_⟩
  rw [lz,a2,c2,← Nat.add_assoc]; exact c5
 | i + 1,b,p :: ps,X :: Xs,u,n,w,v,m,w',h,e1,e2=>by
  obtain ⟨a1,a2,a3,a4,a5⟩:=h
  rw [List.getElem?_cons_succ] at e1 e2
  obtain ⟨A,X',Y,B,rfl,c2,c3,c4,c5,c6,c7,c8,c9,c10⟩:=Pn.two a5 e1 e2
  refine ⟨X :: A,X',Y,B,rfl,by rw [List.flatten_cons,List.length_append]; omega,c3,c4,c5,c6,c7,c8,c9,fun Z sz lz=>?_⟩
  exact ⟨a1,a2,a3,a4,c10 Z sz lz⟩
 | 0,_,[],_,_,_,_,_,_,_,_,e1,_=>by simp at e1
 | _ + 1,_,[],_,_,_,_,_,_,_,_,e1,_=>by simp at e1
 | 0,_,[_],_,_,_,_,_,_,_,_,_,e2=>by simp at e2
 | 0,_,_ :: _ :: _,[],_,_,_,_,_,_,h,_,_=>h.elim
 | 0,_,_ :: _ :: _,[_],_,_,_,_,_,_,h,_,_=>h.2.2.2.2.elim
 | _ + 1,_,_ :: _,[],_,_,_,_,_,_,h,_,_=>h.elim
theorem Pn.push {r:Keyed→Int} {X:List Keyed} {w:Nat} (hx:0 < X.length) (sx:Srt r X):∀ {b ps Xs},Pn r b ps Xs→Pn r b (ps ++ [(b + Xs.flatten.length,X.length,w)]) (Xs ++ [X])
 | _,[],[],_=>⟨by simp,rfl,hx,sx,trivial⟩
 | b,p :: ps,Y :: Xs,h=>by
  have:=Pn.push (w:=w) hx sx h.2.2.2.2
  refine ⟨h.1,h.2.1,h.2.2.1,h.2.2.2.1,?_⟩
  rw [List.flatten_cons,List.length_append,← Nat.add_assoc]; exact this
 | _,[],_ :: _,h=>h.elim
 | _,_ :: _,[],h=>h.elim
theorem Pn.cg {r:Keyed→Int}:∀ {b ps qs Xs},Pn r b ps Xs→ps.map (fun p=>(p.1,p.2.1)) = qs.map (fun p=>(p.1,p.2.1))→Pn r b qs Xs
 | _,[],[],[],_,_=>trivial
 | _,p :: ps,q :: qs,X :: Xs,h,e=>by
  simp only [List.map_cons,List.cons.injEq,Prod.mk.injEq] at e
  exact ⟨by rw [← e.1.1]; exact h.1,by rw [← e.1.2]; exact h.2.1,h.2.2.1,h.2.2.2.1,Pn.cg h.2.2.2.2 e.2⟩
 | _,[],_ :: _,_,_,e=>by simp at e
 | _,_ :: _,[],_,_,e=>by simp at e
 | _,[],[],_ :: _,h,_=>h.elim
 | _,_ :: _,_ :: _,[],h,_=>h.elim
structure Jr (κ:SortKind) (r:Keyed→Int) (a0:Array Keyed) (lo:Nat) (st:SortSt):Prop where
 kd:kindOf st = κ
 fl:failedOf st = none
 pm:(arrOf st).Perm a0
 rn:∃ Xs rest,(arrOf st).toList = Xs.flatten ++ rest∧Xs.flatten.length = lo∧Pn r 0 (pendingOf st).toList Xs
theorem Jr.le {κ:SortKind} {r:Keyed→Int} {a0:Array Keyed} {lo:Nat} {st:SortSt} (j:Jr κ r a0 lo st):(pendingOf st).size ≤ lo:=by
 obtain ⟨Xs,rest,e,l,p⟩:=j.rn
 have:=p.len
 rw [Array.length_toList] at this
 omega
theorem srt_of {r:Keyed→Int} {xs:Array Keyed} {lo n:Nat} {pre Y post:List Keyed} (u:Up r xs lo n) (e:xs.toList = pre ++ Y ++ post) (hp:pre.length = lo) (hy:Y.length = n):Srt r Y:=by
 refine List.pairwise_iff_getElem.mpr fun i j hi hj ij=>?_
 have g:∀ k (h:k < Y.length),kr r xs (lo + k) = r Y[k]:=fun k h=>by
  subst hp
  obtain ⟨q,e1⟩:=at_mid e h
  unfold kr
  rw [Array.getElem?_eq_getElem q,e1]; rfl
 have:=u i j (by omega) (by omega)
 rw [g i hi,g j hj] at this
 exact this
section
variable {M:Model} {A:Around} {E:Value→Shared→Prop} {s:Shared} {κ:SortKind} {r:Keyed→Int} {P:Keyed→Prop} {a0:Array Keyed}
theorem wp_mergeJ (C:Cm M A E s κ r P) (hP:∀ x ∈ a0.toList,P x) {st:SortSt} {lo i:Nat} (j:Jr κ r a0 lo st) (hi:i + 1 < (pendingOf st).size) {Q:Bool→SortSt→Prop}
  (h:∀ st',Jr κ r a0 lo st'→(pendingOf st').size + 1 = (pendingOf st).size→Q true st'):wpS M A E s (mergeAt' i) Q st:=by
 obtain ⟨Xs,rest,e,l,p⟩:=j.rn
 have g1:(pendingOf st)[i]? = some (pendingOf st)[i]:=Array.getElem?_eq_getElem (by omega)
 have g2:(pendingOf st)[i + 1]? = some (pendingOf st)[i + 1]:=Array.getElem?_eq_getElem hi
 rcases hpi:(pendingOf st)[i] with ⟨u,n,w⟩
 rcases hpj:(pendingOf st)[i + 1] with ⟨v,m,w'⟩
 rw [hpi] at g1; rw [hpj] at g2
 obtain ⟨X1,X,Y,X2,rfl,c2,c3,c4,c5,c6,c7,c8,c9,c10⟩:=p.two (i:=i) (by rw [Array.getElem?_toList]; exact g1) (by rw [Array.getElem?_toList]; exact g2)
 rw [Nat.zero_add] at c2
 refine wp_mAt C (pre:=X1.flatten) (X:=X) (Y:=Y) (post:=X2.flatten ++ rest) j.kd j.fl g1 g2 ?_ (fun x hx=>hP _ ((Array.perm_iff_toList_perm.mp j.pm).mem_iff.mp hx)) c2 c3 (by omega) c5 c6 c7 c8 c9 fun Z arr g z1 z2 z3=>?_
 ·rw [e]; simp
 ·have lz:Z.length = n + m:=by rw [z1.length_eq,List.length_append]; omega
  refine h _ ⟨rfl,rfl,?_,X1 ++ Z :: X2,rest,by rw [z3]; simp,?_,?_⟩ ?_
  ·refine Array.Perm.trans ?_ j.pm
   rw [Array.perm_iff_toList_perm,z3,e]
   simp only [List.flatten_append,List.flatten_cons,List.append_assoc]
   refine List.Perm.append_left _ ?_
   rw [← List.append_assoc X Y]
   exact List.Perm.append_right _ z1
  ·rw [← l]; simp only [List.flatten_append,List.flatten_cons,List.length_append]; omega
  ·have:=c10 Z z2 lz
   show Pn r 0 (((pendingOf st).setIfInBounds i (u,n + m,w)).eraseIdxIfInBounds (i + 1)).toList _
   have hs:i + 1 < ((pendingOf st).setIfInBounds i (u,n + m,w)).size:=by simpa using hi
   rw [Array.eraseIdxIfInBounds,dif_pos hs,Array.toList_eraseIdx,Array.toList_setIfInBounds]
   exact this
  ·show (((pendingOf st).setIfInBounds i (u,n + m,w)).eraseIdxIfInBounds (i + 1)).size + 1 = _
   have hs:i + 1 < ((pendingOf st).setIfInBounds i (u,n + m,w)).size:=by simpa using hi
   rw [Array.eraseIdxIfInBounds,dif_pos hs,Array.size_eraseIdx]
   simp; omega
end
section
variable {M:Model} {A:Around} {E:Value→Shared→Prop} {s:Shared} {κ:SortKind} {r:Keyed→Int} {P:Keyed→Prop} {a0:Array Keyed}
theorem split_at {l:List Keyed} {a b:Nat} (h:a + b ≤ l.length):∃ u v w,l = u ++ v ++ w∧u.length = a∧v.length = b:=by
 refine ⟨l.take a,(l.drop a).take b,(l.drop a).drop b,?_,?_,?_⟩
 ·rw [List.append_assoc,List.take_append_drop,List.take_append_drop]
 ·rw [List.length_take]; omega
 ·rw [List.length_take,List.length_drop]; omega
theorem Bs.jr {st0 st:SortSt} {lo n:Nat} (j:Jr κ r a0 lo st0) (b:Bs st0 lo st) (u:Up r (arrOf st) lo n) (h1:1 ≤ n) (hn:lo + n ≤ a0.size) :
  Jr κ r a0 lo st∧∃ Xs Y rest,(arrOf st).toList = Xs.flatten ++ Y ++ rest∧Xs.flatten.length = lo∧Y.length = n∧Srt r Y∧Pn r 0 (pendingOf st).toList Xs:=by
 obtain ⟨Xs,rest,e,l,p⟩:=j.rn
 have sz:(arrOf st0).size = a0.size:=j.pm.size_eq
 have hs:(arrOf st).toList.length = a0.size:=by rw [Array.length_toList,b.sz,sz]
 obtain ⟨f,v,w,e1,l1,l2⟩:=split_at (l:=(arrOf st).toList) (a:=lo) (b:=n) (by omega)
 have ef:f = Xs.flatten:=by
  refine List.ext_getElem (by omega) fun i i1 i2=>?_
  have:=b.ah i (by omega)
  rw [← Array.getElem?_toList,← Array.getElem?_toList,e1,e,List.append_assoc,List.getElem?_append_left i1,List.getElem?_append_left i2,List.getElem?_eq_getElem i1,List.getElem?_eq_getElem i2] at this
  exact Option.some.inj this
 subst ef
 have pp:Pn r 0 (pendingOf st).toList Xs:=by rw [b.eq]; exact p
 refine ⟨⟨by rw [b.eq]; exact j.kd,by rw [b.eq]; exact j.fl,b.pm.trans j.pm,Xs,v ++ w,by rw [e1,List.append_assoc],l,pp⟩,Xs,v,w,e1,l,l2,srt_of u e1 l1 l2,pp⟩
def K7 (κ:SortKind) (r:Keyed→Int) (a0:Array Keyed) (lo:Nat) (Y rest:List Keyed) (st:SortSt):Prop :=
 ∃ Xs,kindOf st = κ∧failedOf st = none∧(arrOf st).Perm a0∧(arrOf st).toList = Xs.flatten ++ Y ++ rest∧Xs.flatten.length = lo∧Pn r 0 (pendingOf st).toList Xs
theorem wp_merge7 (C:Cm M A E s κ r P) (hP:∀ x ∈ a0.toList,P x) {st:SortSt} {lo i:Nat} {Y0 rest:List Keyed} (j:K7 κ r a0 lo Y0 rest st) (hi:i + 1 < (pendingOf st).size) {Q:Bool→SortSt→Prop}
  (h:∀ st',K7 κ r a0 lo Y0 rest st'→(pendingOf st').size + 1 = (pendingOf st).size→Q true st'):wpS M A E s (mergeAt' i) Q st:=by
 obtain ⟨Xs,jkd,jfl,jpm,e,l,p⟩:=j
 have g1:(pendingOf st)[i]? = some (pendingOf st)[i]:=Array.getElem?_eq_getElem (by omega)
 have g2:(pendingOf st)[i + 1]? = some (pendingOf st)[i + 1]:=Array.getElem?_eq_getElem hi
 rcases hpi:(pendingOf st)[i] with ⟨u,n,w⟩
 rcases hpj:(pendingOf st)[i + 1] with ⟨v,m,w'⟩
 rw [hpi] at g1; rw [hpj] at g2
 obtain ⟨X1,X,Y,X2,rfl,c2,c3,c4,c5,c6,c7,c8,c9,c10⟩:=p.two (i:=i) (by rw [Array.getElem?_toList]; exact g1) (by rw [Array.getElem?_toList]; exact g2)
 rw [Nat.zero_add] at c2
 refine wp_mAt C (pre:=X1.flatten) (X:=X) (Y:=Y) (post:=X2.flatten ++ Y0 ++ rest) jkd jfl g1 g2 ?_ (fun x hx=>hP _ ((Array.perm_iff_toList_perm.mp jpm).mem_iff.mp hx)) c2 c3 (by omega) c5 c6 c7 c8 c9 fun Z arr g z1 z2 z3=>?_
 ·rw [e]; simp
 ·have lz:Z.length = n + m:=by rw [z1.length_eq,List.length_append]; omega
  refine h _ ⟨X1 ++ Z :: X2,rfl,rfl,?_,by rw [z3]; simp,?_,?_⟩ ?_
  ·refine Array.Perm.trans ?_ jpm
   rw [Array.perm_iff_toList_perm,z3,e]
   simp only [List.flatten_append,List.flatten_cons,List.append_assoc]
   refine List.Perm.append_left _ ?_
   rw [← List.append_assoc X Y]
   exact List.Perm.append_right _ z1
  ·rw [← l]; simp only [List.flatten_append,List.flatten_cons,List.length_append]; omega
  ·have:=c10 Z z2 lz
   show Pn r 0 (((pendingOf st).setIfInBounds i (u,n + m,w)).eraseIdxIfInBounds (i + 1)).toList _
   have hs:i + 1 < ((pendingOf st).setIfInBounds i (u,n + m,w)).size:=by simpa using hi
   rw [Array.eraseIdxIfInBounds,dif_pos hs,Array.toList_eraseIdx,Array.toList_setIfInBounds]
   exact this
  ·show (((pendingOf st).setIfInBounds i (u,n + m,w)).eraseIdxIfInBounds (i + 1)).size + 1 = _
   have hs:i + 1 < ((pendingOf st).setIfInBounds i (u,n + m,w)).size:=by simpa using hi
   rw [Array.eraseIdxIfInBounds,dif_pos hs,Array.size_eraseIdx]
   simp; omega
theorem modify_keep (f:Nat × Nat × Nat→Nat × Nat × Nat):∀ (l:List (Nat × Nat × Nat)) (i:Nat),(∀ x,((f x).1,(f x).2.1) = (x.1,x.2.1))→(l.modify i f).map (fun p=>(p.1,p.2.1)) = l.map (fun p=>(p.1,p.2.1))
 | [],i,_=>by simp
 | x :: l,0,h=>by simp [List.modify_zero_cons] ; have:=h x; simpa using this
 | x :: l,i + 1,h=>by rw [List.modify_succ_cons,List.map_cons,List.map_cons,modify_keep f l i h]
theorem wp_sortAll (C:Cm M A E s κ r P) {st:SortSt} {Q:Unit→SortSt→Prop} (hP:∀ x ∈ (arrOf st).toList,P x) (hk:kindOf st = κ) (hf:failedOf st = none) (hp:pendingOf st = #[])
  (h:∀ st',(arrOf st').toList.Perm (arrOf st).toList→failedOf st' = none→Srt r (arrOf st').toList→Q () st'):wpS M A E s sortRuns' Q st:=by
 rw [sortRuns'_eq]
 refine wpS_bind (wpS_get ?_)
 dsimp only
 generalize hz:(arrOf st).size = z
 generalize minRun' z z 0 = mr
 have j0:Jr κ r (arrOf st) 0 st:=⟨hk,hf,Array.Perm.refl _,[],(arrOf st).toList,rfl,rfl,by rw [hp]; trivial⟩
 refine wpS_bind (wpS_mono (wpS_forRange (I:=fun x c st'=>∃ lo,c = (none,lo)∧x ≤ lo∧lo ≤ z∧Jr κ r (arrOf st) lo st')
  (Q:=fun c st'=>c = (none,z)∧Jr κ r (arrOf st) z st') ?_ ?_ ⟨0,rfl,Nat.le_refl _,Nat.zero_le _,j0⟩) ?_)
 ·rintro x c st2 _ hx ⟨lo,rfl,a1,a2,j⟩
  dsimp only
  by_cases g:lo ≥ z
  ·rw [if_pos g]
   have:lo = z:=by omega
   subst this
   exact wpS_pure ⟨rfl,j⟩
  rw [if_neg g]
  have sz:(arrOf st2).size = z:=by rw [j.pm.size_eq,hz]
  have hP2:∀ x ∈ (arrOf st2).toList,P x:=fun x hx=>hP _ ((Array.perm_iff_toList_perm.mp j.pm).mem_iff.mp hx)
  refine wpS_bind (wp_cR C j.kd hP2 (by omega) (by omega) (Bs.start st2 lo) fun n st3 b3 h1 hn u3=>?_)
  dsimp only
  have hn:lo + n ≤ z:=by omega
  by_cases g2:n < mr
  ·rw [if_pos g2]
   refine wpS_bind (wpS_lift (wpAny_rule ⟨rfl,?_⟩))
   refine wpS_bind (wp_bin C j.kd hP2 (by omega) (by omega) (by omega) b3 u3 fun st3 b3 u3=>?_)
   simp only [Bool.not_true,Bool.false_eq_true,if_false]
   have h1:1 ≤ min (z - lo) mr:=by omega
   have hn:lo + min (z - lo) mr ≤ z:=by omega
   generalize min (z - lo) mr = n at u3 h1 hn ⊢
   obtain ⟨j3,Xs,Y,rest,e,l,ly,sy,p⟩:=b3.jr j u3 h1 (by omega)
   refine wpS_bind (wpS_get ?_)
   have fin:∀ (st4:SortSt),(∃ Xs,kindOf st4 = κ∧failedOf st4 = none∧(arrOf st4).Perm (arrOf st)∧(arrOf st4).toList = Xs.flatten ++ Y ++ rest∧Xs.flatten.length = lo∧Pn r 0 (pendingOf st4).toList Xs) →
     Jr κ r (arrOf st) (lo + n) (setPending st4 ((pendingOf st4).push (lo,n,0))):=by
    rintro st4 ⟨Xs,k1,k2,k3,k4,k5,k6⟩
    refine ⟨k1,k2,k3,Xs ++ [Y],rest,by show (arrOf st4).toList = _; rw [k4]; simp,by rw [List.flatten_append,List.length_append,k5]; simp [ly],?_⟩
    show Pn r 0 ((pendingOf st4).push (lo,n,0)).toList (Xs ++ [Y])
    rw [Array.toList_push]
    have:=k6.push (w:=0) (X:=Y) (by omega) sy
    rw [Nat.zero_add,k5,ly] at this
    exact this
   cases hb:(pendingOf st3).back? with
   | none =>
    dsimp only
    exact wpS_bind (wpS_modify (wpS_pure ⟨lo + n,rfl,by omega,hn,fin st3 ⟨Xs,j3.kd,j3.fl,j3.pm,e,l,p⟩⟩))
   | some q =>
    obtain ⟨s1,n1,w1⟩:=q
    dsimp only
    generalize power' z (2 * s1 + n1) (2 * s1 + n1 + n1 + n) z = pw
    refine wpS_bind (wpS_mono (wpS_forRange (I:=fun _ c st'=>c = (none,())∧K7 κ r (arrOf st) lo Y rest st') (Q:=fun c st'=>c = (none,())∧K7 κ r (arrOf st) lo Y rest st') ?_ (fun _ _ q=>q) ⟨rfl,Xs,j3.kd,j3.fl,j3.pm,e,l,p⟩) ?_)
    ·rintro y c st5 _ _ ⟨rfl,k7⟩
     refine wpS_bind (wpS_get ?_)
     split
     ·rename_i o1 o2 older ho
      split
      ·exact wpS_pure ⟨rfl,k7⟩
      ·have hs:(pendingOf st5).size > 1:=by
        by_cases g9:(pendingOf st5).size > 1
        ·exact g9
        ·rw [if_neg g9] at ho; cases ho
       refine wpS_bind (wp_merge7 C hP k7 (by omega) fun st6 k8 _=>?_)
       simp only [Bool.not_true,Bool.false_eq_true,if_false]
       exact wpS_pure ⟨rfl,k8⟩
     ·exact wpS_pure ⟨rfl,k7⟩
    ·rintro c st5 ⟨rfl,Ys,k1,k2,k3,k4,k5,k6⟩
     dsimp only
     refine wpS_bind (wpS_modify (wpS_bind (wpS_modify (wpS_pure ⟨lo + n,rfl,by omega,hn,?_⟩))))
     refine fin (setPending st5 _) ⟨Ys,k1,k2,k3,k4,k5,k6.cg ?_⟩
     show _ = List.map _ ((pendingOf st5).modify _ _).toList
     rw [Array.toList_modify]
     exact (modify_keep (fun x=>(x.1,x.2.1,pw)) _ _ fun x=>rfl).symm
  ·rw [if_neg g2]
   obtain ⟨j3,Xs,Y,rest,e,l,ly,sy,p⟩:=b3.jr j u3 h1 (by omega)
   refine wpS_bind (wpS_get ?_)
   have fin:∀ (st4:SortSt),(∃ Xs,kindOf st4 = κ∧failedOf st4 = none∧(arrOf st4).Perm (arrOf st)∧(arrOf st4).toList = Xs.flatten ++ Y ++ rest∧Xs.flatten.length = lo∧Pn r 0 (pendingOf st4).toList Xs) →
     Jr κ r (arrOf st) (lo + n) (setPending st4 ((pendingOf st4).push (lo,n,0))):=by
    rintro st4 ⟨Xs,k1,k2,k3,k4,k5,k6⟩
    refine ⟨k1,k2,k3,Xs ++ [Y],rest,by show (arrOf st4).toList = _; rw [k4]; simp,by rw [List.flatten_append,List.length_append,k5]; simp [ly],?_⟩
    show Pn r 0 ((pendingOf st4).push (lo,n,0)).toList (Xs ++ [Y])
    rw [Array.toList_push]
    have:=k6.push (w:=0) (X:=Y) (by omega) sy
    rw [Nat.zero_add,k5,ly] at this
    exact this
   cases hb:(pendingOf st3).back? with
   | none =>
    dsimp only
    exact wpS_bind (wpS_modify (wpS_pure ⟨lo + n,rfl,by omega,hn,fin st3 ⟨Xs,j3.kd,j3.fl,j3.pm,e,l,p⟩⟩))
   | some q =>
    obtain ⟨s1,n1,w1⟩:=q
    dsimp only
    generalize power' z (2 * s1 + n1) (2 * s1 + n1 + n1 + n) z = pw
    refine wpS_bind (wpS_mono (wpS_forRange (I:=fun _ c st'=>c = (none,())∧K7 κ r (arrOf st) lo Y rest st') (Q:=fun c st'=>c = (none,())∧K7 κ r (arrOf st) lo Y rest st') ?_ (fun _ _ q=>q) ⟨rfl,Xs,j3.kd,j3.fl,j3.pm,e,l,p⟩) ?_)
    ·rintro y c st5 _ _ ⟨rfl,k7⟩
     refine wpS_bind (wpS_get ?_)
     split
     ·rename_i o1 o2 older ho
      split
      ·exact wpS_pure ⟨rfl,k7⟩
      ·have hs:(pendingOf st5).size > 1:=by
        by_cases g9:(pendingOf st5).size > 1
        ·exact g9
        ·rw [if_neg g9] at ho; cases ho
       refine wpS_bind (wp_merge7 C hP k7 (by omega) fun st6 k8 _=>?_)
       simp only [Bool.not_true,Bool.false_eq_true,if_false]
       exact wpS_pure ⟨rfl,k8⟩
     ·exact wpS_pure ⟨rfl,k7⟩
    ·rintro c st5 ⟨rfl,Ys,k1,k2,k3,k4,k5,k6⟩
     dsimp only
     refine wpS_bind (wpS_modify (wpS_bind (wpS_modify (wpS_pure ⟨lo + n,rfl,by omega,hn,?_⟩))))
     refine fin (setPending st5 _) ⟨Ys,k1,k2,k3,k4,k5,k6.cg ?_⟩
     show _ = List.map _ ((pendingOf st5).modify _ _).toList
     rw [Array.toList_modify]
     exact (modify_keep (fun x=>(x.1,x.2.1,pw)) _ _ fun x=>rfl).symm
 ·rintro c st2 ⟨lo,rfl,a1,a2,j⟩
  have:lo = z:=by omega
  subst this
  exact ⟨rfl,j⟩
 ·rintro c st2 ⟨rfl,j⟩
  dsimp only
  refine wpS_bind (wpS_mono (wpS_forRange (I:=fun x c st'=>c = (none,())∧Jr κ r (arrOf st) z st'∧(pendingOf st').size ≤ max 1 (z - x)) (Q:=fun c st'=>c = (none,())∧Jr κ r (arrOf st) z st'∧(pendingOf st').size ≤ 1) ?_ ?_ ⟨rfl,j,by have:=j.le; omega⟩) ?_)
  ·rintro x c st3 _ hx ⟨rfl,j3,k3⟩
   refine wpS_bind (wpS_get ?_)
   by_cases g:(pendingOf st3).size ≤ 1
   ·rw [if_pos g]; exact wpS_pure ⟨rfl,j3,g⟩
   rw [if_neg g]
   refine wpS_bind (wp_mergeJ C hP j3 ?_ fun st4 j4 k4=>?_)
   ·have two:∀ (q:Prop) [Decidable q] (m:Nat),(if q then m - 1 else m) ≤ m:=fun q _ m=>by split <;> omega
    exact Nat.lt_of_le_of_lt (Nat.succ_le_succ (two _ _)) (by omega)
   ·simp only [Bool.not_true,Bool.false_eq_true,if_false]
    exact wpS_pure ⟨rfl,j4,by omega⟩
  ·rintro c st3 ⟨rfl,j3,k3⟩
   exact ⟨rfl,j3,by omega⟩
  ·rintro c st3 ⟨rfl,j3,k3⟩
   refine wpS_pure (h st3 (Array.perm_iff_toList_perm.mp j3.pm) j3.fl ?_)
   obtain ⟨Xs,rest,e,l,p⟩:=j3.rn
   have hl:=p.len
   have hr:rest = []:=by
    have:(arrOf st3).toList.length = z:=by rw [Array.length_toList,j3.pm.size_eq,hz]
    rw [e,List.length_append,l] at this
    exact List.length_eq_zero_iff.mp (by omega)
   subst hr
   rw [Array.length_toList] at hl
   rw [e,List.append_nil]
   match hps:(pendingOf st3).toList,Xs,p with
   | _,[],_=>exact List.Pairwise.nil
   | q :: qs,[X],p=>rw [List.flatten_cons,List.flatten_nil,List.append_nil]; exact p.2.2.2.1
   | _,_ :: _ :: _,p=>simp at hl; omega
end
section
variable {prog:Program} {w:World} {A:Around} {E:Value→Shared→Prop} {s:Shared} {κ:SortKind} {r:Keyed→Int} {P:Keyed→Prop}
theorem sort_any {a:Addr} {vs:List Value} {n:Nat} {R:Fin→Shared→Prop} (ho:s.heap.get? a = some (seqObj "list" vs.toArray n)) (hl:vs.length ≤ 16777216)
  (hP:∀ v ∈ vs,P (v,v))
  (hk:∀ h':Heap,(∀ b o,b ≠ a→s.heap.get? b = some o→h'.get? b = some o)→∀ Q:SortKind→Shared→Prop,Q κ { s with heap:=h' }→2 ≤ vs.length→wpAny (model prog w) A (keyKind' vs.toArray) Q E { s with heap:=h' })
  (hC:∀ h':Heap,(∀ b o,b ≠ a→s.heap.get? b = some o→h'.get? b = some o)→Cm (model prog w) A E { s with heap:=h' } κ r P)
  (h:∀ ks:List Keyed,ks.Perm (vs.map fun v=>(v,v))→Srt r ks→R (.done (.ret .none)) { s with heap:=sortedHeap s.heap a vs (ks.map (·.2)).toArray }) :
  wpAny (model prog w) A (Builtin.«list.sort» ⟨[.ref a],[]⟩) R E s:=by
 rw [list_sort_plain]
 have la:a < s.heap.objs.size:=Heap.lt_size ho
 have hz:vs.toArray.size = vs.length:=by simp
 have zp:vs.toArray.zip vs.toArray = (vs.map fun v=>(v,v)).toArray:=by
  apply Array.toList_inj.mp
  simp
  clear ho hl hP hk hC h hz
  induction vs with
  | nil=>rfl
  | cons v vs ih=>simp [ih]
 obtain ⟨e1,o1⟩:∃ e1,(s.heap.update a (Obj.mapSeq fun _=>#[])).get? a = some (seqObj "list" #[] e1):=⟨_,get?_update_seq ho (fun _=>#[])⟩
 refine wpAny_bind (listItems_at ho rfl (wpAny_bind (listUpdate_at ho rfl ?_ (hsz:=by rw [hz,sizeLine_eq]; exact hl))))
 refine wpAny_bind (seqEpoch_at o1 rfl (wpAny_bind (wpAny_newTuple (wpAny_bind (wpAny_newList (wpAny_holding ?_))) (by rw [sizeLine_eq]; simpa using hl))))
 generalize hh:((s.heap.update a (Obj.mapSeq fun _=>#[])).push (seqObj "tuple" vs.toArray 0)).push (seqObj "list" #[] 0) = h6
 have o6:h6.get? a = some (seqObj "list" #[] e1):=by
  subst hh
  rw [Heap.get?_push_ne _ _ _ (by rw [size_push',Heap.size_update]; exact Nat.ne_of_lt (Nat.lt_succ_of_lt la)),Heap.get?_push_ne _ _ _ (by rw [Heap.size_update]; exact Nat.ne_of_lt la),o1]
 have kp:∀ b o,b ≠ a→s.heap.get? b = some o→h6.get? b = some o:=fun b o hb q=>by
  have lb:=Heap.lt_size q
  subst hh
  rw [Heap.get?_push_ne _ _ _ (by rw [size_push',Heap.size_update]; exact Nat.ne_of_lt (Nat.lt_succ_of_lt lb)),Heap.get?_push_ne _ _ _ (by rw [Heap.size_update]; exact Nat.ne_of_lt lb),Heap.get?_update_ne _ _ _ _ hb,q]
 have hf:∀ out:Array Value,h6.update a (Obj.mapSeq fun _=>out) = sortedHeap s.heap a vs out:=fun out=>by subst hh; rfl
 refine (show wpAny (model prog w) A _ R E { s with heap:=h6 } from ?_)
 dsimp only
 rw [zp]
 by_cases g:vs.toArray.size < 2
 ·rw [if_pos g,if_pos g]
  refine wpAny_bind (wpAny_pure ?_)
  rw [StateT.run_pure]
  refine wpAny_bind (wpAny_pure (wpAny_bind (seqEpoch_at o6 rfl (wpAny_bind (listUpdate_at o6 rfl ?_ (hsz2:=?_))))))
  ·simp only [bne_self_eq_false,Bool.false_eq_true,if_false]
   have:=h (vs.map fun v=>(v,v)) (List.Perm.refl _) (by
    match vs,g with
    | [],_=>exact List.Pairwise.nil
    | [v],_=>exact List.pairwise_singleton _ _
    | _ :: _ :: _,g=>simp at g; omega)
   rw [← hf] at this
   refine wpAny_pure ?_
   rw [List.map_toArray]
   exact this
  ·rw [Array.size_map,sizeLine_eq]
   show (vs.map fun v=>(v,v)).toArray.size ≤ _
   simp; omega
 ·rw [if_neg g,if_neg g]
  refine wpAny_bind (hk h6 kp _ ?_ (by omega))
  refine wpAny_bind (wpAny_mono (wp_sortAll (hC h6 kp) (st:=SortSt.mk' κ (vs.map fun v=>(v,v)).toArray #[] 7 none) (Q:=fun _ st'=>(arrOf st').toList.Perm (vs.map fun v=>(v,v))∧failedOf st' = none∧Srt r (arrOf st').toList)
   (fun x hx=>?_) rfl rfl rfl fun st' a1 a2 a3=>⟨a1,a2,a3⟩) ?_ fun _ _ e=>e)
  ·obtain ⟨v,hv,rfl⟩:=List.mem_map.mp (show x ∈ vs.map fun v=>(v,v) by simpa using hx)
   exact hP v hv
  ·rintro ⟨⟨⟩,st'⟩ s' ⟨rfl,p1,p2,p3⟩
   have lz:(arrOf st').size = vs.length:=by rw [← Array.length_toList,p1.length_eq,List.length_map]
   refine wpAny_bind (seqEpoch_at o6 rfl (wpAny_bind (listUpdate_at o6 rfl ?_ (hsz2:=?_))))
   ·rw [p2]
    simp only [bne_self_eq_false,Bool.false_eq_true,if_false]
    have:=h _ p1 p3
    rw [← hf] at this
    refine wpAny_pure ?_
    have e:(arrOf st').map (·.2) = (List.map (·.2) (arrOf st').toList).toArray:=by
     apply Array.toList_inj.mp; simp
    rw [e]; exact this
   ·rw [Array.size_map,sizeLine_eq,lz]; omega
theorem sorted_any {l:Addr} {vs:List Value} {Q:Value→Shared→Prop} (hl:s.heap.IsList l vs.toArray) (hn:vs.length ≤ 16777216)
  (hP:∀ v ∈ vs,P (v,v))
  (hk:∀ h':Heap,(∀ b o,s.heap.get? b = some o→h'.get? b = some o)→∀ Q:SortKind→Shared→Prop,Q κ { s with heap:=h' }→2 ≤ vs.length→wpAny (model prog w) A.in1.in1 (keyKind' vs.toArray) Q E { s with heap:=h' })
  (hC:∀ h':Heap,(∀ b o,s.heap.get? b = some o→h'.get? b = some o)→Cm (model prog w) A.in1.in1 E { s with heap:=h' } κ r P)
  (h:∀ ks:List Keyed,ks.Perm (vs.map fun v=>(v,v))→Srt r ks→Q (.ref (s.heap.objs.size + 1)) { s with heap:=sortedAll s.heap vs (ks.map (·.2)).toArray }) :
  wpAny (model prog w) A (call (.builtin "sorted") [.ref l]) Q E s:=by
 refine Calls.call_function_entry kind_sorted plain_sorted entry_sorted (args_sorted1 _) ?_
 unfold Builtin.«sorted»
 refine wpAny_bind (m:=checkCount "sorted" 1 1 _) (wpAny_pure (wpAny_bind (collect_list hl (wpAny_bind (wpAny_newList ?_ (by rw [sizeLine_eq]; exact hn))) (by rw [sizeLine_eq]; exact hn))))
 have hz:((s.heap.push (seqObj "list" #[] 0)).update s.heap.objs.size (Obj.mapSeq (· ++ vs.toArray))).objs.size = s.heap.objs.size + 1:=by rw [Heap.size_update,size_push']
 generalize hh:((s.heap.push (seqObj "list" #[] 0)).update s.heap.objs.size (Obj.mapSeq (· ++ vs.toArray))).push (seqObj "list" vs.toArray 0) = h4
 have oL:h4.get? (s.heap.objs.size + 1) = some (seqObj "list" vs.toArray 0):=by subst hh; rw [← hz]; exact Heap.get?_push_size _ rfl
 have kp:∀ b o,s.heap.get? b = some o→b ≠ s.heap.objs.size + 1∧h4.get? b = some o:=fun b o q=>by
  have lb:=Heap.lt_size q
  refine ⟨Nat.ne_of_lt (Nat.lt_succ_of_lt lb),?_⟩
  subst hh
  rw [Heap.get?_push_ne _ _ _ (by rw [hz]; exact Nat.ne_of_lt (Nat.lt_succ_of_lt lb)),Heap.get?_update_ne _ _ _ _ (Nat.ne_of_lt lb),Heap.get?_push_ne _ _ _ (Nat.ne_of_lt lb),q]
 refine (show wpAny _ _ _ _ _ { s with heap:=h4 } from ?_)
 rw [hz]
 refine wpAny_bind (wpAny_holding (wpAny_call_entry slot_list_sort ⟨_,oL,rfl⟩ entry_list_sort (sort_any (κ:=κ) (r:=r) (P:=P) oL hn hP (fun h' q=>hk h' fun b o e=>q b o (kp b o e).1 (kp b o e).2) (fun h' q=>hC h' fun b o e=>q b o (kp b o e).1 (kp b o e).2) fun ks k1 k2=>⟨_,rfl,?_⟩) (args_list_sort _)))
 refine wpAny_pure ⟨_,rfl,?_⟩
 have:=h ks k1 k2
 subst hh
 exact this
end
section
variable {prog:Program} {w:World} {A:Around} {E:Value→Shared→Prop} {s:Shared}
theorem wp_ltB {κ:SortKind} {M:Model} {x y:Keyed} {b:Bool} (hk:∀ (E':Value→Shared→Prop) (Q:Bool→Shared→Prop),Q b s→wpAny M A (keyLt' κ x.1 y.1) Q E' s) {st:SortSt} {Q:Option Bool→SortSt→Prop} (e:kindOf st = κ) (h:Q (some b) st):wpS M A E s (lt' x y) Q st:=by
 rw [lt'_eq]
 refine wpS_bind (wpS_get ?_)
 rw [e]
 refine wpS_bind (wpS_lift (wpAny_attempt (hk _ _ ?_)))
 exact ⟨rfl,wpS_pure h⟩
theorem cm_int:Cm (model prog w) A E s oneType' (fun k=>numOf k.1) (fun k=>∃ n t,k.1 = .int n t):=by
 refine ⟨fun x y hx hy st Q e h=>?_⟩
 obtain ⟨n,t,hn⟩:=hx
 obtain ⟨m,u,hm⟩:=hy
 rw [hn,hm] at h
 refine wp_ltB (κ:=oneType') (b:=decide (n < m)) (fun E' Q q=>?_) e h
 rw [hn,hm,keyLt'_oneType]
 exact oneLt_int q
theorem sorted_intsAny {l:Addr} {vs:List Value} {ns:List Int} {Q:Value→Shared→Prop} (hl:s.heap.IsList l vs.toArray) (hI:IntsAre vs ns) (hn:vs.length ≤ 16777216)
  (h:∀ (out:Array Value) (ns':List Int),IntsAre out.toList ns'→ns'.Perm ns→ns'.Pairwise (· ≤ ·)→Q (.ref (s.heap.objs.size + 1)) { s with heap:=sortedAll s.heap vs out }) :
  wpAny (model prog w) A (call (.builtin "sorted") [.ref l]) Q E s:=by
 have all:∀ {vs:List Value} {ns:List Int},IntsAre vs ns→(∀ v ∈ vs,∃ n t,v = .int n t)∧ns = vs.map numOf:=by
  intro vs ns hI
  induction hI with
  | nil=>exact ⟨(fun _ h=>nomatch h),rfl⟩
  | cons n t h ih =>
   refine And.intro (fun v hv=>?_) (by rw [List.map_cons,← ih.2]; rfl)
   rcases List.mem_cons.mp hv with rfl | q
   ·exact ⟨n,t,rfl⟩
   ·exact ih.1 v q
 have back:∀ {vs:List Value},(∀ v ∈ vs,∃ n t,v = Value.int n t)→IntsAre vs (vs.map numOf):=by
  intro vs
  induction vs with
  | nil=>intro _; exact .nil
  | cons v vs ih =>
   intro q
   obtain ⟨n,t,rfl⟩:=q v (List.mem_cons_self ..)
   exact .cons n t (ih fun v hv=>q v (List.mem_cons_of_mem _ hv))
 obtain ⟨hv,rfl⟩:=all hI
 refine sorted_any (κ:=oneType') (r:=fun k=>numOf k.1) (P:=fun k=>∃ n t,k.1 = .int n t) hl hn hv (fun h' _ Q q g=>?_) (fun h' _=>cm_int) fun ks k1 k2=>?_
 ·clear h hl hn
  match vs,hI,g with
  | v₁ :: v₂ :: rest,hI,_=>rw [keyKind_ints hI]; exact wpAny_pure q
 ·have k3:∀ k ∈ ks,k.1 = k.2∧k.2 ∈ vs:=fun k hk=>by
   obtain ⟨v,h1,h2⟩:=List.mem_map.mp (k1.mem_iff.mp hk)
   subst h2; exact ⟨rfl,h1⟩
  refine h _ ((ks.map (·.2)).map numOf) (back fun v hv'=>?_) ?_ ?_
  ·obtain ⟨k,h1,rfl⟩:=List.mem_map.mp (show v ∈ ks.map (·.2) by simpa using hv')
   exact hv _ (k3 k h1).2
  ·have:=(k1.map (·.2)).map numOf
   rw [List.map_map,List.map_map] at this
   rw [List.map_map]
   refine this.trans ?_
   rw [List.map_map]
   exact List.Perm.of_eq (List.map_congr_left fun _ _=>rfl)
  ·rw [List.map_map]
   refine List.Pairwise.map _ (fun a b q=>q) (List.Pairwise.imp_of_mem (fun {a b} ha hb q=>?_) k2)
   dsimp only at q
   rw [(k3 a ha).1,(k3 b hb).1] at q
   exact q
end
section
variable {X:Cx} (K:PySem.W.Frag)
def rSortedL (K:PySem.W.Frag):List V→Hp→VK→Prop:=fun xs H Q=>∃ (p:Addr) (ns:List Int),xs = [.ref p]∧SqL K H p (ns.map V.int)∧ns.length < 1000∧∀ ns':List Int,ns'.Perm ns→ns'.Pairwise (· ≤ ·)→∀ l,H l = none→Q (.ref l) (upd H l (.lst (ns'.map V.int)))
theorem call_sortedL (hK:X.K = K:=by rfl):CallR X (.builtin "sorted") (rSortedL K):=by
 subst hK
 intro pins s σ H xs us Q I r h
 obtain ⟨a,ns,rfl,hq,h64,q1⟩:=h
 obtain ⟨u1,rfl,ru⟩:=vals1 r
 cases ru
 obtain ⟨its,rv,pl,hz⟩:=I.list hq
 have hl:its.length = ns.length:=by have:=rv.length; rw [List.length_map] at this; omega
 refine sorted_intsAny pl.isList (intsAre_of rv) (by omega) fun out ns' a1 a2 a3=>?_
 obtain ⟨e,he⟩:=sortedAll_at s.heap its out
 have hlen:=a2.length_eq
 refine ⟨.ref (s.heap.objs.size + 1),_,I.laid (t':=s.toks) (o:=.lst (ns'.map V.int)) (fun b o q=>sortedAll_old q) (Nat.le_succ _) ⟨?_,out.toList,e,vals_ints a1,?_⟩,rfl,q1 ns' a2 a3 _ (I.hok.fresh (Nat.le_succ _))⟩
 ·rw [List.length_map]; exact Nat.le_of_lt (small1000 (n:=ns'.length) (by omega))
 ·rw [he]
end
section
variable {K:PySem.W.Frag}
@[irreducible] def gSortedL:List R→AE:=fun rs ρ q=>match rs with
 | [r]=>(match view ρ r with
  | some (.lst ds)=>(match intsOf ds with | some ns=>ns.length < 1000∧(∀ ns':List Int,ns'.Perm ns→ns'.Pairwise (· ≤ ·)→q (.f (ns'.map D.int)) ρ) | none=>False)
  | _=>False)
 | _=>False
theorem cbok_sortedL:CbOk K (rSortedL K) gSortedL:=by
 intro F σ ρ H vs rs q Q a i h b
 unfold gSortedL at h
 split at h
 ·obtain ⟨y,rfl,iy⟩:=i.one
  split at h
  ·rename_i ds e
   split at h
   ·rename_i ns e'
    obtain ⟨l,us,rfl,sq,rd⟩:=view_lst a iy e
    rw [intsOf_eq e',repInts] at rd
    rw [rd] at sq
    exact ⟨l,ns,rfl,sq,h.1,fun ns' h1 h2 p hp=>b.new a (h.2 ns' h1 h2) (repInts.mpr rfl) hp⟩
   ·exact h.elim
  ·exact h.elim
 ·exact h.elim
theorem gSortedL_ok {r:R} {ρ:En} {q:Ko} {ns:List Int} (hv:view ρ r = some (.lst (ns.map D.int))) (h64:ns.length < 1000) (h1:∀ ns':List Int,ns'.Perm ns→ns'.Pairwise (· ≤ ·)→q (.f (ns'.map D.int)) ρ):gSortedL [r] ρ q:=by
 unfold gSortedL
 simp only [hv,intsOf_map]
 exact ⟨h64,h1⟩
end
def Hot (od:Option Addr) (h0 h:Heap) (H:Hp) (e C:Addr):Prop :=
 ∃ oe vs hv,h.get? e = some oe∧oe.cls = .ref C∧oe.dict = od∧oe.data = .fields vs∧vs[1]? = some hv∧h0.get? e = none∧H e = none ∧
  (hv = .none ∨ ∃ T oT ts,hv = .ref T∧T ≠ e∧h.get? T = some oT∧oT.data = .fields ts∧ts[3]? = some .none∧h0.get? T = none∧H T = none)
def odV:Option Addr→Value
 | none=>.none
 | some dx=>.ref dx
def Yg (h:Heap) (od:Option Addr):Prop:=∀ dx,od = some dx→h.get? dx = none
def CX1 (P:Program) (w:World):CXT:=fun outer H s E e s' =>
 ∃ a C od H',e = .ref a∧s'.os = s.os∧AllBare s'.gens∧Un (frs outer) [] H H' s.heap s'.heap∧HOk P w H' s'.heap∧Hot od s.heap s'.heap H' a C∧Yg s.heap od∧E (odV od) (some C) H'
theorem HOk.get {P:Program} {w:World} {H:Hp} {h:Heap} {a:Addr} {o:HO} (k:HOk P w H h) (e:H a = some o):∃ u,h.get? a = some u:=by
 have x:=k a o e
 cases o with
 | lst xs=>obtain ⟨_,_,_,_,e⟩:=x; exact ⟨_,e⟩
 | tup xs=>obtain ⟨_,_,_,ob,e,_⟩:=x; exact ⟨_,e⟩
 | dK kvs=>obtain ⟨_,_,_,_,o,_,_,e,_⟩:=x; exact ⟨_,e⟩
 | dT kvs=>obtain ⟨_,_,_,_,o,_,_,e,_⟩:=x; exact ⟨_,e⟩
 | set S n=>obtain ⟨o,_,_,_,e,_⟩:=x; exact ⟨_,e⟩
 | ins C dx fs=>obtain ⟨_,_,_,e,_⟩:=x; exact ⟨_,e⟩
 | own y=>exact x
 | xd fs=>obtain ⟨_,⟨_,_,_,e,_⟩,_⟩:=x; exact ⟨_,e⟩
 | rng lo hi=>obtain ⟨_,_,_,e⟩:=x; exact ⟨_,e⟩
 | frz ob u=>obtain ⟨e,_⟩:=x; exact ⟨_,e⟩
 | tbl ps=>exact ⟨_,x⟩
 | met f y=>exact ⟨_,x⟩
 | ext φ=>obtain ⟨_,e,_⟩:=x; exact e
def Fld (H:Hp):Option Str→Option Addr→V→Prop
 | none,od,v=>od = none∧v = .non
 | some f,od,v=>∃ dx,od = some dx∧H dx = some (.xd [(f,v)])
theorem PA.nox {X:Cx} {es:List Expr} {t:TA} (h:PA X.nox es t):PA X es t:=fun pos pins s σ H Q I hw =>
 wpAny_mono (h pos pins s σ H Q (I.wish _) hw) (fun _ _ ⟨xs,H',I',r,q⟩=>⟨xs,H',I'.unwish,r,q⟩) fun _ _ z=>False.elim z
def XW (E:XK) (C:Addr) (fn:Option Str):VK:=fun v H'=>∀ od,Fld H' fn od v→E (odV od) (some C) H'
def spX (C:Addr) (fn:Option Str) (sp:Sp):Sp:=fun vs H Q E=>sp vs H (XW E C fn) E
structure OkX (P:Program) (w:World) (K:PySem.W.Frag) (mg:Str→Option Value) (base:Heap) (k:Nat) (x:Str) (ps:List Str) (C:Addr) (fn:Option Str) (sp:Sp):Prop where
 ex:∃ f fd,mg x = some (.ref f)∧PySem.W.keepIn K (.ref f) = true∧Binds K fd ps []∧FnOk P w K mg base (CX1 P w) k f fd ps (spX C fn sp)
theorem OkX.mono {P:Program} {w:World} {K:PySem.W.Frag} {mg:Str→Option Value} {base:Heap} {x:Str} {ps:List Str} {C:Addr} {fn:Option Str} {j k:Nat} {sp:Sp} (F:OkX P w K mg base j x ps C fn sp) (h:j ≤ k):OkX P w K mg base k x ps C fn sp:=by
 obtain ⟨f,fd,hm,hk,hb,F⟩:=F.ex
 exact ⟨f,fd,hm,hk,hb,F.mono h⟩
section
variable {P:Program} {w:World} {K:PySem.W.Frag} {mg:Str→Option Value} {base:Heap} {N:List Str} {qual:Str} {scope:Scope} {f:Addr} {cd:Value} {A:Around} {outer:List Env} {s0:Shared} {H0:Hp} {E:XK} {C:Addr} {fn:Option Str} {od:Option Addr}
theorem Hot.older {h0 h1 h:Heap} {H:Hp} {e C:Addr} (q:Hot od h1 h H e C) (le:∀ b,h1.get? b = none→h0.get? b = none):Hot od h0 h H e C:=by
 obtain ⟨oe,vs,hv,a1,a2,a3,a4,a5,a6,a7,a8⟩:=q
 refine ⟨oe,vs,hv,a1,a2,a3,a4,a5,le _ a6,a7,?_⟩
 rcases a8 with z | ⟨T,oT,ts,b1,b2,b3,b4,b5,b6,b7⟩
 ·exact .inl z
 ·exact .inr ⟨T,oT,ts,b1,b2,b3,b4,b5,le _ b6,b7⟩
end
section
variable {X:Cx} {pins:List (Addr × Obj)} {σ σ1:St} {H H1:Hp} {s s1:Shared} {h':Heap} {ch:List Addr} {e C:Addr}
def hcx (X:Cx) (pins:List (Addr × Obj)) (e:Addr) (oe:Obj):Cx:={ X with A:=X.A.mark (some (.ref e)),calm:=false,pn:=X.pn ++ pins ++ [(e,oe)],xe:=fun _ _=>False }
theorem Inv.hcx {oe:Obj} (I:Inv X pins σ H s) (ge:s.heap.get? e = some oe) (ue:H e = none) (nL:e ≠ X.env.locals) (nf:e ∉ X.fs) (nc:∀ v,oe.data ≠ .cell v):Inv (hcx X pins e oe) [] σ H s:=by
 refine ⟨⟨I.ok.mod,I.ok.kind,I.ok.glob,I.ok.blt,I.ok.above,I.ok.inj,I.ok.has,I.ok.cab,fun z=>(nomatch z),I.ok.frames,I.ok.stk,I.ok.exf,I.ok.bs,I.ok.bsz,I.ok.noex,I.ok.exfs,I.ok.funs,I.ok.frf⟩,I.os,I.bare,I.base,I.loc,I.cell,I.free,I.freeC,fun p hp=>?_,I.hok,I.len⟩
 have hp':p ∈ X.pn ++ pins ∨ p = (e,oe):=by
  have:p ∈ (X.pn ++ pins ++ [(e,oe)]) ++ []:=hp
  simpa [or_assoc] using this
 rcases hp' with z | rfl
 ·exact I.pin p z
 ·exact ⟨ge,ue,nL,nf,nc⟩
theorem Inv.forget {oe:Obj} {m':Str→Option Value} {t':Nat} (I:Inv (L2.hcx X pins e oe) [] σ H s) (sb:Heap.SameBut X.env.locals s.heap h') (hn:h'.Ns X.env.locals m') (hd:X.calm = true→X.A.handled = none) (hfm:X.A.frames = some X.stack):Inv X pins (List.replicate X.N.length none) H { s with heap:=h',toks:=t' }:=by
 have kp:∀ b o,b ≠ X.env.locals→s.heap.get? b = some o→h'.get? b = some o:=fun b o n q=>(sb.2 b n).trans q
 have n0:∀ b o,X.s₀.heap.get? b = some o→b ≠ X.env.locals:=fun b o q=>Nat.ne_of_lt (Nat.lt_of_lt_of_le (Heap.lt_size q) I.ok.above)
 have cl:∀ x c,X.env.cells.lookup x = some c→c ≠ X.env.locals:=fun x c q z=>by
  obtain ⟨v,oc,hoc,hdc⟩:=I.cell x c q
  obtain ⟨m,⟨o,es,ep,ho,hdo,_⟩,_⟩:=id I.loc
  rw [z] at hoc
  cases hoc.symm.trans (show s.heap.get? X.env.locals = some o from ho)
  rw [hdc] at hdo; cases hdo
 refine ⟨⟨I.ok.mod,I.ok.kind,I.ok.glob,I.ok.blt,I.ok.above,I.ok.inj,I.ok.has,I.ok.cab,hd,hfm,I.ok.stk,I.ok.exf,I.ok.bs,I.ok.bsz,I.ok.noex,I.ok.exfs,I.ok.funs,I.ok.frf⟩,I.os,I.bare,⟨fun b o q n f x=>kp b o (n0 b o q) (I.base.keep b o q n f x),fun b o q n f x=>?_,I.base.free,fun b o q x=>?_,I.base.tups,I.base.frzs,I.base.tbls⟩,⟨m',hn,fun i x v _ a2 _=>?_⟩,fun x c q=>?_,I.free,I.freeC,fun p hp=>?_,fun a o q=>?_,List.length_replicate⟩
 ·obtain ⟨sl,q'⟩:=I.base.slot b o q n f x
  exact ⟨sl,kp b _ (n0 b o q) q'⟩
 ·obtain ⟨o',q'⟩:=I.base.there b o q x
  exact ⟨o',kp b o' (n0 b o q) q'⟩
 ·rw [List.getElem?_replicate] at a2
  split at a2 <;> cases a2
 ·obtain ⟨v,oc,hoc,hdc⟩:=I.cell x c q
  exact ⟨v,oc,kp c oc (cl x c q) hoc,hdc⟩
 ·have hp':p ∈ (X.pn ++ pins ++ [(e,oe)]) ++ []:=by rw [List.append_nil]; exact List.mem_append_left _ hp
  obtain ⟨p1,p2,p3,p4,p5⟩:=I.pin p hp'
  exact ⟨kp _ _ p3 p1,p2,p3,p4,p5⟩
 ·refine (I.hok a o q).stay (fun b u hb z=>kp b u (fun w=>?_) z) (fun _ z=>z) fun _ _ z=>z
  have fr:H b = none:=by rw [w]; exact I.free
  rcases hb with hb | hb
  ·rw [← hb,fr] at q; cases q
  ·rw [fr] at hb; cases hb
end
end L2
namespace L2
open PySem PySem.Spec PyProof.Rows PySem.W
structure ExIs (K:PySem.W.Frag) (C:Addr):Prop where
 ga:findIn K (.ref C) "__getattribute__" = some (some (.builtin "BaseException.__getattribute__"))
 gn:findIn K (.ref C) "__getattr__" = some none
 cl:∀ od,findObj K C od "__class__" = some (.bind (.builtin "getset_descriptor.__get__") (.builtin "object.__class__"))
 mo:mroIn K C (.type "object") = some true
 be:subIn K (.ref C) (.type "BaseException") = some true
 is:(clsIn K C).isSome = true
theorem ExIs.of {K:PySem.W.Frag} {C:Addr} (ga:findIn K (.ref C) "__getattribute__" = some (some (.builtin "BaseException.__getattribute__"))) (gn:findIn K (.ref C) "__getattr__" = some none) (hc:hasDictIn K C = true) (ha:findIn K (.ref C) "__class__" = some (some (.builtin "object.__class__")))
  (hn:specialIn K (.builtin "object.__class__") "__get__" = some (some (.builtin "getset_descriptor.__get__"))) (ht:takesIn K (.builtin "object.__class__") = some true) (mo:mroIn K C (.type "object") = some true) (be:subIn K (.ref C) (.type "BaseException") = some true):ExIs K C:=by
 obtain ⟨cd,hcd,_⟩:=any_some hc
 refine ⟨ga,gn,fun od=>?_,mo,be,by rw [hcd]; rfl⟩
 unfold findObj
 rw [hcd,Option.bind_some,ha,Option.bind_some]
 simp only [hn,ht,Option.bind_some]
end L2
namespace L2
open PySem PySem.Spec PyProof.Rows Builtin
end L2
namespace L2
open PySem PySem.Spec PyProof.Rows
def Itw (K:PySem.W.Frag) (l:Addr) (n:Nat):It :=
 ⟨fun i H=>∃ xs x,SqL K H l xs∧xs.length = n∧i < n∧xs[n - 1 - i]? = some x,fun i H x H'=>H' = H∧∀ xs,SqL K H l xs→xs[n - 1 - i]? = some x,fun i H=>n ≤ i⟩
theorem turn_rev {P:Program} {w:World} {K:PySem.W.Frag} {tg:Expr} (a it:Addr) (n:Nat):Turn P w K tg (Itw K a n) [it] it (fun i h=>i ≤ n∧h.IsRevIter it a ((n:Int) - 1 - (i:Int))) where
 mem:=by simp
 obj:=fun i h st b hb=>by
  have e:b = it:=by simpa using hb
  subst e
  obtain ⟨_,o,e,c,d⟩:=st
  exact ⟨o,e,fun v z=>by rw [d] at z; cases z⟩
 keep:=fun i h h' st k=>⟨st.1,st.2.at fun o e=>k it (by simp) o e⟩
 item:=by
  intro X hP hw hK hc i pins s σ H E I hf st hg
  subst hP hw hK
  obtain ⟨xs,x,hq,hn,hi,hx⟩:=hg
  obtain ⟨its,rv,p,hz⟩:=I.list hq
  obtain ⟨u,hu,ru⟩:=rv.get hx
  obtain ⟨f0,f1,f2,f3,f4,f5⟩:=hf it (by simp)
  have st2:=st.2
  rw [show (n:Int) - 1 - (i:Int) = ((n - 1 - i:Nat):Int) by omega] at st2
  refine wpAny_pyNext_rev_item st2 p.isList (x:=u) (by simpa using hu) fun h' st' sb=>?_
  have I1:Inv X pins σ H { s with heap:=h' }:=I.turned (t':=s.toks) (fun b o hb e=>(sb.2 b hb).trans e) f0 f1 f3 f4 f5
  rw [show ((n - 1 - i:Nat):Int) - 1 = (n:Int) - 1 - ((i + 1:Nat):Int) by omega] at st'
  obtain ⟨o,e,c,d⟩:=id st'
  exact ⟨u,rfl,go_of (s:={ s with heap:=h' }) e c d (by decide) ⟨x,H,I1,ru,⟨rfl,fun ys hy=>by rw [I.list_inj hy hq]; exact hx⟩,⟨by omega,st'⟩,fun b hb=>(hf b hb).1⟩⟩
 done:=by
  intro X hP hw hK hc i pins s σ H E I hf st hg
  subst hP hw hK
  obtain ⟨f0,f1,f2,f3,f4,f5⟩:=hf it (by simp)
  have hg':n ≤ i:=hg
  have st2:=st.2
  have st1:=st.1
  rw [show (n:Int) - 1 - (i:Int) = -1 by omega] at st2
  exact wpAny_pyNext_rev_end (I.ok.hd hc) st2 fun h' eb=>⟨rfl,I.turned (t':=s.toks) (fun b o hb e=>eb b o hb e) f0 f1 f3 f4 f5⟩
 self:=fun _ _ _ _ _ st h=>wpAny_pyIter_revIter st.2 h
def iRev (K:PySem.W.Frag) (t:TA):TI:=fun σ H R=>t σ H fun vs H1=>∃ l xs,vs = [.ref l]∧SqL K H1 l xs∧R (Itw K l xs.length) H1
theorem pi_rev (K:PySem.W.Frag) {X:Cx} {tg:Expr} {a:Expr} {ta:TA} {p pos:Pos} (hg:Gl X "reversed") (hm:X.mg "reversed" = none) (ha:PA X [a] ta) (hK:X.K = K:=by rfl) (hs:starEach [a] X.env = [(false,eval a X.env)]:=by rfl) :
  PI X tg (.Call (.Name "reversed" p) [a] [] pos) (iRev K ta):=by
 subst hK
 intro pins s σ H R I h
 refine Call_ (ld_blt I hg hm bt_reversed (PyProof.Rows.callWith_type1 (thn (ha pos pins s σ H _ I h) fun us s1 ⟨vs,H1,I1,r1,q1⟩=>?_) hs rfl))
 obtain ⟨l,xs,rfl,h1,q⟩:=q1
 obtain ⟨u,rfl,ru⟩:=vals1 r1
 cases ru
 obtain ⟨its,rv,p1,_⟩:=I1.list h1
 have hl:=rv.length
 refine call_reversed_list p1.isList ?_
 have it:Heap.IsRevIter (s1.heap.push (revObj l ((its.toArray.size:Int) - 1))) s1.heap.objs.size l ((xs.length:Int) - 1 - ((0:Nat):Int)):=⟨_,Heap.get?_push_size _ rfl,rfl,by rw [List.size_toArray,← hl]; simp [revObj]⟩
 refine wpAny_pyIter_revIter it ?_
 refine ⟨s1.heap.objs.size,[s1.heap.objs.size],_,_,H1,rfl,I1.kept (t':=s1.toks) fun b o e=>Heap.get?_push_of_some _ e,turn_rev l _ xs.length,⟨Nat.zero_le _,it⟩,fun b hb=>?_,q⟩
 have e:b = s1.heap.objs.size:=by simpa using hb
 subst e
 exact I1.fpOk (Nat.le_refl _) (I1.hok.fresh (Nat.le_refl _))
section
variable {K:PySem.W.Frag} {ts:TA} {as:AA}
theorem wk_rev {S:Addr→Prop} {H:Hp} {a:Addr} {vs:List V} {ds:List D} (h:SqL K H a vs) (rd:RepDs K (hid H S) vs ds):WkAt K S H (Itw K a vs.length) ds.reverse:=by
 have hl:=rd.length
 intro k
 constructor
 ·intro d e
  have hk:k < ds.length:=by
   have:=(List.getElem?_eq_some_iff.mp e).1
   rwa [List.length_reverse] at this
  rw [List.getElem?_reverse hk] at e
  obtain ⟨v,e1,rv⟩:=rd.get e
  rw [← hl] at e1
  refine ⟨⟨vs,v,h,rfl,by omega,e1⟩,fun x H' z=>⟨z.1 ▸ Same.refl H,?_⟩⟩
  have:=z.2 vs h
  rw [e1] at this; cases this; rw [z.1]; exact rv
 ·intro z
  rw [List.length_reverse] at z
  show vs.length ≤ k
  omega
theorem walkL_now {pin:Nat→Bool} {ρ:En} {r:R} {ds:List D} {c:En→Prop} (e:walkL pin ρ r = some (ds,c)):c ρ:=by
 cases r with
 | n s=>cases e
 | t n=>cases e
 | x n=>cases e
 | d d =>
  cases d with
  | lst es=>simp only [walkL,Option.some.injEq,Prod.mk.injEq] at e; rw [← e.2]; trivial
  | _=>cases e
 | o i =>
  unfold walkL at e
  cases hg:gt ρ i with
  | ow es =>
   simp only [hg] at e
   split at e
   ·simp only [Option.some.injEq,Prod.mk.injEq] at e
    rw [← e.2]; exact hg
   ·cases e
  | _=>simp [hg] at e
def aRvd (pin:Nat→Bool) (as:AA):AI:=fun ρ q=>as ρ fun rs ρ1=>match rs with
 | [r1]=>(match walkL pin ρ1 r1 with
  | some (ds,c)=>q ds.reverse c ρ1
  | _=>False)
 | _=>False
theorem tiok_rev {pin:Nat→Bool} (h:TAok K ts as):TIok K pin (iRev K ts) (aRvd pin as):=by
 intro F σ ρ H q Rk r ha k
 refine h F σ ρ H _ _ r ha fun rs ρ1 vs H1 h1 r1 i1 k1=>?_
 split at h1
 ·obtain ⟨x,rfl,ix⟩:=i1.one
  split at h1
  ·rename_i ds c e1
   obtain ⟨l1,us1,rfl,s1,w1⟩:=walkL_ok r1 ix e1
   obtain ⟨v0,z0,rd0⟩:=w1 σ ρ1 H1 (Same.refl _) r1.sl (fun _ _ _ e=>e) (walkL_now e1)
   refine ⟨l1,v0,rfl,z0,k _ _ _ _ _ h1 r1 k1 fun σ2 ρ2 H2 sm sv pn al hc=>?_⟩
   obtain ⟨v1,z1,rd1⟩:=w1 σ2 ρ2 H2 sm sv pn hc
   have:=wk_rev z1 rd1
   rw [rd1.length,← rd0.length] at this
   exact this
  ·exact h1.elim
 ·exact h1.elim
end
theorem draws_tup {prog:Program} {w:World} {A:Around} (hh:A.handled = none) (it l:Addr) (hne:l ≠ it) (xs:Array Value) :
  Draws prog w A it [it,l] xs.size (fun i v=>xs[i]? = some v) (fun i h=>h.IsTupleIter it l i∧h.IsTuple l xs) where
 live:=fun _ _ st=>let ⟨o,ho,_⟩:=st.1; ⟨o,ho⟩
 frame:=fun _ _ _ st hk=>(feed_tup (prog:=prog) (w:=w) hne).keep _ _ _ st fun b o hb e=>hk b hb o e
 item:=fun i s Q E hi st hQ=>(feed_tup hne).item A i s xs[i] Q E st (by simp [hi]) fun h' st' sb=>hQ _ h' s.toks (by simp [hi]) st' sb
 done:=fun s Q E st hE=>(feed_tup hne).fin A xs.size s Q E hh st (by simp) hE
open AutoSeq1 (wpAny_loadPart') in
theorem meets_enumT (l:Addr) (xs:Array Value) :
  Meets (Builtin.«enumerate.__new__» ⟨[.type "enumerate",.ref l],[]⟩) (fun _ R s=>s.heap.IsTuple l xs ∧
   R (.ok (.ret (.ref (s.heap.push { cls:=.type "tuple_iterator",data:=.fields #[.ref l,.int 0 0] }).objs.size)))
    { s with heap:=(s.heap.push { cls:=.type "tuple_iterator",data:=.fields #[.ref l,.int 0 0] }).push { cls:=.type "enumerate",data:=.fields #[.none,.bool false,.ref s.heap.objs.size,rawInt 0,.none,.none] } }) :=
 .of_wp fun prog w A R s h=>by
  obtain ⟨hp,g,d,tk,os⟩:=s; obtain ⟨hl,h⟩:=h
  have hsub:=sub_enumerate
  have hL:Heap.IsTuple (Shared.heap ⟨hp,g,d,tk,os⟩) l xs:=hl
  wp_walk
  refine wpAny_stack_any fun st=>wpAny_pure ?_
  split
  ·rename_i c _ _ _ _ _
   cases (c == Value.type "enumerate")
   ·wp_walk using wpAny_pyIter_tuple hL
    exact ⟨_,rfl,h⟩
   ·wp_walk using wpAny_pyIter_tuple hL
    exact ⟨_,rfl,h⟩
  ·wp_walk using wpAny_pyIter_tuple hL
   exact ⟨_,rfl,h⟩
theorem call_enumT {prog:Program} {w:World} {A:Around} {E:Value→Shared→Prop} {s:Shared} {l:Addr} {xs:Array Value} {Q:Value→Shared→Prop} (hL:s.heap.IsTuple l xs)
  (h:∀ h',IsEnum h' (s.heap.objs.size + 1) s.heap.objs.size 0 .none→h'.IsTupleIter s.heap.objs.size l 0→h'.objs.size = s.heap.objs.size + 2 →
   (∀ b o,s.heap.get? b = some o→h'.get? b = some o)→Q (.ref (s.heap.objs.size + 1)) { s with heap:=h' }) :
  wpAny (model prog w) A (call (.type "enumerate") [.ref l]) Q E s:=by
 refine callType_new F.called_enumerate (by decide) (F.typeCall_enumerate_1 _) (F.newCall_enumerate_1 _) (fun obj=>F.args_object_init_2 obj _) F.entry_enumerate_new
  (meets_enumT l xs) ⟨hL,?_⟩
 have hz:(s.heap.push { cls:=.type "tuple_iterator",data:=.fields #[.ref l,.int 0 0] }).objs.size = s.heap.objs.size + 1:=Heap.size_push ..
 show _∧_
 rw [hz]
 have he:IsEnum ((s.heap.push { cls:=.type "tuple_iterator",data:=.fields #[.ref l,.int 0 0] }).push
   { cls:=.type "enumerate",data:=.fields #[.none,.bool false,.ref s.heap.objs.size,rawInt 0,.none,.none] }) (s.heap.objs.size + 1) s.heap.objs.size 0 .none:=by
  have:=Heap.get?_push_size (s.heap.push { cls:=.type "tuple_iterator",data:=.fields #[.ref l,.int 0 0] })
   (o:={ cls:=.type "enumerate",data:=.fields #[.none,.bool false,.ref s.heap.objs.size,rawInt 0,.none,.none] }) rfl
  rw [hz] at this; exact this
 refine ⟨⟨_,he,rfl⟩,h _ he ⟨_,Heap.get?_push_of_some _ (Heap.get?_push_size _ rfl),rfl,rfl⟩ (by rw [Heap.size_push,hz]) fun b o x=>Heap.get?_push_of_some _ (Heap.get?_push_of_some _ x)⟩
def Itf (K:PySem.W.Frag) (l:Addr) (n:Nat):It :=
 ⟨fun i H=>∃ xs x,SqT K H l xs∧xs.length = n∧xs[i]? = some x,fun i H v H'=>∃ p x,v = .ref p∧H p = none∧H' = upd H p (.tup [.int (i:Nat),x])∧∀ xs,SqT K H l xs→xs[i]? = some x,
  fun i H=>n ≤ i∧∃ xs,SqT K H l xs∧xs.length = n⟩
theorem turn_enumT {P:Program} {w:World} {K:PySem.W.Frag} {elts:List Expr} {x1} {tpos:Pos} {e it l:Addr} {n:Nat} (ne:e ≠ it) (nl:l ≠ it) (nel:e ≠ l) :
  Turn P w K (.Tuple elts x1 tpos) (Itf K l n) [e,it] e (fun i h=>((∃ old,IsEnum h e it (i:Nat) old)∧h.IsTupleIter it l i)∧i ≤ n) where
 mem:=by simp
 obj:=fun i h st b hb=>by
  obtain ⟨⟨⟨old,he⟩,⟨o1,e1,c1,d1⟩⟩,_⟩:=st
  simp only [List.mem_cons,List.not_mem_nil,or_false] at hb
  rcases hb with rfl | rfl
  ·exact ⟨_,he,fun v q=>by cases q⟩
  ·exact ⟨o1,e1,fun v q=>by rw [d1] at q; cases q⟩
 keep:=fun i h h' st k=>by
  obtain ⟨⟨⟨old,he⟩,h1⟩,hi⟩:=st
  exact ⟨⟨⟨old,k e (by simp) _ he⟩,h1.at fun o q=>k it (by simp) o q⟩,hi⟩
 item:=by
  intro X hP hw hK hc i pins s σ H E I hf st hg
  subst hP hw hK
  obtain ⟨xs,x,q1,hln,hx⟩:=hg
  obtain ⟨⟨⟨old,he⟩,h1⟩,hin⟩:=st
  obtain ⟨its,rv,p1,_⟩:=I.tuple q1
  have hxi:=(List.getElem?_eq_some_iff.mp hx).1
  obtain ⟨u,hu,ru⟩:=rv.get hx
  have hlt:i < its.toArray.size:=by rw [List.size_toArray]; exact (List.getElem?_eq_some_iff.mp hu).1
  refine wpAny_pyNext_enum_itemD (draws_tup (show X.A.in1.handled = none from I.ok.hd hc) it l nl its.toArray) he ⟨h1,p1⟩ hlt ne (by simp [ne,nel]) fun y h' tk hy a1 a2 a3 a4 hk=>?_
  have ey:y = u:=by
   have hy':its[i]? = some y:=by simpa using hy
   rw [hu] at hy'; cases hy'; rfl
  subst ey
  refine ⟨_,rfl,wpAny_letOwnedTupleGo_enum (s:={ s with heap:=h',toks:=tk + 1 }) a1 fun h2' he' hs'=>?_⟩
  have hs2:Heap.SameBut e h' h2':=hs'
  have ls:∀ {b o},s.heap.get? b = some o→b ≠ s.heap.objs.size:=fun e=>Nat.ne_of_lt (Heap.lt_size e)
  have es:e ≠ s.heap.objs.size:=ls he
  have up:∀ b o,b ∉ [e,it]→s.heap.get? b = some o→h2'.get? b = some o:=fun b o hb q=>by
   simp only [List.mem_cons,List.not_mem_nil,or_false,not_or] at hb
   exact (hs2.2 b hb.1).trans (hk b o hb.1 hb.2 q)
  have I1:Inv X pins σ H { s with heap:=h2',toks:=tk + 1 }:=I.turns (t':=tk + 1) up hf
  have fp:FpOk X pins H s.heap.objs.size:=I.fpOk (Nat.le_refl _) (I.hok.fresh (Nat.le_refl _))
  have g:h2'.get? s.heap.objs.size = some { cls:=.type "tuple",data:=.seq #[.int i tk,y] }:=(hs2.2 _ (Ne.symm es)).trans a3
  have I2:=I1.trackO (o:=.tup [.int (i:Nat),x]) fp ⟨by show 2 ≤ sizeLine; decide,[.int i tk,y],.cons ⟨_,rfl⟩ (.cons ru .nil),_,g,rfl,_,rfl⟩
  refine ⟨.ref s.heap.objs.size,upd H s.heap.objs.size (.tup [.int (i:Nat),x]),I2,rfl,⟨_,x,rfl,fp.1,rfl,fun zs hz=>by rw [I.tuple_inj hz q1]; exact hx⟩,?_,fun b hb=>?_⟩
  ·refine ⟨⟨⟨y,by simpa using he'⟩,?_⟩,by omega⟩
   obtain ⟨o,q,r⟩:=a2.1; exact ⟨o,(hs2.2 it (Ne.symm ne)).trans q,r⟩
  ·have hb':=(hf b hb).1
   have ne':b ≠ s.heap.objs.size:=by
    obtain ⟨o1,e1,_⟩:=h1
    simp only [List.mem_cons,List.not_mem_nil,or_false] at hb
    rcases hb with rfl | rfl
    ·exact ls he
    ·exact ls e1
   rw [upd_ne ne']; exact hb'
 done:=by
  intro X hP hw hK hc i pins s σ H E I hf st hg
  subst hP hw hK
  obtain ⟨hni,xs,q1,hl⟩:=hg
  obtain ⟨⟨⟨old,he⟩,h1⟩,hin⟩:=st
  obtain ⟨its,rv,p1,_⟩:=I.tuple q1
  have l1:=rv.length
  have ei:i = its.toArray.size:=by rw [List.size_toArray]; omega
  subst ei
  refine wpAny_pyNext_enum_endD (draws_tup (show X.A.in1.handled = none from I.ok.hd hc) it l nl its.toArray) he ⟨h1,p1⟩ fun h' hk=>⟨rfl,I.turns (ch:=[e,it]) (t':=s.toks) (fun b o hb q=>?_) hf⟩
  simp only [List.mem_cons,List.not_mem_nil,or_false,not_or] at hb
  exact hk b o hb.2 q
 self:=fun _ _ _ _ _ st h=>by obtain ⟨⟨⟨old,he⟩,_⟩,_⟩:=st; exact wpAny_pyIter_enum he h
def iEnumT (K:PySem.W.Frag) (t:TA):TI:=fun σ H R=>t σ H fun vs H1=>∃ l xs,vs = [.ref l]∧SqT K H1 l xs∧R (Itf K l xs.length) H1
theorem pi_enumT (K:PySem.W.Frag) {X:Cx} {elts:List Expr} {x1} {tpos:Pos} {a:Expr} {ta:TA} {p pos:Pos} (hg:Gl X "enumerate") (hm:X.mg "enumerate" = none) (ha:PA X [a] ta) (hK:X.K = K:=by rfl) (hs:starEach [a] X.env = [(false,eval a X.env)]:=by rfl) :
  PI X (.Tuple elts x1 tpos) (.Call (.Name "enumerate" p) [a] [] pos) (iEnumT K ta):=by
 subst hK
 intro pins s σ H R I h
 refine Call_ (ld_blt I hg hm bt_enumerate (PyProof.Rows.callWith_type1 (thn (ha pos pins s σ H _ I h) fun us s1 ⟨vs,H1,I1,r1,q1⟩=>?_) hs rfl))
 obtain ⟨l,xs,rfl,h1,q⟩:=q1
 obtain ⟨u,rfl,ru⟩:=vals1 r1
 cases ru
 obtain ⟨its,_,p1,_⟩:=I1.tuple h1
 have lt:l < s1.heap.objs.size:=by obtain ⟨o,e,_⟩:=id p1; exact Heap.lt_size e
 refine call_enumT p1 fun h' he hi hsz hk=>?_
 refine wpAny_pyIter_enum he ?_
 refine ⟨_,_,_,_,H1,rfl,I1.kept (t':=s1.toks) hk,turn_enumT (show s1.heap.objs.size + 1 ≠ s1.heap.objs.size by omega) (Nat.ne_of_lt lt) (Ne.symm (Nat.ne_of_lt (Nat.lt_succ_of_lt lt))),⟨⟨⟨_,he⟩,hi⟩,Nat.zero_le _⟩,fun b hb=>?_,q⟩
 have le:s1.heap.objs.size ≤ b:=by
  simp only [List.mem_cons,List.not_mem_nil,or_false] at hb
  rcases hb with rfl | rfl <;> omega
 exact I1.fpOk le (I1.hok.fresh le)
section
variable {K:PySem.W.Frag} {ts:TA} {as:AA}
theorem wk_enumT {S:Addr→Prop} {H:Hp} {l:Addr} {vs:List V} {ds:List D} (al:∀ a,S a→H a ≠ none) (h1:SqT K H l vs) (r1:RepDs K (hid H S) vs ds):WkAt K S H (Itf K l vs.length) (enumD 0 ds):=by
 intro k
 constructor
 ·intro d e
  obtain ⟨x,ex,rfl⟩:=enumD_get e
  rw [Nat.zero_add]
  obtain ⟨v,e1,rv⟩:=r1.get ex
  refine ⟨⟨vs,v,h1,rfl,e1⟩,fun z H' ⟨p,a,ez,hp,eH,ha⟩=>?_⟩
  have a1:=ha vs h1
  rw [e1] at a1
  cases a1
  subst eH ez
  have sm:Same H (upd H p (.tup [.int (k:Nat),v])):=(Same.refl H).new hp
  have sm':Same (hid H S) (hid (upd H p (.tup [.int (k:Nat),v])) S):=hid_same fun a o e n=>⟨sm a o e,n⟩
  refine ⟨sm,?_⟩
  unfold RepD
  exact ⟨p,[.int (k:Nat),v],rfl,(hid_of (fun z=>al p z hp) upd_same),.cons (by unfold RepD; rfl) (.cons (rv.same sm') .nil)⟩
 ·intro z
  rw [enumD_len] at z
  exact ⟨by rw [r1.length]; exact z,vs,h1,rfl⟩
def aEnumT (as:AA):AI:=fun ρ q=>as ρ fun rs ρ1=>match rs with
 | [.d (.tup ds)]=>q (enumD 0 ds) (fun _=>True) ρ1
 | _=>False
theorem tiok_enumT {pin:Nat→Bool} (h:TAok K ts as):TIok K pin (iEnumT K ts) (aEnumT as):=by
 intro F σ ρ H q Rk r ha k
 refine h F σ ρ H _ _ r ha fun rs ρ1 vs H1 h1 r1 i1 k1=>?_
 split at h1
 ·rename_i ds
  obtain ⟨x,rfl,ix⟩:=i1.one
  have rd:RepD K _ x (.tup ds):=ix
  unfold RepD at rd
  obtain ⟨a,vs,rfl,sq,rd⟩:=rd
  refine ⟨a,vs,rfl,hid_sub.seqT sq.sq,k _ _ _ _ _ h1 r1 k1 fun σ2 ρ2 H2 sm sv pn al hc=>?_⟩
  exact wk_enumT (fun a z=>(al a z).1) (hid_sub.seqT (sm.seqT sq.sq)) (rd.same sm)
 ·exact h1.elim
end
end L2
namespace L2
open PySem PySem.Spec PyProof.Rows PySem.W
end L2
namespace L2
open PySem PySem.Spec PyProof.Rows PySem.W Builtin Builtin.ObjectAttr
end L2
namespace L2
open PySem PySem.Spec PyProof.Rows PySem.W
def exI (e C:Addr) (od:Option Addr):Heap→Prop:=fun h=>∃ t,h.get? e = some { cls:=.ref C,dict:=od,data:=.fields #[.ref t,.none,.none,.none,.bool false,.none] }
theorem exI.ok {P:Program} {w:World} {H:Hp} {h:Heap} {e C:Addr} {od:Option Addr} (q:exI e C od h):ObjOk P w H h e (.ext (exI e C od)) :=
 ⟨q,let ⟨t,g⟩:=q; ⟨_,g⟩,fun h1 h2 ⟨t,g⟩ k=>⟨t,k _ g⟩⟩
theorem tn3:∀ k:Nat,k < 10000000000000000000000000000000000000000000000000000000000000000000000→(toString (k:Int):Str).length ≤ 70:=fun k h=>toString_length_le (v:=(k:Int)) (k:=70) (by omega) (by decide) (by omega)
theorem lg200 {k:Nat} (h:k < 10000000000000000000000000000000000000000000000000000000000000000000000):(k:Int).natAbs.log2 < 1920:=by
 rw [Int.natAbs_natCast]
 by_cases h0:k = 0
 ·subst h0; decide
 ·have:=(Nat.log2_lt h0).mpr (show k < 2 ^ 233 by omega)
  omega
theorem j3 {σ:St} {H:Hp} {Q:VK} {a c:Str} {n i:Nat} (ha:a.length ≤ 1000) (hc:c.length ≤ 1000) (hn:n < 10000000000000000000000000000000000000000000000000000000000000000000000) (hv:σ[i]? = some (some (.int n))) (h:∀ t,Q (.str t) H):jCons (tC (.str a)) (jCons (tFmt (tVar i)) (jCons (tC (.str c)) jNil)) Str.empty σ H Q:=by
 have t3:=tn3 n hn
 have l0:Str.empty.length = 0:=rfl
 have e1:(Str.empty ++ a).length ≤ 1000:=by rw [Str.length_append,l0]; omega
 have e2:(Str.empty ++ a ++ (toString (n:Int):Str)).length ≤ 1070:=by rw [Str.length_append]; omega
 have e3:(Str.empty ++ a ++ (toString (n:Int):Str) ++ c).length ≤ 2070:=by rw [Str.length_append]; omega
 refine ⟨_,rfl,by rw [sizeLine_eq]; omega,.int n,hv,n,rfl,lg200 hn,_,rfl,by rw [sizeLine_eq]; omega,_,rfl,by rw [sizeLine_eq]; omega,by rw [sizeLine_eq]; omega,h _⟩
end L2
namespace L2
open PySem PySem.Spec PyProof.Rows
end L2
namespace L2
theorem gl_two {i j:Nat} {d:D} {ρ:En} {k:En→Prop} (h:gaTup 2 (gaCons (gaName i) (gaCons (gaName j) gaNil)) d ρ k):∃ ρ',k ρ':=by
 cases d with
 | tup ds =>
  cases ds with
  | nil=>exact h.elim
  | cons d1 ds =>
   cases ds with
   | nil=>exact h.elim
   | cons d2 ds =>
    cases ds with
    | nil=>exact ⟨_,h⟩
    | cons _ _=>exact h.elim
 | _=>exact h.elim
theorem three_d {i j m:Nat} {d1 d2 d3:D} {ρ:En} {k:En→Prop} (h:k (pt (pt (pt ρ i (.vl d1)) j (.vl d2)) m (.vl d3))):gaTup 2 (gaCons (gaName i) (gaCons (gaTup 2 (gaCons (gaName j) (gaCons (gaName m) gaNil))) gaNil)) (.tup [d1,.tup [d2,d3]]) ρ k:=h
end L2
namespace L2
open PySem PySem.Spec PyProof.Rows
abbrev EnO (h:Heap) (e it:Addr) (i:Int) (old:Value) (a:Addr) (f:Bool):Prop :=
 h.get? e = some { cls:=.type "enumerate",dict:=none,data:=.fields #[rawInt a,.bool f,.ref it,rawInt i,.none,old],slots:=#[] }
section
variable {prog:Program} {w:World} {A:Around} {E:Value→Shared→Prop} {s:Shared}
theorem le_alive {a:Addr} {o:Obj} {Q:Option Obj→Shared→Prop} (ho:s.heap.get? a = some o) (h:Q (some o) s):wpAny (model prog w) A (loadIfAlive a) Q E s:=by
 have h':Q (s.heap.get? a) s:=by rw [ho]; exact h
 exact fun _ _ _=>h'
theorem enO_next {e it a:Addr} {f:Bool} {oa:Obj} {fp:List Addr} {n i:Nat} {P:Nat→Value→Prop} {St:Nat→Heap→Prop} {old:Value} {Q:Value→Shared→Prop}
  (D:Draws prog w A it fp n P St) (he:EnO s.heap e it i old a f) (ha:s.heap.get? a = some oa) (hae:a ≠ e) (hai:a ≠ it) (hst:St i s.heap) (hlt:i < n) (hne:e ≠ it) (hef:e ∉ fp)
  (hQ:∀ x h' tk,P i x→EnO h' e it ((i:Int) + 1) old a true→St (i + 1) h' →
   h'.get? s.heap.objs.size = some { cls:=.type "tuple",data:=.seq #[.int i tk,x] }→h'.objs.size = s.heap.objs.size + 1 →
   (∀ b o,b ≠ e→b ≠ it→s.heap.get? b = some o→h'.get? b = some o)→Q (.ref s.heap.objs.size) { s with heap:=h',toks:=tk + 1 }) :
  wpAny (model prog w) A (Builtin.«enumerate.__next__» ⟨[.ref e],[]⟩) (fun fin s'=>∃ v,fin = .done (.ret v)∧Q v s') E s:=by
 obtain ⟨hp,g,d,tk₀,os⟩:=s
 show wpAny _ _ (field (.ref e) 2 >>= _) _ _ _
 refine wpAny_bind (wpAny_field he rfl (x:=.ref it) rfl ?_)
 refine wpAny_bind (D.item i _ _ _ hlt hst fun x h₁ tk hPx hit₁ hs₁=>?_)
 replace hs₁:Heap.SameBut it hp h₁:=hs₁
 have he₁:EnO h₁ e it i old a f:=(hs₁.2 e hne).trans he
 show wpAny _ _ (field (.ref e) 3 >>= _) _ _ ⟨h₁,g,d,tk,os⟩
 refine wpAny_bind (wpAny_field he₁ rfl (x:=rawInt i) rfl ?_)
 show wpAny _ _ (field (.ref e) 4 >>= _) _ _ ⟨h₁,g,d,tk,os⟩
 refine wpAny_bind (wpAny_field he₁ rfl (x:=.none) rfl ?_)
 show wpAny _ _ (mkInt i >>= _) _ _ ⟨h₁,g,d,tk,os⟩
 refine wpAny_bind (wpAny_mkInt ?_)
 show wpAny _ _ (setField (.ref e) 3 (rawInt ((i:Int) + 1)) >>= _) _ _ ⟨h₁,g,d,tk + 1,os⟩
 refine wpAny_bind (wpAny_setField_rec he₁ (by simp) fun h₂ he₂ hs₂=>?_)
 replace hs₂:Heap.SameBut e h₁ h₂:=hs₂
 replace he₂:EnO h₂ e it ((i:Int) + 1) old a f:=he₂
 show wpAny _ _ (setField (.ref e) 4 .none >>= _) _ _ ⟨h₂,g,d,tk + 1,os⟩
 refine wpAny_bind (wpAny_setField_rec he₂ (by simp) fun h₃ he₃ hs₃=>?_)
 replace hs₃:Heap.SameBut e h₂ h₃:=hs₃
 replace he₃:EnO h₃ e it ((i:Int) + 1) old a f:=he₃
 show wpAny _ _ (newTuple [.int i tk,x] >>= _) _ _ ⟨h₃,g,d,tk + 1,os⟩
 refine wpAny_bind (wpAny_newTuple ?_)
 have he₄:EnO (h₃.push { cls:=.type "tuple",data:=.seq #[.int i tk,x] }) e it ((i:Int) + 1) old a f:=Heap.get?_push_of_some _ he₃
 generalize hh₄:h₃.push { cls:=.type "tuple",data:=.seq #[.int i tk,x] } = h₄ at he₄
 have hsz:h₃.objs.size = hp.objs.size:=by rw [hs₃.1,hs₂.1,hs₁.1]
 have hel:e < hp.objs.size:=Heap.lt_size he
 have ht₄:h₄.get? hp.objs.size = some { cls:=.type "tuple",data:=.seq #[.int i tk,x] }:=by rw [← hh₄,← hsz]; exact Heap.get?_push_size _ rfl
 have hz₄:h₄.objs.size = hp.objs.size + 1:=by rw [← hh₄,Heap.size_push,hsz]
 have hk₄:∀ b o,b ≠ e→b ≠ it→hp.get? b = some o→h₄.get? b = some o:=fun b o hbe hbi hb=>by
  rw [← hh₄]; exact Heap.get?_push_of_some _ (hs₃.extBut b o hbe (hs₂.extBut b o hbe (hs₁.extBut b o hbi hb)))
 have hit₄:St (i + 1) h₄:=D.frame _ _ _ hit₁ fun b hb o y=>by
  have hbe:b ≠ e:=fun q=>hef (q ▸ hb)
  rw [← hh₄]; exact Heap.get?_push_of_some _ (hs₃.extBut b o hbe (hs₂.extBut b o hbe y))
 show wpAny _ _ (Builtin.SmallTypes.ownedTupleIsFree (.ref e) >>= _) _ _ ⟨h₄,g,d,tk + 1,os⟩
 rw [hsz]
 clear hh₄ he₃ hs₃ he₂ hs₂ he₁ hs₁ hit₁ hsz h₃ h₂ h₁
 have ha₄:h₄.get? a = some oa:=hk₄ a oa hae hai ha
 refine wpAny_bind ?_
 unfold Builtin.SmallTypes.ownedTupleIsFree
 refine wpAny_bind (wpAny_field he₄ rfl (x:=rawInt a) rfl ?_)
 show wpAny _ _ (loadIfAlive ((a:Int).toNat) >>= _) _ _ _
 rw [Int.toNat_natCast]
 refine wpAny_bind (le_alive ha₄ ?_)
 simp only [Option.isNone_some,Bool.false_eq_true,if_false]
 refine wpAny_bind (wpAny_field he₄ rfl (x:=.bool f) rfl ?_)
 have fin:∀ h₅:Heap,EnO h₅ e it ((i:Int) + 1) old a true→Heap.SameBut e h₄ h₅→Q (.ref hp.objs.size) ⟨h₅,g,d,tk + 1,os⟩:=fun h₅ he₅ hs₅ =>
  hQ x h₅ tk hPx he₅ (D.frame _ _ _ hit₄ fun b hb o y=>hs₅.extBut b o (fun q=>hef (q ▸ hb)) y) (hs₅.extBut _ _ (Nat.ne_of_gt hel) ht₄) (by show h₅.objs.size = hp.objs.size + 1; rw [hs₅.1,hz₄]) fun b o hbe hbi hb=>hs₅.extBut b o hbe (hk₄ b o hbe hbi hb)
 cases f with
 | true =>
  rw [if_neg (show ¬ ((Value.bool true != Value.bool true) = true) from Bool.false_ne_true)]
  refine wpAny_pure ?_
  simp only [Bool.false_eq_true,if_false]
  exact wpAny_pure ⟨_,rfl,fin h₄ he₄ (Heap.SameBut.refl _ _)⟩
 | false =>
  rw [if_pos (show (Value.bool false != Value.bool true) = true from rfl)]
  refine wpAny_bind (wpAny_setField_rec he₄ (by simp) fun h₅ he₅ hs₅=>?_)
  replace hs₅:Heap.SameBut e h₄ h₅:=hs₅
  replace he₅:EnO h₅ e it ((i:Int) + 1) old a true:=he₅
  refine wpAny_pure ?_
  simp only [Bool.false_eq_true,if_false]
  exact wpAny_pure ⟨_,rfl,fin h₅ he₅ hs₅⟩
def EnS (h:Heap) (e it:Addr) (i:Nat) (S:Addr):Prop:=(∃ old,IsEnum h e it i old) ∨ ∃ old a f oa,EnO h e it i old a f∧h.get? a = some oa∧a ≠ e∧a ≠ it∧a ≠ S
theorem EnS.keep {h h':Heap} {e it S:Addr} {i:Nat} (x:EnS h e it i S) (hk:∀ b o,b ≠ S→h.get? b = some o→h'.get? b = some o) (hS:e ≠ S):EnS h' e it i S:=by
 rcases x with ⟨old,he⟩ | ⟨old,a,f,oa,he,ha,h1,h2,h3⟩
 ·exact .inl ⟨old,hk _ _ hS he⟩
 ·exact .inr ⟨old,a,f,oa,hk _ _ hS he,hk _ _ h3 ha,h1,h2,h3⟩
theorem EnS.typeIs {e it S:Addr} {i:Nat} (x:EnS s.heap e it i S):s.TypeIs (.ref e) "enumerate" := by
 rcases x with ⟨old,he⟩ | ⟨old,a,f,oa,he,_⟩
 ·exact ⟨_,he,rfl⟩
 ·exact ⟨_,he,rfl⟩
theorem enS_item {e it S:Addr} {fp:List Addr} {n i:Nat} {P:Nat→Value→Prop} {St:Nat→Heap→Prop} {Q:Option Value→Shared→Prop}
  (D:Draws prog w A.in1 it fp n P St) (he:EnS s.heap e it i S) (hit:it < s.heap.objs.size) (hS:S < s.heap.objs.size) (hst:St i s.heap) (hlt:i < n) (hne:e ≠ it) (hef:e ∉ fp)
  (hQ:∀ x h' tk,P i x→EnS h' e it (i + 1) S→St (i + 1) h' →
   h'.get? s.heap.objs.size = some { cls:=.type "tuple",data:=.seq #[.int i tk,x] }→h'.objs.size = s.heap.objs.size + 1 →
   (∀ b o,b ≠ e→b ≠ it→s.heap.get? b = some o→h'.get? b = some o)→Q (some (.ref s.heap.objs.size)) { s with heap:=h',toks:=tk + 1 }) :
  wpAny (model prog w) A (pyNext (.ref e)) Q E s:=by
 have hT:s.TypeIs (.ref e) "enumerate" := he.typeIs
 rcases he with ⟨old,he⟩ | ⟨old,a,f,oa,he,ha,h1,h2,h3⟩
 ·refine wpAny_pyNext_enum_itemD D he hst hlt hne hef fun x h' tk hP ho hs ht hz hk=>hQ x h' tk hP (.inr ⟨x,_,false,_,?_,ht,Nat.ne_of_gt (Heap.lt_size he),Nat.ne_of_gt hit,Nat.ne_of_gt hS⟩) hs ht hz hk
  have ec:((i + 1:Nat):Int) = (i:Int) + 1:=by omega
  rw [ec]; exact ho
 ·unfold pyNext
  refine wpAny_bind (wpAny_attempt (wpAny_callSpecial?_slot (name:=Str.ofString "__next__") hT F.slot_enumerate_next
   (wpAny_call_entry F.slot_enumerate_next hT F.entry_enumerate_next
    (enO_next D he ha h1 h2 hst hlt hne hef fun x h' tk hP ho hs ht hz hk=>wpAny_pure (hQ x h' tk hP (.inr ⟨old,a,true,oa,?_,hk a oa h1 h2 ha,h1,h2,h3⟩) hs ht hz hk)) (F.args_enumerate_next_1 _))))
  have ec:((i + 1:Nat):Int) = (i:Int) + 1:=by omega
  rw [ec]; exact ho
theorem enS_end {e it S:Addr} {fp:List Addr} {n i:Nat} {P:Nat→Value→Prop} {St:Nat→Heap→Prop} {Q:Option Value→Shared→Prop}
  (D:Draws prog w A.in1 it fp n P St) (he:EnS s.heap e it i S) (hst:St n s.heap)
  (hQ:∀ h',Heap.ExtBut it s.heap h'→Q none { s with heap:=h' }):wpAny (model prog w) A (pyNext (.ref e)) Q E s:=by
 have hT:s.TypeIs (.ref e) "enumerate" := he.typeIs
 rcases he with ⟨old,he⟩ | ⟨old,a,f,oa,he,ha,h1,h2,h3⟩
 ·exact wpAny_pyNext_enum_endD D he hst hQ
 ·unfold pyNext
  refine wpAny_bind (wpAny_attempt (wpAny_callSpecial?_slot (name:=Str.ofString "__next__") hT F.slot_enumerate_next
   (wpAny_call_entry F.slot_enumerate_next hT F.entry_enumerate_next ?_ (F.args_enumerate_next_1 _))))
  show wpAny _ _ (field (.ref e) 2 >>= _) _ _ _
  refine wpAny_bind (wpAny_field he rfl (x:=.ref it) rfl ?_)
  refine wpAny_bind (D.done _ _ _ hst fun h' x he' hx'=>?_)
  obtain ⟨o,ho,hc⟩:=hx'
  refine wpAny_bind (wpAny_isInstance (T := "StopIteration") (b:=true) ⟨o,ho,hc⟩ isSubtype_stop ?_)
  exact wpAny_pure (hQ _ he')
end
structure LeG (P:Nat→Value→Prop) (lo:Addr) (h:Heap) (as:List Addr):Prop where
 rise:as.Pairwise (· < ·)
 above:∀ a ∈ as,lo < a
 pairs:∀ (j:Nat) (a:Addr),as[j]? = some a→∃ tk x,P j x∧h.get? a = some { cls:=.type "tuple",data:=.seq #[.int j tk,x] }
theorem LeG.there {P:Nat→Value→Prop} {lo:Addr} {h:Heap} {as:List Addr} (g:LeG P lo h as) {a:Addr} (ha:a ∈ as):a < h.objs.size:=by
 obtain ⟨j,hj⟩:=List.mem_iff_getElem?.mp ha
 obtain ⟨_,_,_,e⟩:=g.pairs j a hj
 exact Heap.lt_size e
section
variable {prog:Program} {w:World} {A:Around} {s:Shared} {R:Result→Shared→Prop}
theorem le_loop {S e it:Addr} {fp:List Addr} {n:Nat} {P:Nat→Value→Prop} {St:Nat→Heap→Prop} (D:Draws prog w A.in1.in1 it fp n P St) (heS:e < S) (hiS:it < S) (hne:e ≠ it) (hef:e ∉ fp) (hSf:S ∉ fp) (hn:n ≤ sizeLine) (res:Value) {h₁:Heap}
  (hR:∀ h' tk acc c as,(∀ b o,b ≠ S→b ≠ e→b ≠ it→h₁.get? b = some o→h'.get? b = some o)→h'.get? S = some { cls:=.type "list",dict:=none,data:=.seq acc c,slots:=#[] }→as.length = n→LeG P S h' as →
   acc.toList = as.map Value.ref→R (.ok (.ret res)) { s with heap:=h',toks:=tk }) :
  ∀ (k i:Nat) (h:Heap) (tk c:Nat) (acc:Array Value) (as:List Addr),n - i = k→i ≤ n→EnS h e it i S→St i h→(∀ b o,b ≠ S→b ≠ e→b ≠ it→h₁.get? b = some o→h.get? b = some o) →
   h.get? S = some { cls:=.type "list",dict:=none,data:=.seq acc c,slots:=#[] }→acc.toList = as.map Value.ref→as.length = i→LeG P S h as →
   codeAny (model prog w) A (.builtin "list.extend.loop" ⟨[.ref S,.ref e,res],[]⟩) R { s with heap:=h,toks:=tk }:=by
 intro k
 induction k with
 | zero =>
  intro i h tk c acc as hk hi hst hD hkeep hS hacc hal hG
  have hin:i = n:=by omega
  subst hin
  refine codeAny_builtin PySem.F.entry_extend_loop ?_
  rw [Around.under_plainId PySem.F.plain_extend_loop _]
  show wpAny _ A.in1 (pyNext (.ref e) >>= _) _ _ _
  refine wpAny_bind (enS_end (s:={ s with heap:=h,toks:=tk }) (A:=A.in1) D hst hD fun h' he=>?_)
  refine wpAny_pure (hR h' tk acc c as (fun b o h1 h2 h3 e=>he b o h3 (hkeep b o h1 h2 h3 e)) (he S _ (Nat.ne_of_gt hiS) hS) hal ⟨hG.rise,hG.above,fun j a hj=>?_⟩ hacc)
  obtain ⟨t,x,e1,e3⟩:=hG.pairs j a hj
  exact ⟨t,x,e1,he a _ (Nat.ne_of_gt (Nat.lt_trans hiS (hG.above a (List.mem_of_getElem? hj)))) e3⟩
 | succ k ih =>
  intro i h tk c acc as hk hi hst hD hkeep hS hacc hal hG
  have hlt:i < n:=by omega
  have hsz:acc.size = i:=by rw [← Array.length_toList,hacc,List.length_map,hal]
  have hSl:S < h.objs.size:=Heap.lt_size hS
  refine codeAny_builtin PySem.F.entry_extend_loop ?_
  rw [Around.under_plainId PySem.F.plain_extend_loop _]
  show wpAny _ A.in1 (pyNext (.ref e) >>= _) _ _ _
  refine wpAny_bind (enS_item (s:={ s with heap:=h,toks:=tk }) (A:=A.in1) (S:=S) D hst (Nat.lt_trans hiS hSl) hSl hD hlt hne hef fun x h' tk' hP hst' hD' ht hz hkp=>?_)
  dsimp only at ht hz hkp ⊢
  have hS':=hkp S _ (Nat.ne_of_gt heS) (Nat.ne_of_gt hiS) hS
  have up:∀ b o,b ≠ S→h'.get? b = some o→(h'.update S (Obj.mapSeq (·.push (Value.ref h.objs.size)))).get? b = some o:=fun b o hb e=>(Heap.get?_update_other _ _ (Ne.symm hb)).trans e
  show wpAny _ A.in1 (updateSeq S (·.push (Value.ref h.objs.size)) >>= _) _ _ _
  refine wpAny_bind ?_
  refine wpAny_updateSeq hS' rfl (wpAny_pure ⟨plainId_quiet PySem.F.plain_extend_loop _,ih (i + 1) _ (tk' + 1) _ (acc.push (Value.ref h.objs.size)) (as ++ [h.objs.size]) (by omega) hlt (hst'.keep up (Nat.ne_of_lt heS)) (D.frame _ _ _ hD' fun b hb o e=>up b o (fun q=>hSf (q ▸ hb)) e)
   (fun b o h1 h2 h3 e=>up b o h1 (hkp b o h2 h3 (hkeep b o h1 h2 h3 e))) (Heap.get?_update_self _ hS' rfl) (by rw [Array.toList_push,hacc,List.map_append]; rfl) (by rw [List.length_append,hal]; rfl) ⟨?_,?_,?_⟩⟩) (by rw [hsz]; omega) (by show (acc.push (Value.ref h.objs.size)).size ≤ sizeLine + 1; rw [Array.size_push,hsz]; omega)
  ·refine List.pairwise_append.mpr ⟨hG.rise,List.pairwise_singleton _ _,fun a ha b hb=>?_⟩
   rw [List.mem_singleton.mp hb]
   exact hG.there ha
  ·intro a ha
   rcases List.mem_append.mp ha with ha | ha
   ·exact hG.above a ha
   ·rw [List.mem_singleton.mp ha]; exact hSl
  ·intro j b hj
   rcases Nat.lt_trichotomy j as.length with h1 | h1 | h1
   ·rw [List.getElem?_append_left h1] at hj
    obtain ⟨t,x',e1,e3⟩:=hG.pairs j b hj
    have hb:=hG.above b (List.mem_of_getElem? hj)
    exact ⟨t,x',e1,up b _ (Nat.ne_of_gt hb) (hkp b _ (Nat.ne_of_gt (Nat.lt_trans heS hb)) (Nat.ne_of_gt (Nat.lt_trans hiS hb)) e3)⟩
   ·subst h1
    have hb:h.objs.size = b:=by simpa using hj
    subst hb
    exact ⟨tk',x,by rw [hal]; exact hP,by rw [hal]; exact up _ _ (Nat.ne_of_gt hSl) ht⟩
   ·have hnone:(as ++ [h.objs.size])[j]? = none:=List.getElem?_eq_none (by rw [List.length_append,List.length_singleton]; omega)
    rw [hnone] at hj; cases hj
end
theorem enum_no_len:typeLookup (.type "enumerate") "__len__" = pure none:=by rw [typeLookup_type,builtinLookup_eq_fast]; kernel_rfl
theorem enum_no_hint:typeLookup (.type "enumerate") "__length_hint__" = pure none:=by rw [typeLookup_type,builtinLookup_eq_fast]; kernel_rfl
section
variable {prog:Program} {w:World} {A:Around} {E:Value→Shared→Prop} {s:Shared}
theorem le_call {e it:Addr} {fp:List Addr} {n:Nat} {P:Nat→Value→Prop} {St:Nat→Heap→Prop} {old:Value} {Q:Value→Shared→Prop} (D:Draws prog w A.in1.in1.in1 it fp n P St) (he:IsEnum s.heap e it 0 old) (hit:it < s.heap.objs.size) (hst:St 0 s.heap) (hne:e ≠ it) (hef:e ∉ fp) (hfp:∀ b ∈ fp,b < s.heap.objs.size) (hn:n ≤ sizeLine)
  (hQ:∀ h' tk acc c as,(∀ b o,b ≠ e→b ≠ it→s.heap.get? b = some o→h'.get? b = some o)→h'.get? s.heap.objs.size = some { cls:=.type "list",dict:=none,data:=.seq acc c,slots:=#[] }→as.length = n→LeG P s.heap.objs.size h' as →
   acc.toList = as.map Value.ref→Q (.ref s.heap.objs.size) { s with heap:=h',toks:=tk }) :
  wpAny (model prog w) A (call (.type "list") [.ref e]) Q E s:=by
 refine callType_codes (Q₁:=fun obj s₁=>obj = .ref s.heap.objs.size∧s₁ = { s with heap:=s.heap.push { cls:=.type "list",data:=.seq #[] } }) PySem.F.called_list (PySem.F.typeCall_list_1 _) PySem.F.entry_list_init
  (code_list_new _ ⟨rfl,rfl⟩) fun obj s₁ h₁=>?_
 obtain ⟨rfl,rfl⟩:=h₁
 have hel:e < s.heap.objs.size:=Heap.lt_size he
 have hS:(s.heap.push { cls:=.type "list",data:=.seq #[] }).get? s.heap.objs.size = some { cls:=.type "list",data:=.seq #[] }:=Heap.get?_push_size _ rfl
 have old1:∀ b o,s.heap.get? b = some o→(s.heap.push { cls:=.type "list",data:=.seq #[] }).get? b = some o:=fun b o e=>Heap.get?_push_of_some _ e
 have lts:∀ b o,s.heap.get? b = some o→b ≠ s.heap.objs.size:=fun b o e=>Nat.ne_of_lt (Heap.lt_size e)
 refine ⟨⟨_,hS,rfl⟩,PySem.F.args_list_init_2 _ _,?_⟩
 generalize hS0:s.heap.objs.size = S at hS hit hfp hQ hel lts ⊢
 generalize hh1:s.heap.push { cls:=.type "list",data:=.seq #[] } = hp1 at hS old1 ⊢
 show wpAny _ _ (do let old ← Builtin.List.listItems (.ref S); Builtin.List.listUpdate (.ref S) (fun _=>#[]); letGo old.toList.reverse; Builtin.List.listExtendWith (.ref S) (.ref e) .none) _ _ _
 refine wpAny_bind ?_
 unfold Builtin.List.listItems
 refine wpAny_bind (wpAny_seqItems hS rfl (wpAny_pure ?_))
 show wpAny _ _ (updateSeq S (fun _=>#[]) >>= fun _=>letGo (#[]:Array Value).toList.reverse >>= fun _=>Builtin.List.listExtendWith (.ref S) (.ref e) .none) _ _ _
 refine wpAny_bind (wpAny_updateSeq hS rfl ?_)
 have hS₂:=Heap.get?_update_self (Obj.mapSeq (fun _=>(#[]:Array Value))) hS rfl
 have oth:∀ b o,b ≠ S→hp1.get? b = some o→(hp1.update S (Obj.mapSeq (fun _=>(#[]:Array Value)))).get? b = some o :=
  fun b o hb e=>(Heap.get?_update_other _ _ (Ne.symm hb)).trans e
 refine wpAny_bind (wpAny_letGo ?_)
 generalize hp1.update S (Obj.mapSeq (fun _=>(#[]:Array Value))) = hp2 at hS₂ oth ⊢
 have old2:∀ b o,s.heap.get? b = some o→hp2.get? b = some o:=fun b o e=>oth b o (lts b o e) (old1 b o e)
 have he2:IsEnum hp2 e it 0 old:=old2 _ _ he
 have hT2:Shared.TypeIs { s with heap:=hp2 } (.ref e) "enumerate" := ⟨_,he2,rfl⟩
 unfold Builtin.List.listExtendWith
 refine wpAny_bind (wpAny_typeOf hT2 ?_)
 have h1:Builtin.List.listSameRef (.ref S) (.ref e) = false:=by simp [Builtin.List.listSameRef,Nat.ne_of_gt hel]
 have h2:(Value.type "enumerate" == Value.type "list") = false:=by decide
 have h3:(Value.type "enumerate" == Value.type "tuple") = false:=by decide
 simp only [h1,h2,h3,Bool.or_false,Bool.false_eq_true,if_false]
 refine wpAny_bind (wpAny_pyIter_enum he2 ?_)
 refine wpAny_bind (wpAny_holding ?_)
 unfold Builtin.List.listLengthHint
 refine wpAny_bind (wpAny_specialOf hT2 enum_no_len ?_)
 show wpAny _ _ (specialOf (Value.ref e) (Str.ofString "__length_hint__") >>= _) _ _ _
 refine wpAny_bind (wpAny_specialOf hT2 enum_no_hint ?_)
 refine wpAny_pure ?_
 show wpAny _ _ (rule "list.extend.makes-room" >>= fun _=>Builtin.List.listTouch (.ref S) >>= fun _ =>
  again (.builtin "list.extend.loop" ⟨[.ref S,.ref e,.none],[]⟩)) _ _ _
 refine wpAny_bind (wpAny_rule ?_)
 refine wpAny_bind ?_
 show wpAny _ _ (updateSeq S (·.push .none) >>= fun _=>updateSeq S (·.pop)) _ _ _
 refine wpAny_bind (wpAny_updateSeq hS₂ rfl ?_)
 have hS₃:=Heap.get?_update_self (Obj.mapSeq (·.push Value.none)) hS₂ rfl
 refine wpAny_updateSeq (hz:=by seq_fits) hS₃ rfl ?_
 have hS₄:=Heap.get?_update_self (Obj.mapSeq (·.pop)) hS₃ rfl
 have oth4:∀ b o,b ≠ S→hp2.get? b = some o→((hp2.update S (Obj.mapSeq (·.push Value.none))).update S (Obj.mapSeq (·.pop))).get? b = some o :=
  fun b o hb e=>(Heap.get?_update_other _ _ (Ne.symm hb)).trans ((Heap.get?_update_other _ _ (Ne.symm hb)).trans e)
 generalize (hp2.update S (Obj.mapSeq (·.push Value.none))).update S (Obj.mapSeq (·.pop)) = hp4 at hS₄ oth4 ⊢
 have old4:∀ b o,s.heap.get? b = some o→hp4.get? b = some o:=fun b o e=>oth4 b o (lts b o e) (old2 b o e)
 refine wpAny_pure ⟨plainId_quiet F.plain_extend_loop _,?_⟩
 refine le_loop (s:=s) (h₁:=s.heap) D hel hit hne hef (fun q=>Nat.lt_irrefl _ (hfp _ q)) hn .none (fun h' tk acc c as hk hS' hl hG hacc=>?_) n 0 hp4 s.toks _ #[] [] (Nat.sub_zero _) (Nat.zero_le _) (.inl ⟨old,old4 _ _ he⟩) (D.frame _ _ _ hst fun b hb o e=>old4 b o e) (fun b o _ _ _ e=>old4 b o e) hS₄ rfl rfl
  ⟨List.Pairwise.nil,(fun _ ha=>nomatch ha),(fun j a hj=>by simp at hj)⟩
 exact ⟨rfl,hQ h' tk acc c as (fun b o h1 h2 e=>hk b o (lts b o e) h1 h2 e) hS' hl hG hacc⟩
end
theorem track_tups {X:Cx} {pins:List (Addr × Obj)} {σ:St} {s:Shared} {H1:Hp} {lo:Addr} (fp:∀ b,lo ≤ b→FpOk X pins H1 b):∀ (as:List Addr) (xs:List V) (k:Nat) (H:Hp),Inv X pins σ H s→as.Pairwise (· < ·)→(∀ a ∈ as,lo ≤ a)→(∀ a ∈ as,H a = none) →
  (∀ j a,as[j]? = some a→∃ tk x u,xs[j]? = some x∧RelV x u∧s.heap.get? a = some { cls:=.type "tuple",data:=.seq #[.int ((k + j:Nat):Int) tk,u] }) →
  ∃ H',Inv X pins σ H' s∧Same H H'∧(∀ j a,as[j]? = some a→∃ x,xs[j]? = some x∧H' a = some (.tup [.int ((k + j:Nat):Int),x]))∧∀ b,b ∉ as→H' b = H b
 | [],xs,k,H,I,_,_,_,_=>⟨H,I,.refl _,(fun j a h=>by simp at h),fun _ _=>rfl⟩
 | a :: as,xs,k,H,I,hp,hl,hn,ht=>by
  obtain ⟨tk,x,u,ex,ru,eu⟩:=ht 0 a rfl
  have ea:=hn a List.mem_cons_self
  have hp':=List.pairwise_cons.mp hp
  have ne:∀ b ∈ as,b ≠ a:=fun b hb=>Nat.ne_of_gt (hp'.1 b hb)
  have I2:=I.trackO (p:=a) (o:=.tup [.int ((k:Nat):Int),x]) ⟨ea,(fp a (hl a List.mem_cons_self)).2⟩ ⟨by show 2 ≤ sizeLine; decide,[.int ((k:Nat):Int) tk,u],.cons ⟨_,rfl⟩ (.cons ru .nil),_,eu,rfl,_,rfl⟩
  cases xs with
  | nil=>simp at ex
  | cons x0 xs =>
   simp only [List.getElem?_cons_zero,Option.some.injEq] at ex
   subst ex
   obtain ⟨H',J1,J2,J3,J4⟩:=track_tups fp as xs (k + 1) _ I2 hp'.2 (fun b hb=>hl b (List.mem_cons_of_mem _ hb)) (fun b hb=>by rw [upd_ne (ne b hb)]; exact hn b (List.mem_cons_of_mem _ hb)) (fun j b hj=>by
    obtain ⟨tk,x,u,e1,e2,e3⟩:=ht (j + 1) b (by simpa using hj)
    exact ⟨tk,x,u,by simpa using e1,e2,by rw [show k + 1 + j = k + (j + 1) by omega]; exact e3⟩)
   refine ⟨H',J1,fun b o e=>J2 b o (by rw [upd_ne (ne_of_none e ea)]; exact e),fun j b hj=>?_,fun b hb=>?_⟩
   ·cases j with
    | zero =>
     simp only [List.getElem?_cons_zero,Option.some.injEq] at hj
     subst hj
     exact ⟨x0,rfl,J2 a _ upd_same⟩
    | succ j =>
     obtain ⟨x,e1,e2⟩:=J3 j b (by simpa using hj)
     exact ⟨x,by simpa using e1,by rw [show k + (j + 1) = k + 1 + j by omega]; exact e2⟩
   ·have nb:b ≠ a:=fun z=>hb (z ▸ List.mem_cons_self)
    rw [J4 b (fun z=>hb (List.mem_cons_of_mem _ z)),upd_ne nb]
def tLsE (K:PySem.W.Frag) (t:TA):TE:=fun σ H Q=>t σ H fun vs H1=>∃ l xs,vs = [.ref l]∧SqT K H1 l xs∧∀ ys H0 p,Same H1 H0→ys.length = xs.length →
 (∀ j x,xs[j]? = some x→∃ q,ys[j]? = some (.ref q)∧H1 q = none∧H0 q = some (.tup [.int (j:Nat),x]))→H0 p = none→Q (.ref p) (upd H0 p (.lst ys))
theorem pe_lsE (K:PySem.W.Frag) {X:Cx} {a:Expr} {ta:TA} {p1 p2 pos1 pos2:Pos} (hc:X.calm = true) (hg1:Gl X "list") (hm1:X.mg "list" = none) (hg2:Gl X "enumerate") (hm2:X.mg "enumerate" = none) (ha:PA X [a] ta) (hK:X.K = K:=by rfl)
  (hs1:starEach [.Call (.Name "enumerate" p2) [a] [] pos2] X.env = [(false,eval (.Call (.Name "enumerate" p2) [a] [] pos2) X.env)]:=by rfl) (hs2:starEach [a] X.env = [(false,eval a X.env)]:=by rfl) :
  PE X (.Call (.Name "list" p1) [.Call (.Name "enumerate" p2) [a] [] pos2] [] pos1) (tLsE K ta):=by
 subst hK
 intro pins s σ H Q I h
 refine Call_ (ld_blt I hg1 hm1 bt_list (PyProof.Rows.callWith_type1 ?_ hs1 rfl))
 rw [hs1]
 show wpAny _ _ (spliced [(false,eval (.Call (.Name "enumerate" p2) [a] [] pos2) X.env)]) _ _ s
 refine Calls.spliced_cons ?_
 refine Call_ (ld_blt I hg2 hm2 bt_enumerate (PyProof.Rows.callWith_type1 (thn (ha pos2 pins s σ H _ I h) fun us s1 ⟨vs,H1,I1,r1,q1⟩=>?_) hs2 rfl))
 obtain ⟨l,xs,rfl,h1,q⟩:=q1
 obtain ⟨u,rfl,ru⟩:=vals1 r1
 cases ru
 obtain ⟨its,rv,p1,hz⟩:=I1.tuple h1
 have lt:l < s1.heap.objs.size:=by obtain ⟨o,e,_⟩:=id p1; exact Heap.lt_size e
 refine call_enumT p1 fun h' he hi hsz hk=>Calls.spliced_nil ?_
 have pt1:h'.IsTuple l its.toArray:=by obtain ⟨o,e,r⟩:=p1; exact ⟨o,hk _ _ e,r⟩
 have nl:l ≠ s1.heap.objs.size:=Nat.ne_of_lt lt
 have nel:s1.heap.objs.size + 1 ≠ l:=Ne.symm (Nat.ne_of_lt (Nat.lt_succ_of_lt lt))
 have ltI:s1.heap.objs.size < h'.objs.size:=by rw [hsz]; exact Nat.lt_add_of_pos_right (by decide)
 have e0:IsEnum h' (s1.heap.objs.size + 1) s1.heap.objs.size ((0:Nat):Int) .none:=he
 refine le_call (s:={ s1 with heap:=h' }) (draws_tup (show X.A.in1.in1.in1.handled = none from I1.ok.hd hc) s1.heap.objs.size l nl its.toArray) he ltI ⟨hi,pt1⟩ (Nat.succ_ne_self _) (fun z=>by
  simp only [List.mem_cons,List.not_mem_nil,or_false] at z
  rcases z with z | z
  ·exact Nat.succ_ne_self _ z
  ·exact nel z) (fun b hb=>?_) (by rw [List.size_toArray,← rv.length]; exact hz) fun h2 tk acc c as hk2 hS hl hG hacc=>?_
 ·show b < h'.objs.size
  simp only [List.mem_cons,List.not_mem_nil,or_false] at hb
  rcases hb with rfl | rfl
  ·exact ltI
  ·exact Nat.lt_trans lt ltI
 ·have hle:s1.heap.objs.size ≤ h'.objs.size:=by omega
  have hS':h2.get? h'.objs.size = some { cls:=.type "list",dict:=none,data:=.seq acc c,slots:=#[] }:=hS
  have le0:∀ b,s1.heap.objs.size ≤ b→FpOk X pins H1 b:=fun b hb=>I1.fpOk hb (I1.hok.fresh hb)
  have I2:Inv X pins σ H1 { s1 with heap:=h' }:=I1.kept (t':=s1.toks) hk
  have I3:Inv X pins σ H1 { s1 with heap:=h2,toks:=tk }:=Inv.turns (s:={ s1 with heap:=h' }) (ch:=[s1.heap.objs.size + 1,s1.heap.objs.size]) (t':=tk) I2 (fun b o hb e=>by
   simp only [List.mem_cons,List.not_mem_nil,or_false,not_or] at hb
   exact hk2 b o hb.1 hb.2 e) (fun b hb=>le0 b (by
    simp only [List.mem_cons,List.not_mem_nil,or_false] at hb
    rcases hb with rfl | rfl
    ·exact Nat.le_succ _
    ·exact Nat.le_refl _))
  have abv:∀ b ∈ as,h'.objs.size < b:=hG.above
  obtain ⟨H0,J1,J2,J3,J4⟩:=track_tups (lo:=s1.heap.objs.size) le0 as xs 0 H1 I3 hG.rise (fun b hb=>Nat.le_trans hle (Nat.le_of_lt (abv b hb))) (fun b hb=>I1.hok.fresh (Nat.le_trans hle (Nat.le_of_lt (abv b hb)))) (fun j b hj=>by
   obtain ⟨t,x,e1,e2⟩:=hG.pairs j b hj
   have e1':its[j]? = some x:=by simpa using e1
   have hjl:j < xs.length:=by rw [rv.length]; exact (List.getElem?_eq_some_iff.mp e1').1
   obtain ⟨u,hu,ru⟩:=rv.get (List.getElem?_eq_getElem hjl)
   rw [e1'] at hu
   cases hu
   exact ⟨t,xs[j],x,List.getElem?_eq_getElem hjl,ru,by rw [Nat.zero_add]; exact e2⟩)
  have nS:h'.objs.size ∉ as:=fun z=>Nat.lt_irrefl _ (abv _ z)
  have f0:=le0 h'.objs.size (by omega)
  have n0:H0 h'.objs.size = none:=by rw [J4 _ nS]; exact f0.1
  have hal:as.length = xs.length:=by rw [hl,List.size_toArray,← rv.length]
  have vr:∀ l:List Addr,Vals (l.map V.ref) (l.map Value.ref):=fun l=>by
   induction l with
   | nil=>exact .nil
   | cons a l ih=>exact .cons rfl ih
  have I4:=J1.track (D:=h'.objs.size) (ys:=as.map V.ref) (its:=acc.toList) (n:=c) n0 (Nat.le_trans I1.sz (by omega)) f0.2.1 f0.2.2.2.2.1 f0.2.2.2.2.2 (by rw [List.length_map,hal]; exact hz) (by rw [hacc]; exact vr as) (by simpa using hS')
  refine ⟨.ref h'.objs.size,_,I4,rfl,q _ H0 _ J2 (by rw [List.length_map,hal]) (fun j x hx=>?_) n0⟩
  have hj:j < as.length:=by rw [hal]; exact (List.getElem?_eq_some_iff.mp hx).1
  obtain ⟨x',e1,e2⟩:=J3 j as[j] (List.getElem?_eq_getElem hj)
  rw [hx] at e1
  cases e1
  rw [Nat.zero_add] at e2
  refine ⟨as[j],by rw [List.getElem?_map,List.getElem?_eq_getElem hj]; rfl,I1.hok.fresh (Nat.le_trans hle (Nat.le_of_lt (abv as[j] (List.getElem_mem hj)))),e2⟩
section
variable {K:PySem.W.Frag} {ts:TA} {as:AA}
def aLsE (as:AA):AE:=fun ρ q=>as ρ fun rs ρ1=>match rs with
 | [.d (.tup ds)]=>q (.n (.ow (enumD 0 ds))) ρ1
 | _=>False
theorem rep_enum {H1 H0:Hp}:∀ {vs:List V} {ds:List D} {ys:List V} {b:Nat},RepDs K H1 vs ds→ys.length = vs.length→(∀ j x,vs[j]? = some x→∃ q,ys[j]? = some (.ref q)∧H0 q = some (.tup [.int ((b + j:Nat):Int),x]))→(∀ a o,H1 a = some o→H0 a = some o)→RepDs K H0 ys (enumD b ds)
 | [],[],ys,b,_,hl,_,_=>by
  cases ys with
  | nil=>exact .nil
  | cons _ _=>simp at hl
 | v :: vs,d :: ds,ys,b,r,hl,hy,sm=>by
  cases ys with
  | nil=>simp at hl
  | cons y ys =>
   unfold RepDs at r
   obtain ⟨q,e1,e2⟩:=hy 0 v rfl
   simp only [List.getElem?_cons_zero,Option.some.injEq] at e1
   subst e1
   refine .cons ?_ (rep_enum (b:=b + 1) r.2 (by simpa using hl) (fun j x hx=>?_) sm)
   ·unfold RepD
    exact ⟨q,[.int (b:Nat),v],rfl,e2,.cons (by unfold RepD; rfl) (.cons (r.1.same sm) .nil)⟩
   ·obtain ⟨q',e3,e4⟩:=hy (j + 1) x (by simpa using hx)
    exact ⟨q',by simpa using e3,by rw [show b + 1 + j = b + (j + 1) by omega]; exact e4⟩
 | [],_ :: _,_,_,r,_,_,_=>by unfold RepDs at r; exact r.elim
 | _ :: _,[],_,_,r,_,_,_=>by unfold RepDs at r; exact r.elim
theorem tok_lsE (h:TAok K ts as):TEok K (tLsE K ts) (aLsE as):=by
 intro F σ ρ H q Q r ha k
 refine h F σ ρ H _ _ r ha fun rs ρ1 vs H1 h1 r1 i1 k1=>?_
 split at h1
 ·rename_i ds
  obtain ⟨x,rfl,ix⟩:=i1.one
  have rd:RepD K _ x (.tup ds):=ix
  unfold RepD at rd
  obtain ⟨a,vs,rfl,sq,rd⟩:=rd
  refine ⟨a,vs,rfl,hid_sub.seqT sq.sq,fun ys H0 p sm hl hy hp=>?_⟩
  have k0:Kp σ ρ1 ρ1 H1 H0:=⟨fun a o e _=>sm a o e,fun _ h=>h⟩
  have hv:∀ {b},H1 b = none→¬ hs F σ ρ1 b:=fun {b} e z=>hs_alive r1 z e
  refine k (.n (.ow (enumD 0 ds))) ρ1 _ _ h1 ⟨H0,p,_,r1.grow sm,k1.trans k0,rfl,⟨p,ys,rfl,upd_same,?_⟩,hp,rfl,rfl⟩
  refine rep_enum rd hl (fun j x hx=>?_) k0.vis
  obtain ⟨q',e1,e2,e3⟩:=hy j x hx
  exact ⟨q',e1,hid_of (hv e2) (by rw [Nat.zero_add]; exact e3)⟩
 ·exact h1.elim
end
section
variable {P:Program} {w:World} {A:Around} {R:Result→Shared→Prop} {s:Shared}
theorem compLoopD_by {kx vx tg iter:Expr} {ifs:List Expr} {scope:Scope} {pos:Pos} {it:Value} {D:Addr} {env:Env} (J:Nat→Shared→Prop)
  (turn:∀ n s,J n s→wpAny (model P w) A (pyNext it) (fun r s1=>match r with
   | none=>R (.ok .next) s1
   | some v=>wpAny (model P w) A (letOwnedTupleGo tg it v) (fun _ s2=>wpAny (model P w) A (assign tg env v) (fun _ s3 =>
     wpAny (model P w) A (forIn ifs true fun c r=>if r = true then do let ok ← isTrue c env (eval c env); pure (ForInStep.yield ok) else pure (ForInStep.yield r)) (fun ok s4 =>
      if ok = true then wpAny (model P w) A (eval kx env) (fun kv s5=>wpAny (model P w) A (eval vx env) (fun vv s6=>wpAny (model P w) A (dictSet D kv vv) (fun _ s7=>∃ m,m < n∧J m s7) (fun _ _=>False) s6) (fun _ _=>False) s5) (fun _ _=>False) s4
      else ∃ m,m < n∧J m s4) (fun _ _=>False) s3) (fun _ _=>False) s2) (fun _ _=>False) s1) (fun _ _=>False) s)
  (n:Nat) (h:J n s):codeAny (model P w) A (.compLoop (.DictComp kx vx [⟨tg,iter,ifs,0⟩] scope pos) 0 it (.ref D) env) R s:=by
 have no:∀ {α:Type} {t:Sem α} {Q Q':α→Shared→Prop} {E:Value→Shared→Prop} {s:Shared},wpAny (model P w) A t Q (fun _ _=>False) s→(∀ a s,Q a s→Q' a s)→wpAny (model P w) A t Q' E s :=
  fun h hq=>wpAny_mono h hq fun _ _ f=>f.elim
 refine codeAny_loop rfl J (fun n s hJ=>?_) n h
 show wpAny _ A ((compTurn (.DictComp kx vx [⟨tg,iter,ifs,0⟩] scope pos) 0 it (.ref D) env).onRaise (fun x=>do noteFrame x env; theTreesLotGoes x)) _ _ s
 refine wpAny_noted ?_
 rw [compTurn_dict]
 refine wpAny_bind (wpAny_standAt (wpAny_bind (no (turn n s hJ) fun r s1 h1=>?_)))
 cases r with
 | none=>exact wpAny_pure h1
 | some v =>
  refine wpAny_bind (no h1 fun _ s2 h2=>wpAny_bind (no h2 fun _ s3 h3=>wpAny_bind (no h3 fun ok s4 h4=>?_)))
  cases ok with
  | false=>exact wpAny_pure ⟨rfl,h4⟩
  | true=>exact wpAny_bind (wpAny_bind (no h4 fun x s5 h5=>wpAny_bind (wpAny_holding (no h5 fun y s6 h6=>wpAny_bind (wpAny_standAt (wpAny_holding (no h6 fun _ s7 h7=>wpAny_pure ⟨rfl,h7⟩)))))))
end
def CompWD (J:It) (n:Nat) (js:List Nat) (g:TG) (tc:TT) (tk tv:TE) (Q:VK) (σ:St) (H1:Hp):Prop:=∃ W:Nat→Nat→List (Key × V)→Hp→Prop,(∃ m,W 0 m [] H1)∧∀ i m ys H,W i m ys H →
 (J.stop i H∧ys.length ≤ sizeLine∧∀ l,H l = none→Q (.ref l) (upd H l (.dK ys))) ∨
 (J.go i H∧ys.length < sizeLine∧∃ N:List (Key × V)→Hp→Prop,(∀ zs H',N zs H'→∃ m',m' < m∧W (i + 1) m' zs H')∧∀ x H',J.yld i H x H'→g x (bst n σ js) H' fun σ2 H2=>σ2.drop n = capt σ js∧tc σ2 H2 fun b H3 =>
  if b = true then tk σ2 H3 fun kv H4=>tv σ2 H4 fun v H5=>∃ k,kv = kV k∧N (putK ys k v) H5 else N ys H3)
def tCompD (n:Nat) (js:List Nat) (wi:TI) (g:TG) (tc:TT) (tk tv:TE):TE:=fun σ H Q=>wi σ H fun J H1=>CompWD J n js g tc tk tv Q σ H1
section
variable {X:Cx}
theorem comp_blockD {kx vx tg iter:Expr} {ifs:List Expr} {scope:Scope} {pos:Pos} {own:List Str} {js:List Nat} {g:TG} {tc:TT} {tk tv:TE} {Q:VK} {pins:List (Addr × Obj)} {σ:St} {s2:Shared} {itv:Value} {E:Value→Shared→Prop}
  {RR:Value→Addr→Result→Shared→Prop} (hc:X.calm = true) (B:Blk X scope own js) (hg:∀ s H C fp,(own ++ capN X.N js).Nodup→PG (blk X scope (own ++ capN X.N js) s H C fp) tg g) (ht:∀ s H C fp,PTs (blk X scope (own ++ capN X.N js) s H C fp) ifs tc)
  (hk:∀ s H C fp,PE (blk X scope (own ++ capN X.N js) s H C fp) kx tk) (hv:∀ s H C fp,PE (blk X scope (own ++ capN X.N js) s H C fp) vx tv)
  (h:PIE X pins σ tg (fun J H1=>CompWD J own.length js g tc tk tv Q σ H1) itv s2)
  (hR:∀ C acc s',Behind X pins σ Q C acc s'→RR acc C (.ok .next) s') :
  wpAny (model X.prog X.w) X.A newDict (fun acc s3=>wpAny (model X.prog X.w) X.A (newFunctionEnv scope X.env.globals (closOf scope X.env) [] X.env.qual none .none (some X.env)) (fun cenv s4 =>
   codeAny (model X.prog X.w) X.A (.compStart (.DictComp kx vx [⟨tg,iter,ifs,0⟩] scope pos) 0 itv acc { cenv with scope:=relabel scope X.env }) (RR acc cenv.locals) s4) E s3) E s2:=by
 obtain ⟨it,fp,tn,J,H2,rfl,I2,T,st2,f2,W,⟨m0,w0⟩,turn⟩:=h
 refine wpAny_newObj_type (wpAny_newFunctionEnv B.nocell (by intro y hy; simp at hy) (fun h1 hns1 hsb1=>?_) B.kind)
 have hnew:(s2.heap.push { cls:=.type "dict",dict:=none,data:=.dict #[] }).DictOf (mixKind X.prog X.w) s2.heap.objs.size []:=Heap.DictOf.new s2.heap
 generalize hPu:s2.heap.push { cls:=.type "dict",dict:=none,data:=.dict #[] } = Pu at hns1 hsb1 hnew ⊢
 dsimp only at hns1 hsb1 ⊢
 have hDC:Pu.objs.size = s2.heap.objs.size + 1:=by rw [← hPu,Heap.size_push]
 have hbig:=I2.big
 generalize hD:s2.heap.objs.size = D at hDC hnew hbig ⊢
 generalize hC:Pu.objs.size = C at hns1 hsb1 hDC ⊢
 have ltDC:D < C:=by rw [hDC]; exact Nat.lt_succ_self D
 have neDC:D ≠ C:=Nat.ne_of_lt ltDC
 have keep1:∀ b o,s2.heap.get? b = some o→h1.get? b = some o:=fun b o e=>by
  have hb:b < D:=by rw [← hD]; exact Heap.lt_size e
  have hb2:b ≠ C:=Nat.ne_of_lt (Nat.lt_trans hb ltDC)
  refine (hsb1.2 b hb2).trans (Heap.get?_push_of_some _ ?_)
  rw [← hPu]
  exact Heap.get?_push_of_some _ e
 have gD1:h1.DictOf (mixKind X.prog X.w) D []:=hnew.at fun o e=>(hsb1.2 D neDC).trans (Heap.get?_push_of_some _ e)
 have szD:s2.heap.objs.size ≤ D:=Nat.le_of_eq hD
 have szC:s2.heap.objs.size ≤ C:=Nat.le_trans szD (Nat.le_of_lt ltDC)
 have old:∀ {b:Addr},b < s2.heap.objs.size→b ≠ D∧b ≠ C:=fun hb=>⟨Nat.ne_of_lt (Nat.lt_of_lt_of_le hb szD),Nat.ne_of_lt (Nat.lt_of_lt_of_le hb szC)⟩
 have fpo:∀ b ∈ fp,∃ o,s2.heap.get? b = some o:=fun b hb=>let ⟨o,e,_⟩:=T.obj 0 _ st2 b hb; ⟨o,e⟩
 have fpD:∀ b ∈ fp,b ≠ D∧b ≠ C:=fun b hb=>by
  obtain ⟨o,e⟩:=fpo b hb
  exact old (Heap.lt_size e)
 have clD:∀ x d,X.env.cells.lookup x = some d→d ≠ D∧d ≠ C:=fun x d e=>by
  obtain ⟨v,o,ho,_⟩:=I2.cell x d e
  exact old (Heap.lt_size ho)
 have pinD:∀ p ∈ X.pn ++ pins,p.1 ≠ D∧p.1 ≠ C:=fun p hp=>by
  exact old (Heap.lt_size (I2.pin p hp).1)
 have locD:D ≠ X.env.locals∧C ≠ X.env.locals:=by
  exact ⟨(old I2.lt).1.symm,(old I2.lt).2.symm⟩
 let Y:=blk X scope (own ++ capN X.N js) s2 H2 C fp
 have IB:Inv Y [] (bst own.length σ js) H2 { s2 with heap:=h1,toks:=s2.toks + ([]:List (Str × Value)).length }:=blk_inv B I2 f2 fpo szC hns1 keep1
 have fpB:∀ {H':Hp} {pl:List (Addr × Obj)},(∀ b ∈ fp,H' b = none)→(∀ p ∈ pl,p.1 = D)→∀ b ∈ fp,FpOk Y pl H' b:=fun {H' pl} hn hp b hb=>by
  obtain ⟨f0,f1,f3,f4,f5,f6⟩:=f2 b hb
  refine ⟨hn b hb,(fpD b hb).2,fun z=>?_,.inl hb,fun x c e=>f5 x c (closOf_old e),fun p q=>?_⟩
  ·rcases List.mem_cons.mp (I2.stkSub b z) with z | z
   ·exact f1 z
   ·exact f3 z
  ·have q':p ∈ pl:=by simpa [Y,blk] using q
   rw [hp p q']
   exact (fpD b hb).1.symm
 have clB:∀ x d,Y.env.cells.lookup x = some d→d ≠ D:=fun x d e=>(clD x d (closOf_old e)).1
 have notFs:D ∉ Y.fs:=fun z=>by
  obtain ⟨_,o,ho,_⟩:=IB.ok.funs.mem z
  exact (old (Heap.lt_size (show s2.heap.get? D = some o from ho))).1 rfl
 have loop:∀ s3:Shared,s3 = { s2 with heap:=h1,toks:=s2.toks + ([]:List (Str × Value)).length } →
   codeAny (model X.prog X.w) X.A (.compLoop (.DictComp kx vx [⟨tg,iter,ifs,0⟩] scope pos) 0 (.ref it) (.ref D) (compEnvC scope (closOf scope X.env) C X.env)) (RR (.ref D) C) s3:=by
  rintro s3 rfl
  refine compLoopD_by (fun n s'=>∃ (i:Nat) (ys:List (Key × V)) (vs:List (Key × Value)) (H':Hp),Inv Y [] (bst own.length σ js) H' s'∧tn i s'.heap∧(∀ b ∈ fp,H' b = none)∧H' D = none∧KV ys vs ∧
   s'.heap.DictOf (mixKind X.prog X.w) D vs∧W i n ys H') ?_ m0 ⟨0,[],[],H2,IB,T.keep 0 _ _ st2 (fun b hb o e=>keep1 b o e),fun b hb=>(f2 b hb).1,I2.hok.fresh szD,.nil,gD1,w0⟩
  rintro n s3 ⟨i,ys,vs,H3,I3,st3,fr3,hD3,r3,g3,w3⟩
  obtain ⟨od,ho3,hdd⟩:=Heap.dictOf_iff.mp g3
  have dat3:∀ {h:Heap},h.get? D = some od→h.DictOf (mixKind X.prog X.w) D vs:=fun e=>Heap.dictOf_iff.mpr ⟨od,e,hdd⟩
  have ncell:∀ v,od.data ≠ .cell v:=fun v z=>by
   obtain ⟨o,es,ep,ho,hcl,hda,_⟩:=g3
   rw [ho3] at ho; cases ho; rw [hda] at z; cases z
  have I3p:Inv Y [(D,od)] (bst own.length σ js) H3 s3:=I3.pins_of fun p hp=>by
   have e:p = (D,od):=by simpa using hp
   subst e
   exact ⟨ho3,hD3,neDC,notFs,ncell⟩
  have f3:∀ b ∈ fp,FpOk Y [(D,od)] H3 b:=fpB fr3 fun p hp=>by
   have e:p = (D,od):=by simpa using hp
   rw [e]
  rcases turn i n ys H3 w3 with ⟨stop,hz,qn⟩ | ⟨go,hz,N,hN,step⟩
  ·refine thn (T.done Y rfl rfl rfl hc i _ s3 _ H3 (fun _ _=>False) I3p f3 st3 stop) fun r s4 ⟨hr,I4⟩=>?_
   subst hr
   refine hR C _ s4 ?_
   have g4:=(I4.pin (D,od) (by simp [Y,blk])).1
   obtain ⟨m,hn4,_⟩:=id I4.loc
   have un:Un (frs X.stack) fp H2 H3 s2.heap s4.heap:=I4.base
   have I5:Inv X pins σ H3 s4:=I2.call' I4.os un I4.hok I4.bare fun b hb=>let ⟨_,b1,_,b3,b4,b5⟩:=f2 b hb; ⟨b3,b1,b4,b5⟩
   have I6:=I5.trackO (p:=D) (o:=.dK ys) (I2.fpOk szD hD3) (dk_new hz (beq_eq_false_iff_ne.mpr (Ne.symm (Nat.ne_of_lt hbig))) r3 (dat3 g4))
   refine ⟨D,_,m,rfl,hn4,I6,?_,Nat.le_trans I2.sz szC,locD.2,fun x d e=>(clD x d e).2,fun p hp=>(pinD p hp).2,qn D hD3⟩
   rw [upd_ne (Ne.symm neDC)]
   exact I4.free
  ·refine thn (T.item Y rfl rfl rfl hc i _ s3 _ H3 (fun _ _=>False) I3p f3 st3 go) fun r s4 ⟨u,hr,h4⟩=>?_
   subst hr
   refine thn h4 fun _ s5 ⟨x,H5,I5,r5,y5,st5,fr5⟩=>?_
   have f5:∀ b ∈ fp,FpOk Y [(D,od)] H5 b:=fun b hb=>⟨fr5 b hb,(f3 b hb).2⟩
   have I5':=I5.pinned f5 (T.obj _ _ st5)
   refine thn (hg s2 H2 C fp B.nd _ s5 _ H5 x u _ I5' r5 (step x H5 y5)) fun _ s6 ⟨σ6,H6,I6,d6,q6⟩=>?_
   refine thn (ht s2 H2 C fp _ s6 σ6 H6 _ I6 q6) fun ok s7 ⟨H7,I7,q7⟩=>?_
   have after:∀ {s8:Shared} {H8:Hp},Inv Y ([(D,od)] ++ pinsAt fp s5.heap) σ6 H8 s8 →
     s8.heap.get? D = some od∧H8 D = none∧tn (i + 1) s8.heap∧(∀ b ∈ fp,H8 b = none)∧Inv Y [] (bst own.length σ js) H8 s8:=fun {s8 H8} I8=>by
    have p8:=I8.pin (D,od) (by simp [Y,blk])
    refine ⟨p8.1,p8.2.1,T.keep _ _ _ st5 fun b hb o e=>(I8.pin (b,o) (List.mem_append_right _ (List.mem_append_right _ (mem_pinsAt hb e)))).1,fun b hb=>?_,?_⟩
    ·obtain ⟨o,e,_⟩:=T.obj _ _ st5 b hb
     exact (I8.pin (b,o) (List.mem_append_right _ (List.mem_append_right _ (mem_pinsAt hb e)))).2.1
    ·refine (I8.pins_of (pins':=[]) fun p hp=>absurd hp (by simp [Y,blk])).weak ?_ fun j v e=>?_
     ·rw [I8.len,bst_len]
      show _ = (own ++ capN X.N js).length
      unfold capN
      simp
     ·rcases Nat.lt_or_ge j own.length with z | z
      ·exfalso
       unfold bst at e
       rw [List.getElem?_append_left (by simpa using z),List.getElem?_replicate] at e
       split at e <;> cases e
      ·unfold bst at e
       rw [List.getElem?_append_right (by simpa using z),List.length_replicate,← d6,List.getElem?_drop] at e
       rw [← e]
       congr 1
       omega
   cases ok with
   | false =>
    rw [if_neg Bool.false_ne_true] at q7 ⊢
    obtain ⟨m',hm,w7⟩:=hN _ _ q7
    obtain ⟨a1,a2,a3,a4,a5⟩:=after I7
    exact ⟨m',hm,i + 1,ys,vs,H7,a5,a3,a4,a2,r3,dat3 a1,w7⟩
   | true =>
    rw [if_pos rfl] at q7 ⊢
    refine thn (hk s2 H2 C fp _ s7 σ6 H7 _ I7 q7) fun u8 s8 ⟨v8,H8,I8,r8,n8⟩=>?_
    refine thn (hv s2 H2 C fp _ s8 σ6 H8 _ I8 n8) fun u9 s9 ⟨v9,H9,I9,r9,kk,ek,n9⟩=>?_
    subst ek
    obtain ⟨m',hm,w9⟩:=hN _ _ n9
    obtain ⟨a1,a2,a3,a4,a5⟩:=after I9
    have hvz:vs.length ≤ sizeLine:=by rw [← r3.length]; exact Nat.le_of_lt hz
    refine wpAny_dictSet_pairs (hsz:=hvz) (kV_is r8) (dat3 a1) fun h' dd' hs'=>?_
    have sb:Heap.SameBut D s9.heap h':=hs'
    have I10:=(Inv.young a5 sb a2 szD neDC clB (fun p hp=>absurd hp (by show p ∉ [] ++ []; simp))).tok (s9.toks + 1)
    exact ⟨m',hm,i + 1,putK ys kk v9,stored vs kk u9,H9,I10,T.keep _ _ _ a3 (fun b hb o e=>(sb.2 b (fpD b hb).1).trans e),a4,a2,r3.put kk r9,dd',w9⟩
 exact codeAny_compStart_dict (loop _ rfl) (T.self _ 0 _ _ _ (T.keep 0 _ _ st2 fun b hb o e=>keep1 b o e) (loop _ rfl))
theorem ps_setCD {kx vx tg iter:Expr} {ifs:List Expr} {scope:Scope} {pos pos' spos:Pos} {i:Nat} {x:Str} (own:List Str) (js:List Nat) {wi:TI} {g:TG} {tc:TT} {tk tv:TE} (hN:X.N.Nodup) (hi:X.N[i]? = some x) (hx:Loc X.env.scope x)
  (hc:X.calm = true) (B:Blk X scope own js) (hit:PI X tg iter wi)
  (hg:∀ s H C fp,(own ++ capN X.N js).Nodup→PG (blk X scope (own ++ capN X.N js) s H C fp) tg g) (ht:∀ s H C fp,PTs (blk X scope (own ++ capN X.N js) s H C fp) ifs tc) (hk:∀ s H C fp,PE (blk X scope (own ++ capN X.N js) s H C fp) kx tk) (hv:∀ s H C fp,PE (blk X scope (own ++ capN X.N js) s H C fp) vx tv)
  (hf:X.fn x = true ∨ X.env.scope.names.lookup x = some .local:=by first | exact .inl rfl | exact .inr rfl | assumption)
  (hw:swapsWith (.DictComp kx vx [⟨tg,iter,ifs,0⟩] scope pos) (some (.Name x pos')) spos.line X.env = pure true:=by rfl)
  (hs:∀ x,foldedSetIterable iter X.env x = pure x:=by intro _; rfl) :
  PS X (.Assign [.Name x pos'] (.DictComp kx vx [⟨tg,iter,ifs,0⟩] scope pos) spos) (fun D σ H=>tCompD own.length js wi g tc tk tv σ H fun v H'=>D.nx (σ.set i (some v)) H'):=by
 intro pins s σ H D I h
 have hcl:closureFor scope X.env = pure (closOf scope X.env):=closureFor_of fun x hx hf=>I.ok.has x.1 (B.free x hx hf)
 rw [exec_Assign_Name_used _ _ _ _ hw]
 refine wpAny_bind (wpAny_standAt (wpAny_bind ?_))
 show wpAny _ X.A (do let _ ← comprehension (.DictComp kx vx [⟨tg,iter,ifs,0⟩] scope pos) scope X.env _ newDict false (eval iter X.env) (some (assign (.Name x pos') X.env))) _ _ s
 refine wpAny_bind (thn (Q:=fun _ s'=>SP X pins D .next s') (wpAny_comprehension_free (use:=some (assign (.Name x pos') X.env)) rfl hs hcl B.kind B.names (thn (hit pins s σ H _ I h) fun v s1 h1=>thn h1 fun itv s2 h2=>?_)) fun _ s' q=>wpAny_pure (wpAny_pure q))
 refine comp_blockD (Q:=fun v H'=>D.nx (σ.set i (some v)) H') (RR:=fun acc C=>compPost (model X.prog X.w) X.A X.xe (some (assign (.Name x pos') X.env)) (fun _ s'=>SP X pins D .next s') acc C) hc B hg ht hk hv h2 fun C acc s' hb=>?_
 obtain ⟨l,H',m,rfl,hn,I',c1,c2,c3,c4,c5,q⟩:=hb
 show wpAny _ X.A (assign (.Name x pos') X.env (.ref l)) _ _ _
 refine wpAny_assign_Name (store_ok2 (v:=.ref l) I' hN hi hx rfl (fun s3 I3 ⟨a,sb,ha⟩=>?_) hf)
 have ne:C ≠ a:=by
  rcases ha with z | z
  ·rw [z]; exact c3
  ·exact (c4 x a z).symm
 exact ⟨m,hn.sameBut sb ne,fun h' hs'=>⟨_,H',I3.young hs' c1 c2 c3 c4 c5,q⟩⟩
end
def compAD (n:Nat) (js:List Nat) (c:En→Prop) (g:AG) (tc:AT) (ak av:AE) (q:List (Key × D)→En→Prop):List D→List (Key × D)→En→Prop
 | [],acc,ρ=>c ρ∧q acc ρ
 | d :: ds,acc,ρ=>c ρ∧g d (blkE n js ρ) fun ρ1=>tc ρ1 fun b ρ2=>if b = true then ak ρ2 fun rk ρ3=>av ρ3 fun r ρ4=>sto [r.frz] ρ4 fun es ρ5=>(match rk,es with
   | .d kd,[e]=>(match dKey kd with
    | some k=>compAD n js c g tc ak av q ds (putD acc k e) (back ρ (js.map R.o) (ρ5.drop n))
    | none=>False)
   | _,_=>False) else compAD n js c g tc ak av q ds acc (back ρ (js.map R.o) (ρ2.drop n))
def aCompD (n:Nat) (js:List Nat) (i:AI) (g:AG) (tc:AT) (ak av:AE):AE:=fun ρ q=>i ρ fun ds c ρ1=>ds.length ≤ 1000000∧compAD n js c g tc ak av (fun acc ρ2=>q (.n (.dk acc)) ρ2) ds [] ρ1
theorem putD_len {κ:Type} [DecidableEq κ] (kvs:List (κ × D)) (k:κ) (d:D):(putD kvs k d).length ≤ kvs.length + 1:=by
 unfold putD
 split
 ·simp
 ·simp
section
variable {K:PySem.W.Frag}
theorem tok_compD {n:Nat} {js:List Nat} {wi:TI} {g:TG} {tc:TT} {tk tv:TE} {ai:AI} {ag:AG} {atc:AT} {ak av:AE} (hi:TIok K (fun _=>true) wi ai) (hg:TGok K (fun j=>decide (n ≤ j)) g ag) (hc:TTok K tc atc) (hk:TEok K tk ak) (hv:TEok K tv av)
  (hd:dis (js.map R.o) = true:=by rfl):TEok K (tCompD n js wi g tc tk tv) (aCompD n js ai ag atc ak av):=by
 intro F σ ρ H q Q r h k
 refine hi F σ ρ H _ _ r h fun ds c ρ1 J H1 h1 r1 k1 wk=>?_
 obtain ⟨hz,h1⟩:=h1
 have hd':dis (blkR n js) = true:=by rw [blkR_dis]; exact hd
 refine ⟨fun i m ys H'=>∃ ρ' acc,m = ds.length - i∧i ≤ ds.length∧Rel K F σ ρ' H'∧Kp σ ρ1 ρ' H1 H'∧ys.map Prod.fst = acc.map Prod.fst∧RepDs K (hid H' (hs F σ ρ')) (ys.map Prod.snd) (acc.map Prod.snd)∧acc.length ≤ i∧compAD n js c ag atc ak av (fun acc ρ2=>q (.n (.dk acc)) ρ2) (ds.drop i) acc ρ',⟨ds.length,ρ1,[],rfl,Nat.zero_le _,r1,.refl,rfl,.nil,Nat.zero_le _,h1⟩,?_⟩
 rintro i m ys H' ⟨ρ',acc,rfl,hl,r',k',rk,rd,al,h'⟩
 have w:c ρ'→WkAt K (hs F σ ρ') H' J ds:=fun hc=>wk σ ρ' H' k'.vis r'.sl (fun _ _ _ e=>e) (fun a z=>hs_nt r' z) hc
 have yl:ys.length = acc.length:=keys_len rk
 rcases Nat.lt_or_ge i ds.length with lt | ge
 ·right
  rw [List.drop_eq_getElem_cons lt] at h'
  unfold compAD at h'
  obtain ⟨hcc,h'⟩:=h'
  obtain ⟨go,yld⟩:=(w hcc i).1 ds[i] (List.getElem?_eq_getElem lt)
  refine ⟨go,smallS (by omega),fun zs H2=>∃ ρ2 acc2,Rel K F σ ρ2 H2∧Kp σ ρ1 ρ2 H1 H2∧zs.map Prod.fst = acc2.map Prod.fst∧RepDs K (hid H2 (hs F σ ρ2)) (zs.map Prod.snd) (acc2.map Prod.snd)∧acc2.length ≤ i + 1∧compAD n js c ag atc ak av (fun acc ρ2=>q (.n (.dk acc)) ρ2) (ds.drop (i + 1)) acc2 ρ2,
   fun zs H2 ⟨ρ2,acc2,a1,a2,a3,a3',a4,a5⟩=>⟨ds.length - (i + 1),by omega,ρ2,acc2,rfl,lt,a1,a2,a3,a3',a4,a5⟩,fun x H2 hy=>?_⟩
  obtain ⟨sm,rx⟩:=yld x H2 hy
  have r0':=r'
  have k':Kp σ ρ1 ρ' H1 H2:=k'.trans ⟨fun a o e _=>sm a o e,fun _ h=>h⟩
  have rd:RepDs K (hid H2 (hs F σ ρ')) (ys.map Prod.snd) (acc.map Prod.snd):=rd.same (hid_same fun a o e n=>⟨sm a o e,n⟩)
  have r':=r0'.grow sm
  have src:=blk_srcs (K:=K) (F:=F) (σ:=σ) (ρ:=ρ') (H:=H2) n js
  have rb:=r'.sub src hd'
  have hs2:=sub_hs r' src
  rw [blkR_slots] at rb hs2
  have pin:∀ i a,(subFr F σ ρ' H2 (bst n σ js) (blkE n js ρ')).pin i a→decide (n ≤ i) = true:=fun i a h=>by
   rcases h with h | h
   ·exact decide_eq_true (blkE_own h.1)
   ·exact h.elim
  have hlen:(bst n σ js).length = n + js.length:=bst_len
  have ret:∀ σ2 ρ2 H3,Rel K (subFr F σ ρ' H2 (bst n σ js) (blkE n js ρ')) σ2 ρ2 H3→σ2.length = (bst n σ js).length→σ2.drop n = capt σ js→(∀ i,(gt ρ2 i).own = true→(gt (blkE n js ρ') i).own = true) →
    Rel K F σ (back ρ' (js.map R.o) (ρ2.drop n)) H3∧Kp σ ρ' (back ρ' (js.map R.o) (ρ2.drop n)) H2 H3∧Same (hid H3 (hs (subFr F σ ρ' H2 (bst n σ js) (blkE n js ρ')) σ2 ρ2)) (hid H3 (hs F σ (back ρ' (js.map R.o) (ρ2.drop n)))):=fun σ2 ρ2 H3 rr hlen2 hdrop hown=>by
   obtain ⟨f1,f2⟩:=rr.forget (n:=n) (by omega) fun i a h=>of_decide_eq_true (pin i a h)
   rw [hdrop] at f1 f2
   have f1':Rel K (subFr F σ ρ' H2 (bst n σ js) ((blkR n js).map (slotR ρ'))) (bst n σ js) (List.replicate n .un ++ ρ2.drop n) H3:=by rw [blkR_slots]; exact f1
   have bk:=r'.back src hd' f1' fun i hi=>by
    rw [blkR_slots]
    rw [gt_pad] at hi
    split at hi
    ·cases hi
    ·rename_i hni
     rw [gt_drop,show n + (i - n) = i by omega] at hi
     exact hown i hi
   have ln:(List.replicate n Sv.un ++ ρ2.drop n).length = n + js.length:=by
    have:=rr.len
    simp; omega
   rw [blkR_back js ρ' n _ ln,List.drop_left' (by simp),blkR_slots] at bk
   exact ⟨bk.1,bk.2.1,f2.trans bk.2.2⟩
  refine hg _ (bst n σ js) (blkE n js ρ') H2 x _ _ _ pin rb (by rw [hs2]; exact rx) h' fun σ2 ρ2 h2 r2 l2 p2 o2=>?_
  have hdrop:σ2.drop n = capt σ js:=by
   have:σ2.drop n = (bst n σ js).drop n:=by
    apply List.ext_getElem?
    intro i
    rw [List.getElem?_drop,List.getElem?_drop]
    exact p2 (n + i) (decide_eq_true (by omega))
   rw [this]
   unfold bst
   rw [List.drop_left' (by simp)]
  refine ⟨hdrop,hc _ σ2 ρ2 H2 _ _ r2 h2 fun b ρ3 H3 h3 r3 k3=>?_⟩
  cases b with
  | false =>
   obtain ⟨b1,b2,_⟩:=ret σ2 ρ3 H3 r3 l2 hdrop fun i hi=>(o2 i (k3.sb i hi)).1
   exact ⟨_,acc,b1,k'.trans b2,rk,rd.same b2.vis,by omega,h3⟩
  | true =>
   refine hk _ σ2 ρ3 H3 _ _ r3 h3 fun r4 ρ4 v4 H4 h4 o4=>?_
   obtain ⟨r4',k4,i4⟩:=o4.inF
   refine hv _ σ2 ρ4 H4 _ _ r4' h4 fun r6 ρ6 v6 H6 h6 o6=>?_
   obtain ⟨r6',k6,i6⟩:=o6.inF
   obtain ⟨d,ρ5,h5,r5,k5,rv⟩:=sto_one r6' i6 h6
   split at h5
   ·rename_i kd e0 ee
    cases ee
    split at h5
    ·rename_i kk ek
     obtain ⟨b1,b2,b3⟩:=ret σ2 ρ5 H6 r5 l2 hdrop fun i hi=>(o2 i (k3.sb i (k4.sb i (k6.sb i (k5.sb i hi))))).1
     obtain ⟨p1,p2⟩:=put_rep kk (rv.same b3) rk (rd.same b2.vis)
     exact ⟨kk,kV_of i4 ek,_,putD acc kk d,b1,k'.trans b2,p1,p2,by have:=putD_len acc kk d; omega,h5⟩
    ·exact h5.elim
   ·exact h5.elim
 ·left
  rw [List.drop_eq_nil_of_le ge] at h'
  unfold compAD at h'
  obtain ⟨hcc,h'⟩:=h'
  refine ⟨(w hcc i).2 ge,small (by omega),fun l hl'=>?_⟩
  exact k (.n (.dk acc)) ρ' _ _ h' ⟨H',l,_,r',k1.trans k',rfl,⟨l,ys,rfl,upd_same,rk,rd⟩,hl',rfl,rfl⟩
theorem sok_setCD {pr:Nat→Bool} {ae:AE} {i n:Nat} {js:List Nat} {wi:TI} {g:TG} {tc:TT} {tk tv:TE} (h:TEok K (tCompD n js wi g tc tk tv) ae) (hi:pr i = false):TSok K pr (fun D σ H=>tCompD n js wi g tc tk tv σ H fun v H'=>D.nx (σ.set i (some v)) H') (aSet i ae):=set_ok hi h
end
theorem compAD_inv {n:Nat} {js:List Nat} {c:En→Prop} {g:AG} {tc:AT} {ak av:AE} {q:List (Key × D)→En→Prop} (I:Nat→List (Key × D)→En→Prop) {ds:List D} (hc:∀ k acc ρ,k ≤ ds.length→I k acc ρ→c ρ)
  (hs:∀ (k:Nat) d acc ρ (N:List (Key × D)→En→Prop),ds[k]? = some d→I k acc ρ→(∀ acc' ρ',I (k + 1) acc' ρ'→N acc' ρ') →
   g d (blkE n js ρ) fun ρ1=>tc ρ1 fun b ρ2=>if b = true then ak ρ2 fun rk ρ3=>av ρ3 fun r ρ4=>sto [r.frz] ρ4 fun es ρ5=>(match rk,es with
   | .d kd,[e]=>(match dKey kd with
    | some k=>N (putD acc k e) (back ρ (js.map R.o) (ρ5.drop n))
    | none=>False)
   | _,_=>False) else N acc (back ρ (js.map R.o) (ρ2.drop n)))
  (hd:∀ acc ρ,I ds.length acc ρ→q acc ρ):∀ ρ,I 0 [] ρ→compAD n js c g tc ak av q ds [] ρ:=by
 have go:∀ (es:List D) (k:Nat),ds.drop k = es→k ≤ ds.length→∀ acc ρ,I k acc ρ→compAD n js c g tc ak av q es acc ρ:=by
  intro es
  induction es with
  | nil =>
   intro k h hk acc ρ i
   have:ds.length ≤ k:=List.drop_eq_nil_iff.mp h
   have:k = ds.length:=by omega
   subst this
   unfold compAD
   exact ⟨hc _ acc ρ (Nat.le_refl _) i,hd acc ρ i⟩
  | cons d es ih =>
   intro k h hk acc ρ i
   have lt:k < ds.length:=by
    rcases Nat.lt_or_ge k ds.length with q | q
    ·exact q
    ·rw [List.drop_eq_nil_of_le q] at h; cases h
   rw [List.drop_eq_getElem_cons lt] at h
   injection h with h1 h2
   unfold compAD
   exact ⟨hc k acc ρ hk i,hs k d acc ρ (fun acc' ρ'=>compAD n js c g tc ak av q es acc' ρ') (by rw [← h1]; exact List.getElem?_eq_getElem lt) i (fun acc' ρ' i'=>ih (k + 1) h2 lt acc' ρ' i')⟩
 exact go ds 0 rfl (Nat.zero_le _) []
def kD:Key→D
 | .inl i=>.int i
 | .inr x=>.str x
theorem kD_rep {K:PySem.W.Frag} {H:Hp} (k:Key):RepD K H (kV k) (kD k):=by
 cases k with
 | inl i=>unfold RepD; rfl
 | inr x=>unfold RepD; rfl
def Itk (a:Addr) (ob:Obj) (ks:List Key):It :=
 ⟨fun i H=>(∃ u,H a = some (.frz ob u))∧i < ks.length,fun i H v H'=>H' = H∧∃ k,ks[i]? = some k∧v = kV k,fun i H=>(∃ u,H a = some (.frz ob u))∧ks.length ≤ i⟩
theorem kV_rel {P:Program} {w:World} {k:Key} {u:Value} (h:(mixKind P w).is k u = true):RelV (kV k) u:=by
 rcases keyIs_shape (k:=k) (v:=u) h with ⟨i,t,rfl,rfl⟩ | ⟨x,t,rfl,rfl⟩
 ·exact ⟨t,rfl⟩
 ·exact ⟨t,rfl⟩
theorem turn_keys {P:Program} {w:World} {K:PySem.W.Frag} {tg:Expr} {it a:Addr} {ob:Obj} {ks:List Key} {kv:List (Key × Value)} {ep:Nat} (rv:ks = kv.map Prod.fst) (ne:a ≠ it) (hob:∀ h:Heap,h.get? a = some ob→h.DictAt (mixKind P w) a kv ep) :
  Turn P w K tg (Itk a ob ks) [it] it (fun i h=>h.IsKeyIter it a i kv.length ep) where
 mem:=by simp
 obj:=fun i h st b hb=>by
  obtain ⟨o1,e1,c1,d1⟩:=st
  rw [List.mem_singleton.mp hb]
  exact ⟨o1,e1,fun v q=>by rw [d1] at q; cases q⟩
 keep:=fun i h h' st k=>st.at fun o q=>k it (by simp) o q
 item:=by
  intro X hP hw hK hc i pins s σ H E I hf st hg
  subst hP hw hK
  obtain ⟨⟨u,hu⟩,hi⟩:=hg
  have ha:s.heap.get? a = some ob:=(show ObjOk X.prog X.w H s.heap a (.frz ob u) from I.hok a _ hu).1
  have hl:ks.length = kv.length:=by rw [rv,List.length_map]
  obtain ⟨⟨kk,x⟩,hx⟩:∃ p,kv[i]? = some p:=⟨kv[i],List.getElem?_eq_getElem (by omega)⟩
  have hx':ks[i]? = some kk:=by rw [rv,List.getElem?_map,hx]; rfl
  refine wpAny_pyNext_dict_item st (hob _ ha) hx fun key h' hkey hit' hs'=>?_
  obtain ⟨o1,e1,c1,d1⟩:=id hit'
  refine ⟨_,rfl,go_of e1 c1 d1 (by decide) ?_⟩
  refine ⟨kV kk,H,I.turns (ch:=[it]) (t':=s.toks) (fun b o hb q=>hs'.extBut b o (fun z=>hb (by simp [z])) q) hf,kV_rel hkey,⟨rfl,kk,hx',rfl⟩,hit',fun b hb=>(hf b hb).1⟩
 done:=by
  intro X hP hw hK hc i pins s σ H E I hf st hg
  subst hP hw hK
  obtain ⟨⟨u,hu⟩,hi⟩:=hg
  have ha:s.heap.get? a = some ob:=(show ObjOk X.prog X.w H s.heap a (.frz ob u) from I.hok a _ hu).1
  have hl:ks.length = kv.length:=by rw [rv,List.length_map]
  refine wpAny_pyNext_dict_end (I.ok.hd hc) st (hob _ ha) (by rw [List.getElem?_eq_none (by omega)]) fun h' he'=>⟨rfl,I.turns (ch:=[it]) (t':=s.toks) (fun b o hb q=>he' b o (fun z=>hb (by simp [z])) q) hf⟩
 self:=fun _ _ _ _ _ st h=>wpAny_pyIter_keyiter st h
def iKeys (td:TE):TI:=fun σ H R=>td σ H fun x H1=>∃ a kvs,x = .ref a∧H1 a = some (.dK kvs)∧∀ ob,R (Itk a ob (kvs.map Prod.fst)) (upd H1 a (.frz ob (.dK kvs)))
theorem kv_keys {kvs:List (Key × V)} {vs:List (Key × Value)} (h:KV kvs vs):kvs.map Prod.fst = vs.map Prod.fst:=by
 induction h with
 | nil=>rfl
 | cons a _ ih=>simp only [List.map_cons,ih,a.1]
theorem pi_keys {X:Cx} {tg o:Expr} {td:TE} (ho:PE X o td):PI X tg o (iKeys td):=by
 intro pins s σ H R I h
 refine thn (ho pins s σ H _ I h) fun v s1 ⟨x,H1,I1,r1,a,kvs,ex,ha,q1⟩=>?_
 subst ex
 obtain rfl:v = Value.ref a:=r1
 obtain ⟨z,hd,vs,rel,dd⟩:=dk_of I1.hok ha
 obtain ⟨ep,da⟩:=dd.dictAt
 obtain ⟨ob,es,eo,r⟩:=id da
 refine wpAny_pyIter_dict (knd:=mixKind X.prog X.w) (kvs:=vs) (ep:=ep) hd da ?_
 have I2:Inv X pins σ H1 { s1 with heap:=s1.heap.push { cls:=.type "dict_keyiterator",data:=.fields #[.ref a,.int 0 0,.int vs.length 0,.int ep 0] } }:=I1.kept (t':=s1.toks) fun b o e=>Heap.get?_push_of_some _ e
 have ha2:(s1.heap.push { cls:=.type "dict_keyiterator",data:=.fields #[.ref a,.int 0 0,.int vs.length 0,.int ep 0] }).get? a = some ob:=Heap.get?_push_of_some _ eo
 have I3:=I2.write (x:=a) (e:=a) (o:=.frz ob (.dK kvs)) (t':=s1.toks) (h':=s1.heap.push { cls:=.type "dict_keyiterator",data:=.fields #[.ref a,.int 0 0,.int vs.length 0,.int ep 0] }) (by rw [ha]; exact True.intro) (.inl rfl) (fun b q _ e=>e) ⟨ob,ha2⟩ ⟨ha2,z,hd,vs,rel,⟨ob,es,ep,ha2,r⟩⟩
 have lt:a < s1.heap.objs.size:=Heap.lt_size eo
 have ne:a ≠ s1.heap.objs.size:=Nat.ne_of_lt lt
 have T:Turn X.prog X.w X.K tg (Itk a ob (kvs.map Prod.fst)) [s1.heap.objs.size] s1.heap.objs.size (fun i h=>h.IsKeyIter s1.heap.objs.size a i vs.length ep) :=
  turn_keys (kv_keys rel) ne (fun h e=>(⟨ob,es,e,r⟩:h.DictAt (mixKind X.prog X.w) a vs ep))
 refine ⟨_,_,_,_,_,rfl,I3,T,⟨_,Heap.get?_push_size _ rfl,rfl,rfl⟩,fun b hb=>?_,q1 ob⟩
 rw [List.mem_singleton.mp hb]
 refine I1.fpOk (Nat.le_refl _) ?_
 rw [upd_ne ne.symm]
 exact I1.hok.fresh (Nat.le_refl _)
section
variable {K:PySem.W.Frag} {F:Fr} {σ:St} {ρ:En} {H:Hp}
theorem Rel.giveUp (r:Rel K F σ ρ H) {i:Nat} {a:Addr} {o:HO} (ho:(gt ρ i).own = true) (el:σ[i]? = some (some (.ref a))):Rel K F σ (pt ρ i .un) (upd H a o)∧Kp σ ρ (pt ρ i .un) H (upd H a o)∧¬ hs F σ (pt ρ i .un) a:=by
 have lt:=own_lt ho
 have own':∀ j,(gt (pt ρ i .un) j).own = true→i ≠ j∧(gt ρ j).own = true:=fun j h=>own_set rfl h
 have sub:∀ b,owned σ (pt ρ i .un) b→owned σ ρ b∧b ≠ a:=fun b ⟨j,hj,e⟩=>by
  obtain ⟨ij,hj⟩:=own' j hj
  exact ⟨⟨j,hj,e⟩,fun z=>ij (r.nd i j a ho hj el (z ▸ e))⟩
 have hso:owned σ ρ a:=⟨i,ho,el⟩
 have vis:Same (hid H (hs F σ ρ)) (hid (upd H a o) (hs F σ (pt ρ i .un))):=hid_same fun b u e n=>by
  have al:b ≠ a:=fun z=>n (.inr (z ▸ hso))
  exact ⟨by rw [upd_ne al]; exact e,fun z=>n (z.imp id fun z=>(sub b z).1)⟩
 have vl:¬ hs F σ (pt ρ i .un) a:=fun z=>by
  rcases z with z | z
  ·exact r.zo a hso z
  ·exact (sub a z).2 rfl
 have up:∀ {b},H b ≠ none→(upd H a o) b ≠ none:=fun {b} h e=>by
  by_cases al:b = a
  ·subst al; rw [upd_same] at e; cases e
  ·rw [upd_ne al] at e; exact h e
 refine ⟨⟨by rw [pt_len,r.len],fun b u e n=>?_,fun b z=>nt_upd (fun q=>r.zo a hso (q ▸ z)) (r.zl b z),fun b h=>r.zo b (sub b h).1,fun j b hj e=>r.ow j b (own' j hj).2 e,r.mi,r.ml,fun b z=>up (r.ma b z),fun j k b hj hk ej ek=>r.nd j k b (own' j hj).2 (own' k hk).2 ej ek,fun j=>?_⟩,⟨fun b u e n=>?_,fun j h=>(own' j h).2⟩,vl⟩
 ·have al:b ≠ a:=fun z=>by
   subst z
   rcases r.ow i _ ho el with ⟨_,q⟩ | q
   ·exact n q
   ·rw [e] at q; cases q
  rw [upd_ne al]; exact r.fr b u e n
 ·by_cases ij:i = j
  ·subst ij
   rw [gt_pt ρ i _ lt]
   trivial
  ·rw [gt_pt_ne ρ i j _ ij]
   refine (r.sl j).keep vis fun b u ho' e h=>?_
   have al:b ≠ a:=fun z=>ij (r.nd i j a ho ho' el (z ▸ e))
   rw [upd_ne al]; exact h
 ·have al:b ≠ a:=fun z=>n (z ▸ hso)
  rw [upd_ne al]; exact e
end
section
variable {K:PySem.W.Frag} {td:TE} {ad:AE}
def aKeys (a:AE):AI:=fun ρ q=>a ρ fun r ρ1=>match r with
 | .o i=>(match gt ρ1 i with | .dk kvs=>q (kvs.map fun p=>kD p.1) (fun _=>True) (pt ρ1 i .un) | _=>False)
 | _=>False
theorem tiok_keys {pin:Nat→Bool} (h:TEok K td ad):TIok K pin (iKeys td) (aKeys ad):=by
 intro F σ ρ H q Rk r ha k
 refine h F σ ρ H _ _ r ha fun r1 ρ1 x H1 h1 o1=>?_
 obtain ⟨r1',k1,i1⟩:=o1.inF
 split at h1
 ·rename_i j
  have ej:σ[j]? = some (some x):=i1
  split at h1
  ·rename_i kvs hg
   obtain ⟨t,ks,rfl,ht,e1,e2⟩:=dk_at r1' ej hg
   refine ⟨t,ks,rfl,ht,fun ob=>?_⟩
   obtain ⟨rg,kg,vg⟩:=r1'.giveUp (i:=j) (a:=t) (o:=.frz ob (.dK ks)) (by rw [hg]; rfl) ej
   refine k _ _ _ _ _ h1 rg (k1.trans kg) fun σ2 ρ2 H2 sm _ _ _ _=>?_
   have h2:H2 t = some (.frz ob (.dK ks)):=(hid_some.mp (sm _ _ (hid_of vg upd_same))).2
   have el:(kvs.map fun p=>kD p.1) = (ks.map Prod.fst).map kD:=by rw [e1,List.map_map]; rfl
   intro i
   rw [el]
   refine ⟨fun d hd=>?_,fun hi=>⟨⟨_,h2⟩,by simpa using hi⟩⟩
   rw [List.getElem?_map] at hd
   cases hk:(ks.map Prod.fst)[i]? with
   | none=>rw [hk] at hd; cases hd
   | some kk =>
    rw [hk] at hd
    cases hd
    refine ⟨⟨⟨_,h2⟩,(List.getElem?_eq_some_iff.mp hk).1⟩,fun y H' hy=>?_⟩
    obtain ⟨rfl,k',hk',rfl⟩:=hy
    rw [hk] at hk'; cases hk'
    exact ⟨Same.refl _,kD_rep kk⟩
  ·exact h1.elim
 ·exact h1.elim
end
end L2
namespace L2
theorem gd_eq {R:List Nat} {i:Nat} (h:i < R.length):R.getD i 0 = R[i]:=by rw [List.getD_eq_getElem?_getD,List.getElem?_eq_getElem h]; rfl
theorem gd_mem {R:List Nat} {i:Nat} (h:i < R.length):R.getD i 0 ∈ R:=by rw [gd_eq h]; exact List.getElem_mem h
theorem gd_left {A B:List Nat} {i:Nat} (h:i < A.length):(A ++ B).getD i 0 = A.getD i 0:=by
 simp only [List.getD_eq_getElem?_getD]
 rw [List.getElem?_append_left h]
theorem gd_last {A:List Nat} {x:Nat}:(A ++ [x]).getD A.length 0 = x:=by simp
def fst1 (R:List Nat) (t:Nat):Nat:=R.idxOf (R.getD t 0)
theorem fst1_lt {R:List Nat} {t:Nat} (h:t < R.length):fst1 R t < R.length:=List.idxOf_lt_length_iff.mpr (gd_mem h)
theorem fst1_row {R:List Nat} {t:Nat} (h:t < R.length):R.getD (fst1 R t) 0 = R.getD t 0:=by
 rw [gd_eq (fst1_lt h)]
 exact List.getElem_idxOf (fst1_lt h)
theorem fst1_le {R:List Nat} {t:Nat} (h:t < R.length):fst1 R t ≤ t:=by
 rcases Nat.lt_or_ge t (fst1 R t) with q | q
 ·have:=List.not_of_lt_findIdx (p:=fun x=>x == R.getD t 0) (xs:=R) (i:=t) q
  have e:(R[t] == R.getD t 0) = true:=by rw [gd_eq h]; simp
  exact absurd (this.symm.trans e) Bool.false_ne_true
 ·exact q
theorem fst1_eq {R:List Nat} {s t:Nat} (e:R.getD s 0 = R.getD t 0):fst1 R s = fst1 R t:=by unfold fst1; rw [e]
theorem fst1_idem {R:List Nat} {t:Nat} (h:t < R.length):fst1 R (fst1 R t) = fst1 R t:=fst1_eq (fst1_row h)
def leanT (m:Nat) (f:Nat→Nat):List (Nat × Nat)→Nat→(Nat→Bool)→Nat→Bool
 | [],_,M,t=>M t
 | p :: r,k,M,t=>leanT m f r (k + 1) M t || (leanT m f r (k + 1) M (m + k) && (t == f p.1 || t == f p.2))
section
variable {m:Nat} {f:Nat→Nat}
theorem lean_base:∀ {js:List (Nat × Nat)} {k:Nat} {M:Nat→Bool} {t:Nat},M t = true→leanT m f js k M t = true
 | [],_,_,_,h=>h
 | p :: r,k,M,t,h=>by unfold leanT; rw [lean_base (js:=r) h]; rfl
theorem lean_from:∀ {js:List (Nat × Nat)} {k:Nat} {M:Nat→Bool} {t:Nat},leanT m f js k M t = true→M t = true ∨ ∃ j p,js[j]? = some p∧leanT m f js k M (m + (k + j)) = true∧(t = f p.1 ∨ t = f p.2)
 | [],_,_,_,h=>.inl h
 | p :: r,k,M,t,h=>by
  unfold leanT at h
  rw [Bool.or_eq_true,Bool.and_eq_true] at h
  rcases h with h | ⟨h1,h2⟩
  ·rcases lean_from h with q | ⟨j,p',e1,e2,e3⟩
   ·exact .inl q
   ·refine .inr ⟨j + 1,p',by simpa using e1,?_,e3⟩
    unfold leanT
    rw [show k + (j + 1) = k + 1 + j by omega,e2]; rfl
  ·refine .inr ⟨0,p,rfl,?_,?_⟩
   ·show (leanT m f r (k + 1) M (m + k) || _) = true
    rw [h1]; rfl
   ·rw [Bool.or_eq_true,beq_iff_eq,beq_iff_eq] at h2; exact h2
theorem lean_on:∀ {js:List (Nat × Nat)} {k:Nat} {M:Nat→Bool},(∀ j p,js[j]? = some p→f p.1 < m + (k + j)∧f p.2 < m + (k + j))→∀ {j p},js[j]? = some p→leanT m f js k M (m + (k + j)) = true→leanT m f js k M (f p.1) = true∧leanT m f js k M (f p.2) = true
 | [],_,_,_,j,p,e,_=>by simp at e
 | q :: r,k,M,hlt,j,p,e,h=>by
  have h0:=hlt 0 q rfl
  rw [Nat.add_zero] at h0
  have hA:leanT m f r (k + 1) M (m + (k + j)) = true:=by
   unfold leanT at h
   rw [Bool.or_eq_true,Bool.and_eq_true,Bool.or_eq_true,beq_iff_eq,beq_iff_eq] at h
   rcases h with h | ⟨_,h | h⟩
   ·exact h
   ·omega
   ·omega
  cases j with
  | zero =>
   simp only [List.getElem?_cons_zero,Option.some.injEq] at e
   subst e
   have hA':leanT m f r (k + 1) M (m + k) = true:=hA
   constructor
   ·unfold leanT
    rw [hA']; simp
   ·unfold leanT
    rw [hA']; simp
  | succ j =>
   have ih:=lean_on (js:=r) (k:=k + 1) (M:=M) (fun j p e=>by have:=hlt (j + 1) p (by simpa using e); rw [show k + 1 + j = k + (j + 1) by omega]; exact this) (j:=j) (p:=p) (by simpa using e) (by rw [show k + 1 + j = k + (j + 1) by omega]; exact hA)
   constructor
   ·unfold leanT; rw [ih.1]; rfl
   ·unfold leanT; rw [ih.2]; rfl
end
def nkT (m:Nat) (L:Nat→Bool) (k:Nat):Nat:=((List.range k).filter fun j=>L (m + j)).length
def nbT (m:Nat) (L:Nat→Bool) (t:Nat):Nat:=if t < m then t else m + nkT m L (t - m)
section
variable {m:Nat} {L:Nat→Bool}
theorem nk_succ (k:Nat):nkT m L (k + 1) = nkT m L k + (if L (m + k) = true then 1 else 0):=by
 unfold nkT
 rw [List.range_succ,List.filter_append,List.length_append]
 congr 1
 by_cases h:L (m + k) = true
 ·rw [if_pos h]; simp [List.filter_cons,h]
 ·rw [if_neg h]; simp [List.filter_cons,h]
theorem nk_mono {a b:Nat} (h:a ≤ b):nkT m L a ≤ nkT m L b:=by
 induction b with
 | zero=>rw [show a = 0 by omega]; exact Nat.le_refl _
 | succ b ih =>
  rcases Nat.lt_or_ge a (b + 1) with q | q
  ·rw [nk_succ]; have:=ih (by omega); omega
  ·rw [show a = b + 1 by omega]; exact Nat.le_refl _
theorem nk_le (k:Nat):nkT m L k ≤ k:=by
 induction k with
 | zero=>exact Nat.le_refl _
 | succ k ih=>rw [nk_succ]; split <;> omega
theorem nb_lt {x y:Nat} (h:x < y) (g:x < m ∨ L x = true):nbT m L x < nbT m L y:=by
 unfold nbT
 by_cases hx:x < m
 ·rw [if_pos hx]
  by_cases hy:y < m
  ·rw [if_pos hy]; exact h
  ·rw [if_neg hy]; omega
 ·rw [if_neg hx,if_neg (by omega)]
  have hL:L (m + (x - m)) = true:=by rw [show m + (x - m) = x by omega]; exact g.resolve_left hx
  have e:=nk_succ (m:=m) (L:=L) (x - m)
  rw [if_pos hL] at e
  have:=nk_mono (m:=m) (L:=L) (show x - m + 1 ≤ y - m by omega)
  omega
theorem nb_inj {x y:Nat} (gx:x < m ∨ L x = true) (gy:y < m ∨ L y = true) (e:nbT m L x = nbT m L y):x = y:=by
 rcases Nat.lt_trichotomy x y with h | h | h
 ·have:=nb_lt h gx; omega
 ·exact h
 ·have:=nb_lt h gy; omega
theorem nk_onto:∀ {n j:Nat},j < nkT m L n→∃ k,k < n∧L (m + k) = true∧nkT m L k = j
 | 0,j,h=>by simp [nkT] at h
 | n + 1,j,h=>by
  rw [nk_succ] at h
  by_cases hL:L (m + n) = true
  ·rw [if_pos hL] at h
   rcases Nat.lt_or_ge j (nkT m L n) with q | q
   ·obtain ⟨k,a,b,c⟩:=nk_onto q
    exact ⟨k,by omega,b,c⟩
   ·exact ⟨n,by omega,hL,by omega⟩
  ·rw [if_neg hL] at h
   obtain ⟨k,a,b,c⟩:=nk_onto (n:=n) (j:=j) (by omega)
   exact ⟨k,by omega,b,c⟩
end
def newJ (m:Nat) (f:Nat→Nat) (L:Nat→Bool) (p:Nat × Nat):Nat × Nat:=(min (nbT m L (f p.1)) (nbT m L (f p.2)),max (nbT m L (f p.1)) (nbT m L (f p.2)))
def keptN (m:Nat) (f:Nat→Nat) (L:Nat→Bool) (js:List (Nat × Nat)) (n:Nat):List (Nat × Nat):=(List.range n).flatMap fun k=>if L (m + k) = true then [newJ m f L (js.getD k (0,0))] else []
section
variable {m:Nat} {f:Nat→Nat} {L:Nat→Bool} {js:List (Nat × Nat)}
theorem kept_succ (n:Nat):keptN m f L js (n + 1) = keptN m f L js n ++ (if L (m + n) = true then [newJ m f L (js.getD n (0,0))] else []):=by
 unfold keptN
 rw [List.range_succ,List.flatMap_append]
 simp
theorem kept_len (n:Nat):(keptN m f L js n).length = nkT m L n:=by
 induction n with
 | zero=>rfl
 | succ n ih =>
  rw [kept_succ,List.length_append,ih,nk_succ]
  split <;> rfl
theorem kept_get:∀ {n k:Nat},k < n→L (m + k) = true→(keptN m f L js n)[nkT m L k]? = some (newJ m f L (js.getD k (0,0)))
 | 0,k,h,_=>by omega
 | n + 1,k,h,hL=>by
  rw [kept_succ]
  rcases Nat.lt_or_ge k n with q | q
  ·have e:=nk_succ (m:=m) (L:=L) k
   rw [if_pos hL] at e
   have:=nk_mono (m:=m) (L:=L) (show k + 1 ≤ n by omega)
   rw [List.getElem?_append_left (by rw [kept_len]; omega)]
   exact kept_get q hL
  ·have:k = n:=by omega
   subst this
   rw [if_pos hL,List.getElem?_append_right (by rw [kept_len]; exact Nat.le_refl _),kept_len,Nat.sub_self]
   rfl
end
theorem fold_pre:∀ {js:List (Nat × Nat)} {rows:List Nat} {i:Nat},i < rows.length→(js.foldl stepRows rows).getD i 0 = rows.getD i 0
 | [],_,_,_=>rfl
 | p :: r,rows,i,h=>by
  rw [List.foldl_cons,fold_pre (by rw [step_len]; omega)]
  exact gd_left h
theorem fold_at:∀ {js:List (Nat × Nat)} {rows:List Nat} {k:Nat} {p:Nat × Nat},okIx rows.length js→js[k]? = some p →
  (js.foldl stepRows rows).getD (rows.length + k) 0 = (js.foldl stepRows rows).getD p.1 0 ^^^ (js.foldl stepRows rows).getD p.2 0
 | [],_,_,_,_,e=>by simp at e
 | q :: r,rows,k,p,h,e=>by
  obtain ⟨h1,h2,h3⟩:=h
  rw [List.foldl_cons]
  cases k with
  | zero =>
   simp only [List.getElem?_cons_zero,Option.some.injEq] at e
   subst e
   rw [fold_pre (by rw [step_len]; omega),fold_pre (by rw [step_len]; omega),fold_pre (by rw [step_len]; omega)]
   have e1:(stepRows rows q).getD (rows.length + 0) 0 = rows.getD q.1 0 ^^^ rows.getD q.2 0:=gd_last
   have e2:(stepRows rows q).getD q.1 0 = rows.getD q.1 0:=gd_left (by omega)
   have e3:(stepRows rows q).getD q.2 0 = rows.getD q.2 0:=gd_left (by omega)
   rw [e1,e2,e3]
  | succ k =>
   have:=fold_at (js:=r) (rows:=stepRows rows q) (k:=k) (p:=p) (by rw [step_len]; exact h3) (by simpa using e)
   rw [step_len] at this
   rw [← this]
   congr 1
   omega
theorem okJs_of:∀ {js:List (Nat × Nat)} {rows:List Nat},(∀ i p,js[i]? = some p→p.1 < p.2∧p.2 < rows.length + i∧(js.foldl stepRows rows).getD p.1 0 ≠ (js.foldl stepRows rows).getD p.2 0)→okJs rows js
 | [],_,_=>trivial
 | q :: r,rows,h=>by
  obtain ⟨h1,h2,h3⟩:=h 0 q rfl
  rw [Nat.add_zero] at h2
  rw [List.foldl_cons,fold_pre (by rw [step_len]; omega),fold_pre (by rw [step_len]; omega)] at h3
  have e:∀ i,i < rows.length→(stepRows rows q).getD i 0 = rows.getD i 0:=fun i hi=>gd_left hi
  rw [e _ (by omega),e _ h2] at h3
  refine ⟨h1,h2,h3,okJs_of fun i p hp=>?_⟩
  obtain ⟨a,b,c⟩:=h (i + 1) p (by simpa using hp)
  exact ⟨a,by rw [step_len]; omega,c⟩
theorem own_at {m t:Nat} (h:t < m):(ownRows m).getD t 0 = 1 <<< t:=by
 rw [gd_eq (by rw [own_len]; exact h)]
 unfold ownRows
 simp
structure Rws (N:Net):Prop where
 ix:okIx N.m N.js
 ne:∀ (i:Nat) (p:Nat × Nat),N.js[i]? = some p→(rowsN N).getD p.1 0 ≠ (rowsN N).getD p.2 0
theorem rws_of {N:Net} (h:IsNet N):Rws N:=by
 have hix:okIx N.m N.js:=by have:=okJs_ix h.js; rwa [own_len] at this
 refine ⟨hix,fun i p hp=>?_⟩
 have:=okJs_get h.js hp
 obtain ⟨h1,h2⟩:=okIx_get hix hp
 have lt:=(List.getElem?_eq_some_iff.mp hp).1
 have hl:((N.js.take i).foldl stepRows (ownRows N.m)).length = N.m + i:=by rw [fold_len,own_len,List.length_take]; omega
 have e:∀ j,j < N.m + i→((N.js.take i).foldl stepRows (ownRows N.m)).getD j 0 = (rowsN N).getD j 0:=fun j hj=>by
  unfold rowsN
  conv=>rhs; rw [← List.take_append_drop i N.js,List.foldl_append]
  exact (fold_pre (by rw [hl]; exact hj)).symm
 rw [e _ (by omega),e _ h2] at this
 exact this
theorem rowsN_own {N:Net} {t:Nat} (h:t < N.m):(rowsN N).getD t 0 = 1 <<< t:=by
 unfold rowsN
 rw [fold_pre (by rw [own_len]; exact h),own_at h]
theorem rowsN_at {N:Net} (hix:okIx N.m N.js) {k:Nat} {p:Nat × Nat} (e:N.js[k]? = some p):(rowsN N).getD (N.m + k) 0 = (rowsN N).getD p.1 0 ^^^ (rowsN N).getD p.2 0:=by
 have:=fold_at (rows:=ownRows N.m) (js:=N.js) (k:=k) (p:=p) (by rw [own_len]; exact hix) e
 rw [own_len] at this
 exact this
theorem shl_inj {a b:Nat} (h:(1 <<< a:Nat) = 1 <<< b):a = b:=by
 rw [Nat.one_shiftLeft,Nat.one_shiftLeft] at h
 rcases Nat.lt_trichotomy a b with q | q | q
 ·have:=Nat.pow_lt_pow_right (show 1 < 2 by decide) q; omega
 ·exact q
 ·have:=Nat.pow_lt_pow_right (show 1 < 2 by decide) q; omega
def fT (N:Net):Nat→Nat:=fst1 (rowsN N)
def markT (N:Net):Nat→Bool:=leanT N.m (fT N) N.js 0 fun t=>(N.os.map (fT N)).contains t
def tidN (N:Net):Net:=⟨N.m,keptN N.m (fT N) (markT N) N.js N.js.length,N.os.map fun o=>nbT N.m (markT N) (fT N o)⟩
section
variable {N:Net}
theorem fT_le {t:Nat} (h:t < N.m + N.js.length):fT N t ≤ t:=fst1_le (by rw [rows_len]; exact h)
theorem fT_row {t:Nat} (h:t < N.m + N.js.length):(rowsN N).getD (fT N t) 0 = (rowsN N).getD t 0:=fst1_row (by rw [rows_len]; exact h)
theorem fT_idem {t:Nat} (h:t < N.m + N.js.length):fT N (fT N t) = fT N t:=fst1_idem (by rw [rows_len]; exact h)
theorem fT_own {t:Nat} (h:t < N.m):fT N t = t:=by
 have h1:=fT_le (N:=N) (t:=t) (by omega)
 have h2:=fT_row (N:=N) (t:=t) (by omega)
 rw [rowsN_own (by omega),rowsN_own h] at h2
 exact shl_inj h2
theorem js_lt (R:Rws N) {k:Nat} {p:Nat × Nat} (e:N.js[k]? = some p):p.1 < p.2∧p.2 < N.m + k∧N.m + k < N.m + N.js.length:=by
 obtain ⟨a,b⟩:=okIx_get R.ix e
 have:=(List.getElem?_eq_some_iff.mp e).1
 exact ⟨a,b,by omega⟩
theorem f_lt (R:Rws N) {k:Nat} {p:Nat × Nat} (e:N.js[k]? = some p):fT N p.1 < N.m + k∧fT N p.2 < N.m + k:=by
 obtain ⟨a,b,c⟩:=js_lt R e
 have h1:=fT_le (N:=N) (t:=p.1) (by omega)
 have h2:=fT_le (N:=N) (t:=p.2) (by omega)
 omega
theorem mark_out {o:Nat} (h:o ∈ N.os):markT N (fT N o) = true:=lean_base (List.contains_iff_mem.mpr (List.mem_map.mpr ⟨o,h,rfl⟩))
theorem mark_on (R:Rws N) {k:Nat} {p:Nat × Nat} (e:N.js[k]? = some p) (h:markT N (N.m + k) = true):markT N (fT N p.1) = true∧markT N (fT N p.2) = true :=
 lean_on (fun j p e=>by rw [Nat.zero_add]; exact f_lt R e) e (by rw [Nat.zero_add]; exact h)
theorem mark_from {t:Nat} (h:markT N t = true):(∃ o ∈ N.os,t = fT N o) ∨ ∃ k p,N.js[k]? = some p∧markT N (N.m + k) = true∧(t = fT N p.1 ∨ t = fT N p.2):=by
 rcases lean_from h with q | ⟨j,p,e1,e2,e3⟩
 ·obtain ⟨o,ho,e⟩:=List.mem_map.mp (List.contains_iff_mem.mp q)
  exact .inl ⟨o,ho,e.symm⟩
 ·rw [Nat.zero_add] at e2
  exact .inr ⟨j,p,e1,e2,e3⟩
theorem mark_lt (R:Rws N) (ho:∀ o ∈ N.os,o < N.m + N.js.length) {t:Nat} (h:markT N t = true):t < N.m + N.js.length∧fT N t = t:=by
 rcases mark_from h with ⟨o,h1,rfl⟩ | ⟨k,p,e1,_,e3⟩
 ·have:=ho o h1
  have:=fT_le (N:=N) (t:=o) this
  exact ⟨by omega,fT_idem (ho o h1)⟩
 ·obtain ⟨a,b,c⟩:=js_lt R e1
  obtain ⟨d,e⟩:=f_lt R e1
  rcases e3 with rfl | rfl
  ·exact ⟨by omega,fT_idem (by omega)⟩
  ·exact ⟨by omega,fT_idem (by omega)⟩
end
abbrev goodT (N:Net) (t:Nat):Prop:=t < N.m ∨ markT N t = true
abbrev nT (N:Net):Nat→Nat:=nbT N.m (markT N)
section
variable {N:Net} (R:Rws N) (ho:∀ o ∈ N.os,o < N.m + N.js.length)
include R ho
theorem good_f {t:Nat} (h:goodT N t):fT N t = t:=h.elim (fun q=>fT_own q) fun q=>(mark_lt R ho q).2
theorem new_lt {k:Nat} {p:Nat × Nat} (e:N.js[k]? = some p) (h:markT N (N.m + k) = true):(newJ N.m (fT N) (markT N) p).1 < (newJ N.m (fT N) (markT N) p).2∧(newJ N.m (fT N) (markT N) p).2 < N.m + nkT N.m (markT N) k:=by
 obtain ⟨m1,m2⟩:=mark_on R e h
 obtain ⟨l1,l2⟩:=f_lt R e
 obtain ⟨a,b,c⟩:=js_lt R e
 have ne:fT N p.1 ≠ fT N p.2:=fun z=>R.ne k p e (by rw [← fT_row (N:=N) (t:=p.1) (by omega),z,fT_row (by omega)])
 have n1:=nb_lt (m:=N.m) (L:=markT N) l1 (.inr m1)
 have n2:=nb_lt (m:=N.m) (L:=markT N) l2 (.inr m2)
 have nn:nbT N.m (markT N) (fT N p.1) ≠ nbT N.m (markT N) (fT N p.2):=fun z=>ne (nb_inj (.inr m1) (.inr m2) z)
 have e3:nbT N.m (markT N) (N.m + k) = N.m + nkT N.m (markT N) k:=by unfold nbT; rw [if_neg (by omega)]; congr 2; omega
 rw [e3] at n1 n2
 unfold newJ
 dsimp only
 omega
theorem tid_get {j:Nat} {q:Nat × Nat} (e:(tidN N).js[j]? = some q):∃ k p,N.js[k]? = some p∧markT N (N.m + k) = true∧nkT N.m (markT N) k = j∧q = newJ N.m (fT N) (markT N) p:=by
 have hj:j < nkT N.m (markT N) N.js.length:=by
  have:=(List.getElem?_eq_some_iff.mp e).1
  rwa [show (tidN N).js = keptN N.m (fT N) (markT N) N.js N.js.length from rfl,kept_len] at this
 obtain ⟨k,h1,h2,h3⟩:=nk_onto hj
 have e':(tidN N).js[j]? = some (newJ N.m (fT N) (markT N) (N.js.getD k (0,0))):=by rw [← h3]; exact kept_get h1 h2
 rw [e] at e'
 cases e'
 have ek:N.js[k]? = some (N.js.getD k (0,0)):=by rw [List.getD_eq_getElem?_getD,List.getElem?_eq_getElem h1]; rfl
 exact ⟨k,_,ek,h2,h3,rfl⟩
theorem tid_at {k:Nat} {p:Nat × Nat} (e:N.js[k]? = some p) (h:markT N (N.m + k) = true):(tidN N).js[nkT N.m (markT N) k]? = some (newJ N.m (fT N) (markT N) p):=by
 have lt:=(List.getElem?_eq_some_iff.mp e).1
 have:=kept_get (f:=fT N) (js:=N.js) lt h
 rw [List.getD_eq_getElem?_getD,e] at this
 exact this
theorem tid_len:(tidN N).js.length = nkT N.m (markT N) N.js.length:=kept_len _
theorem tid_ixs:∀ i p,(tidN N).js[i]? = some p→p.1 < p.2∧p.2 < N.m + i:=fun i q e=>by
 obtain ⟨k,p,e1,e2,e3,rfl⟩:=tid_get R ho e
 rw [← e3]
 exact new_lt R ho e1 e2
omit R ho in
theorem okIx_of:∀ {js:List (Nat × Nat)} {n:Nat},(∀ i p,js[i]? = some p→p.1 < p.2∧p.2 < n + i)→okIx n js
 | [],_,_=>trivial
 | p :: r,n,h=>⟨(h 0 p rfl).1,(h 0 p rfl).2,okIx_of fun i q e=>by have:=h (i + 1) q (by simpa using e); exact ⟨this.1,by omega⟩⟩
theorem tid_ix:okIx (tidN N).m (tidN N).js:=okIx_of (tid_ixs R ho)
theorem tid_row:∀ (t:Nat),t < N.m + N.js.length→goodT N t→(rowsN (tidN N)).getD (nT N t) 0 = (rowsN N).getD t 0:=by
 intro t
 induction t using Nat.strongRecOn with
 | _ t ih =>
  intro ht g
  by_cases hm:t < N.m
  ·rw [show nT N t = t by unfold nT nbT; rw [if_pos hm],rowsN_own hm,rowsN_own (N:=tidN N) (t:=t) hm]
  ·obtain ⟨k,rfl⟩:∃ k,t = N.m + k:=⟨t - N.m,by omega⟩
   have hk:k < N.js.length:=by omega
   have hL:=g.resolve_left hm
   have e:N.js[k]? = some N.js[k]:=List.getElem?_eq_getElem hk
   obtain ⟨m1,m2⟩:=mark_on R e hL
   obtain ⟨l1,l2⟩:=f_lt R e
   obtain ⟨a,b,c⟩:=js_lt R e
   have e3:nT N (N.m + k) = N.m + nkT N.m (markT N) k:=by unfold nT nbT; rw [if_neg (by omega)]; congr 2; omega
   rw [e3]
   have:=rowsN_at (N:=tidN N) (tid_ix R ho) (tid_at R ho e hL)
   rw [show (tidN N).m = N.m from rfl] at this
   rw [this,rowsN_at R.ix e]
   have i1:=ih _ l1 (by omega) (.inr m1)
   have i2:=ih _ l2 (by omega) (.inr m2)
   rw [fT_row (by omega)] at i1 i2
   rw [← i1,← i2]
   unfold newJ
   dsimp only
   rcases Nat.le_total (nbT N.m (markT N) (fT N N.js[k].1)) (nbT N.m (markT N) (fT N N.js[k].2)) with q | q
   ·rw [Nat.min_eq_left q,Nat.max_eq_right q]
   ·rw [Nat.min_eq_right q,Nat.max_eq_left q,Nat.xor_comm]
theorem tid_of {i:Nat} (h:i < N.m + (tidN N).js.length):∃ t,t < N.m + N.js.length∧goodT N t∧nT N t = i:=by
 rw [tid_len R ho] at h
 by_cases hm:i < N.m
 ·exact ⟨i,by omega,.inl hm,by unfold nT nbT; rw [if_pos hm]⟩
 ·obtain ⟨k,h1,h2,h3⟩:=nk_onto (m:=N.m) (L:=markT N) (n:=N.js.length) (j:=i - N.m) (by omega)
  refine ⟨N.m + k,by omega,.inr h2,?_⟩
  unfold nT nbT
  rw [if_neg (by omega),show N.m + k - N.m = k by omega,h3]
  omega
theorem tid_nodup:(rowsN (tidN N)).Nodup:=by
 have hl:(rowsN (tidN N)).length = N.m + (tidN N).js.length:=rows_len _
 refine List.pairwise_iff_getElem.mpr fun i j hi hj hij e=>?_
 obtain ⟨s,s1,s2,s3⟩:=tid_of R ho (i:=i) (by omega)
 obtain ⟨t,t1,t2,t3⟩:=tid_of R ho (i:=j) (by omega)
 have e':(rowsN (tidN N)).getD i 0 = (rowsN (tidN N)).getD j 0:=by rw [gd_eq hi,gd_eq hj,e]
 rw [← s3,← t3,tid_row R ho s s1 s2,tid_row R ho t t1 t2] at e'
 have:fT N s = fT N t:=fst1_eq e'
 rw [good_f R ho s2,good_f R ho t2] at this
 rw [← s3,← t3,this] at hij
 omega
theorem nT_lt {t:Nat} (ht:t < N.m + N.js.length) (g:goodT N t):nT N t < N.m + (tidN N).js.length:=by
 have:=nb_lt (m:=N.m) (L:=markT N) ht g
 rw [tid_len R ho]
 have e3:nbT N.m (markT N) (N.m + N.js.length) = N.m + nkT N.m (markT N) N.js.length:=by unfold nbT; rw [if_neg (by omega)]; congr 2; omega
 rw [e3] at this
 exact this
theorem out_good {o:Nat} (h:o ∈ N.os):fT N o < N.m + N.js.length∧goodT N (fT N o):=by
 have h1:=ho o h
 have:=fT_le (N:=N) (t:=o) h1
 exact ⟨by omega,.inr (mark_out h)⟩
theorem tid_os:∀ o ∈ (tidN N).os,o < N.m + (tidN N).js.length:=fun o h=>by
 obtain ⟨x,hx,rfl⟩:=List.mem_map.mp h
 obtain ⟨a,b⟩:=out_good R ho hx
 exact nT_lt R ho a b
theorem tid_rows {k:Nat} {p:Nat × Nat} (e:N.js[k]? = some p) (h:markT N (N.m + k) = true) :
  ((rowsN (tidN N)).getD (newJ N.m (fT N) (markT N) p).1 0 = (rowsN N).getD p.1 0∧(rowsN (tidN N)).getD (newJ N.m (fT N) (markT N) p).2 0 = (rowsN N).getD p.2 0) ∨
  ((rowsN (tidN N)).getD (newJ N.m (fT N) (markT N) p).1 0 = (rowsN N).getD p.2 0∧(rowsN (tidN N)).getD (newJ N.m (fT N) (markT N) p).2 0 = (rowsN N).getD p.1 0):=by
 obtain ⟨m1,m2⟩:=mark_on R e h
 obtain ⟨l1,l2⟩:=f_lt R e
 obtain ⟨a,b,c⟩:=js_lt R e
 have r1:=tid_row R ho (fT N p.1) (by omega) (.inr m1)
 have r2:=tid_row R ho (fT N p.2) (by omega) (.inr m2)
 rw [fT_row (by omega)] at r1 r2
 unfold newJ
 dsimp only
 rcases Nat.le_total (nbT N.m (markT N) (fT N p.1)) (nbT N.m (markT N) (fT N p.2)) with q | q
 ·rw [Nat.min_eq_left q,Nat.max_eq_right q]; exact .inl ⟨r1,r2⟩
 ·rw [Nat.min_eq_right q,Nat.max_eq_left q]; exact .inr ⟨r2,r1⟩
end
theorem tid_net {N:Net} (h:IsNet N):IsNet (tidN N):=by
 have R:=rws_of h
 have ho:=h.os
 refine ⟨h.m1,h.m12,?_,okJs_of fun i q e=>?_,?_,?_,tid_os R ho⟩
 ·rw [tid_len R ho]; have:=nk_le (m:=N.m) (L:=markT N) N.js.length; have:=h.jl; omega
 ·obtain ⟨a,b⟩:=tid_ixs R ho i q e
  refine ⟨a,by rw [own_len]; exact b,?_⟩
  obtain ⟨k,p,e1,e2,e3,rfl⟩:=tid_get R ho e
  have ne:=R.ne k p e1
  show (rowsN (tidN N)).getD _ 0 ≠ (rowsN (tidN N)).getD _ 0
  rcases tid_rows R ho e1 e2 with ⟨r1,r2⟩ | ⟨r1,r2⟩
  ·rw [r1,r2]; exact ne
  ·rw [r1,r2]; exact ne.symm
 ·show 1 ≤ (N.os.map _).length
  rw [List.length_map]; exact h.o1
 ·show (N.os.map _).length ≤ 24
  rw [List.length_map]; exact h.o24
theorem tid_leaned {N:Net} (h:IsNet N) {j:Nat} (hj:j < (tidN N).js.length):(N.m + j ∈ (tidN N).os) ∨ ∃ i q,j < i∧(tidN N).js[i]? = some q∧(N.m + j = q.1 ∨ N.m + j = q.2):=by
 have R:=rws_of h
 have ho:=h.os
 rw [tid_len R ho] at hj
 obtain ⟨k,h1,h2,h3⟩:=nk_onto hj
 have e3:nT N (N.m + k) = N.m + j:=by unfold nT nbT; rw [if_neg (by omega),show N.m + k - N.m = k by omega,h3]
 rcases mark_from h2 with ⟨o,a,b⟩ | ⟨k',p,a,b,c⟩
 ·left
  exact List.mem_map.mpr ⟨o,a,by show nT N (fT N o) = _; rw [← b,e3]⟩
 ·right
  obtain ⟨l1,l2⟩:=f_lt R a
  have lt:k < k':=by rcases c with c | c <;> omega
  have ej:=nk_succ (m:=N.m) (L:=markT N) k
  rw [if_pos h2] at ej
  have mo:=nk_mono (m:=N.m) (L:=markT N) (show k + 1 ≤ k' by omega)
  refine ⟨_,_,by omega,tid_at R ho a b,?_⟩
  unfold newJ
  dsimp only
  rw [← e3]
  show nbT N.m (markT N) (N.m + k) = _ ∨ nbT N.m (markT N) (N.m + k) = _
  rcases c with c | c
  ·rw [c]; omega
  ·rw [c]; omega
theorem tid_fix {T:Net} (h:IsNet T) (nd:(rowsN T).Nodup) (ln:∀ j,j < T.js.length→(T.m + j ∈ T.os) ∨ ∃ i q,j < i∧T.js[i]? = some q∧(T.m + j = q.1 ∨ T.m + j = q.2)):tidN T = T:=by
 have R:=rws_of h
 have ho:=h.os
 have hl:(rowsN T).length = T.m + T.js.length:=rows_len T
 have ff:∀ t,t < T.m + T.js.length→fT T t = t:=fun t ht=>by
  have h1:=fT_le (N:=T) (t:=t) ht
  have h2:=fT_row (N:=T) (t:=t) ht
  rw [gd_eq (by omega),gd_eq (by omega)] at h2
  exact (List.getElem_inj nd).mp h2
 have mk:∀ (d j:Nat),T.js.length - j = d→j < T.js.length→markT T (T.m + j) = true:=by
  intro d
  induction d using Nat.strongRecOn with
  | _ d ih =>
   intro j hd hj
   rcases ln j hj with q | ⟨i,q,a,b,c⟩
   ·have:=mark_out q
    rw [ff _ (by omega)] at this
    exact this
   ·have hi:=(List.getElem?_eq_some_iff.mp b).1
    have hm:=ih (T.js.length - i) (by omega) i rfl hi
    obtain ⟨m1,m2⟩:=mark_on R b hm
    obtain ⟨l0,l1,l2⟩:=js_lt R b
    rw [ff _ (by omega)] at m1 m2
    rcases c with c | c
    ·rw [c]; exact m1
    ·rw [c]; exact m2
 have nk:∀ k,k ≤ T.js.length→nkT T.m (markT T) k = k:=by
  intro k
  induction k with
  | zero=>intro _; rfl
  | succ k ih=>intro hk; rw [nk_succ,if_pos (mk _ k rfl (by omega)),ih (by omega)]
 have nb:∀ t,t ≤ T.m + T.js.length→nbT T.m (markT T) t = t:=fun t ht=>by
  unfold nbT
  split
  ·rfl
  ·rw [nk _ (by omega)]; omega
 have kp:∀ k,k ≤ T.js.length→keptN T.m (fT T) (markT T) T.js k = T.js.take k:=by
  intro k
  induction k with
  | zero=>intro _; rfl
  | succ k ih =>
   intro hk
   have e:T.js[k]? = some (T.js[k]'(by omega)):=List.getElem?_eq_getElem _
   have e2:T.js.getD k (0,0) = T.js[k]'(by omega):=by rw [List.getD_eq_getElem?_getD,e]; rfl
   obtain ⟨l0,l1,l2⟩:=js_lt R e
   rw [kept_succ,if_pos (mk _ k rfl (by omega)),ih (by omega),e2,List.take_add_one,e]
   congr 1
   unfold newJ
   rw [ff _ (by omega),ff _ (by omega),nb _ (by omega),nb _ (by omega),Nat.min_eq_left (by omega),Nat.max_eq_right (by omega)]
   rfl
 have eo:T.os.map (fun o=>nbT T.m (markT T) (fT T o)) = T.os:=by
  conv=>rhs; rw [← List.map_id T.os]
  refine List.map_congr_left fun o h1=>?_
  have:=ho o h1
  rw [ff o this,nb o (by omega)]
  rfl
 unfold tidN
 rw [kp _ (Nat.le_refl _),List.take_length,eo]
theorem tid_idem {N:Net} (h:IsNet N):tidN (tidN N) = tidN N:=tid_fix (tid_net h) (tid_nodup (rws_of h) h.os) fun j hj=>tid_leaned h hj
end L2
namespace L2
open PySem PySem.Spec PyProof.Rows
section
variable {M:Model} {A:Around} {E:Value→Shared→Prop} {s:Shared} {env:Env}
theorem cw_type_kw {pos:Pos} {T:String} {first:List Value} {args:List (Bool × Sem Value)} {keywords:List (Option Str × Sem Value)} {Q:Value→Shared→Prop}
  (hplain:args.any (·.1) = false) (hkw:keywords.any (·.1.isNone) = false)
  (h:wpAny M A (evalArgs (.type T) true args keywords) (fun a s₁=>wpAny M A (call (.type T) (first ++ a.pos) a.kw) Q E s₁) E s) :
  wpAny M A (callWith pos (.type T) first args keywords) Q E s:=by
 unfold callWith
 refine wpAny_bind (wpAny_holding (wpAny_mono h (fun a s₁ h₁=>wpAny_bind (wpAny_standAt ?_)) fun _ _ x=>x))
 simp only [hplain,hkw,Bool.or_false]
 refine wpAny_bind (wpAny_pure ?_)
 exact wpAny_bind (wpAny_mono h₁ (fun r s₂ hr=>wpAny_bind (wpAny_holding (wpAny_point (wpAny_pure hr)))) fun _ _ x=>x)
theorem cw_kwT {pos:Pos} {T:String} {e:Expr} {rest:List Expr} {kws:List Keyword} {Q:Value→Shared→Prop}
  (h:wpAny M A (spliced (backTo pos (starEach (e :: rest) env))) (fun vs s₁=>wpAny M A (evalAll ((backToKw pos (keywordEach kws env)).map (·.2)))
   (fun kvs s₂=>wpAny M A (call (.type T) vs (((backToKw pos (keywordEach kws env)).filterMap (·.1)).zip kvs)) Q E s₂) E s₁) E s)
  (he:backTo pos (starEach (e :: rest) env) = (false,eval e env) :: backTo pos (starEach rest env):=by rfl)
  (hplain:(backTo pos (starEach (e :: rest) env)).any (·.1) = false:=by rfl)
  (hall:(backToKw pos (keywordEach kws env)).all (·.1.isSome) = true:=by rfl)
  (hkw:(backToKw pos (keywordEach kws env)).any (·.1.isNone) = false:=by rfl) :
  wpAny M A (callWith pos (.type T) [] (backTo pos (starEach (e :: rest) env)) (backToKw pos (keywordEach kws env))) Q E s:=by
 refine cw_type_kw hplain hkw ?_
 rw [he] at h ⊢
 exact evalArgs_kwB hall h
end
section
variable {X:Cx} (K:PySem.W.Frag)
def isNone:Value→Bool
 | .none=>true
 | _=>false
end
end L2
set_option maxHeartbeats 2000000
namespace L2
open PySem PySem.Spec PyProof.Rows
section
variable {K:PySem.W.Frag} {te ta:TE} {ae a:AE} {ts:TA} {as:AA}
theorem RepDs.eraseIdx {H:Hp}:∀ {vs:List V} {ds:List D} (n:Nat),RepDs K H vs ds→RepDs K H (vs.eraseIdx n) (ds.eraseIdx n)
 | [],[],n,_=>by simp; exact .nil
 | v :: vs,d :: ds,0,h=>by unfold RepDs at h; exact h.2
 | v :: vs,d :: ds,n + 1,h=>by unfold RepDs at h; exact .cons h.1 (RepDs.eraseIdx n h.2)
 | [],d :: ds,n,h=>by unfold RepDs at h; exact h.elim
 | v :: vs,[],n,h=>by unfold RepDs at h; exact h.elim
end
end L2
namespace L2
open PySem
def Ris (xs:Array Nat):Prop:=xs.toList.Pairwise (· < ·)
theorem Ris.lt {xs:Array Nat} (h:Ris xs) {i k:Nat} (hk:k < xs.size) (hi:i < k):xs[i]'(by omega) < xs[k]:=by
 have:=List.pairwise_iff_getElem.mp h i k (by simp; omega) (by simpa using hk) hi
 simpa using this
def Led (t:SetTable):Prop:=t.led = true∧Ris t.place
end L2
namespace L2
open PySem PySem.Spec PyProof.Rows
def byT (w:World):Bool:=w.params.followText "set-order"
def SetI (P:Program) (w:World) (h:Heap) (a:Addr) (ks:List Int):Prop :=
 ∃ o es ep t,h.get? a = some o∧o.ExactSet∧o.data = .set es ep t∧ElemsOf (intKind P w) es.toList∧(∀ k,k ∈ ks↔∃ e ∈ es.toList,(intKind P w).is k e.2 = true)∧es.size < scanBound∧t.fits es.size = true∧es.size = ks.length∧(byT w = false→Led t)
section
variable {P:Program} {w:World} {A:Around} {E:Value→Shared→Prop} {s:Shared}
theorem SetI.kept {h h':Heap} {a:Addr} {ks:List Int} (hS:SetI P w h a ks) (k:∀ o,h.get? a = some o→h'.get? a = some o):SetI P w h' a ks:=by
 obtain ⟨o,es,ep,t,ho,r⟩:=hS
 exact ⟨o,es,ep,t,k o ho,r⟩
end
end L2
set_option maxHeartbeats 3200000
namespace L2
open PySem PySem.Spec PyProof.Rows
end L2
set_option maxHeartbeats 1000000
namespace L2
open PySem PySem.Spec PyProof.Rows
theorem Inv.drawn {X:Cx} {pins:List (Addr × Obj)} {σ:List (Option V)} {H:Hp} {s:Shared} (I:Inv X pins σ H s) (d:Drawn):Inv X pins σ H { s with drawn:=d } :=
 ⟨I.ok,I.os,I.bare,I.base,I.loc,I.cell,I.free,I.freeC,I.pin,I.hok,I.len⟩
end L2
namespace L2
open PySem PySem.Spec PyProof.Rows PySem.W
end L2
namespace L2
open PySem PySem.Spec PyProof.Rows
mutual
def noL:D→Bool
 | .lst _=>false
 | .tup ds=>noLs ds
 | _=>true
def noLs:List D→Bool
 | []=>true
 | d :: ds=>noL d && noLs ds
end
section
variable {K:PySem.W.Frag} {H H':Hp}
mutual
theorem RepD.tups (ht:∀ a vs,StT H a vs→StT H' a vs):∀ {v:V} {d:D},noL d = true→RepD K H v d→RepD K H' v d
 | v,.non,_,h=>by unfold RepD at h ⊢; exact h
 | v,.bl b,_,h=>by unfold RepD at h ⊢; exact h
 | v,.int i,_,h=>by unfold RepD at h ⊢; exact h
 | v,.str x,_,h=>by unfold RepD at h ⊢; exact h
 | v,.tup ds,z,h=>by
  unfold RepD at h ⊢
  obtain ⟨a,vs,e,h1,h2⟩:=h
  exact ⟨a,vs,e,ht _ _ h1,RepDs.tups ht (by unfold noL at z; exact z) h2⟩
 | v,.lst ds,z,h=>by unfold noL at z; cases z
theorem RepDs.tups (ht:∀ a vs,StT H a vs→StT H' a vs):∀ {vs:List V} {ds:List D},noLs ds = true→RepDs K H vs ds→RepDs K H' vs ds
 | [],[],_,_=>RepDs.nil
 | v :: vs,d :: ds,z,h=>by
  unfold RepDs at h ⊢
  unfold noLs at z
  rw [Bool.and_eq_true] at z
  exact ⟨RepD.tups ht z.1 h.1,RepDs.tups ht z.2 h.2⟩
 | [],d :: ds,_,h=>by unfold RepDs at h; exact h.elim
 | v :: vs,[],_,h=>by unfold RepDs at h; exact h.elim
end
end
def svN:Sv→Bool
 | .un=>true
 | .vl d=>noL d
 | .ow ds=>noLs ds
 | _=>false
def svNs:En→Bool
 | []=>true
 | s :: ss=>svN s && svNs ss
theorem svNs_gt:∀ {ss:En} (i:Nat),svNs ss = true→svN (gt ss i) = true
 | [],i,_=>rfl
 | s :: ss,0,h=>by unfold svNs at h; rw [Bool.and_eq_true] at h; exact h.1
 | s :: ss,i + 1,h=>by unfold svNs at h; rw [Bool.and_eq_true] at h; exact svNs_gt i h.2
section
variable {K:PySem.W.Frag} {F:Fr} {σ:St} {ρ ρ':En} {H H':Hp} {vs:List V} {ss ss':En} {Z Z':Addr→Prop}
theorem SvOk.tups {Hh Hh':Hp} {v:Option (Option V)} {s:Sv} (h:SvOk K Hh H v s) (z:svN s = true) (ht:∀ a vs,StT Hh a vs→StT Hh' a vs) (k:∀ l o,s.own = true→v = some (some (.ref l))→H l = some o→H' l = some o):SvOk K Hh' H' v s:=by
 cases s with
 | un=>trivial
 | vl d=>obtain ⟨x,e,r⟩:=h; exact ⟨x,e,r.tups ht z⟩
 | ow ds=>obtain ⟨l,vs,e,a,r⟩:=h; exact ⟨l,vs,e,k _ _ rfl e a,r.tups ht z⟩
 | tp n=>cases z
 | dk kvs=>cases z
 | dt kvs=>cases z
 | ex C fs=>cases z
 | sc ns=>cases z
 | px d C fs=>cases z
 | xl es=>cases z
theorem Rel.without (r0:Rel K (F0 vs ss H Z) (vs.map some) ss H) (r:Rel K (F0 vs ss H Z) (vs.map some) ss' H') (hn:svNs ss' = true) {l:Addr} {us:List V} (h0:H l = none) (hl:H' l = some (.lst us)) (no:¬ owned (vs.map some) ss' l) (hz:∀ a,Z a→Nt H a):Rel K (F0 vs ss H Z) (vs.map some) ss' (del H' l):=by
 refine ⟨r.len,fun a o e n=>?_,fun a z=>?_,r.zo,r.ow,r.mi,r.ml,fun a z=>?_,r.nd,fun i=>(r.sl i).tups (svNs_gt i hn) (fun a xs h=>?_) fun b o ho e h=>?_⟩
 ·rw [del_ne (ne_of_none (show H a = some o from e) h0)]; exact r.fr a o e n
 ·have al:a ≠ l:=fun q=>(hz a z).1 (q ▸ h0)
  unfold Nt; rw [del_ne al]; exact r.zl a z
 ·have al:a ≠ l:=fun q=>r0.ma a z (q ▸ h0)
  rw [del_ne al]; exact r.ma a z
 ·obtain ⟨n,e⟩:=hid_some.mp h
  have al:a ≠ l:=fun q=>by rw [q,hl] at e; cases e
  exact hid_of n (by rw [del_ne al]; exact e)
 ·have al:b ≠ l:=fun q=>no ⟨i,ho,q ▸ e⟩
  rw [del_ne al]; exact h
end
def dv:Sv→Sv
 | .vl d=>.vl d
 | .ow ds=>.vl (.lst ds)
 | _=>.un
def kept (pr:Nat→Bool):Nat→En→En→Prop
 | k,s :: r,s' :: r'=>(pr k = true→s' = s)∧kept pr (k + 1) r r'
 | _,[],[]=>True
 | _,_,_=>False
theorem pt_last:∀ (ρ:En) (s z:Sv),pt (ρ ++ [z]) ρ.length s = ρ ++ [s]
 | [],s,z=>rfl
 | x :: ρ,s,z=>by
  show x :: pt (ρ ++ [z]) ρ.length s = x :: (ρ ++ [s])
  rw [pt_last ρ s z]
section
variable {K:PySem.W.Frag} {F:Fr} {σ:St} {ρ ρ':En} {H H':Hp}
theorem Rel.more (r:Rel K F σ ρ H) {l:Addr} {o:HO} {s:Sv} (hs':s.own = true) (hd:SvOk K (hid H (hs F σ ρ)) (upd H l o) (some (some (.ref l))) s) (hn:H l = none):Rel K F (σ ++ [some (.ref l)]) (ρ ++ [s]) (upd H l o):=by
 have x:=r.ext 1
 have ng:∀ a,¬ F.pin σ.length a:=fun a z=>by
  have:=r.mi _ _ z
  rw [List.getElem?_eq_none (Nat.le_refl _)] at this; cases this
 have sub:∀ a,owned (σ ++ List.replicate 1 none) (ρ ++ List.replicate 1 .un) a→owned σ ρ a:=fun a ⟨i,hi,e⟩=>by
  rw [gt_app] at hi
  rw [List.getElem?_append_left (by rw [r.len]; exact own_lt hi)] at e
  exact ⟨i,hi,e⟩
 have y:=x.setF (i:=σ.length) (l:=l) (o:=o) (s:=s) hs' (hd.keep (hid_same fun a u e n=>⟨e,fun z=>n (z.imp id (sub a))⟩) fun _ _ _ _ e=>e) hn ng
 have e1:(σ ++ List.replicate 1 none).set σ.length (some (.ref l)) = σ ++ [some (.ref l)]:=by
  rw [List.set_append_right _ _ (Nat.le_refl _),Nat.sub_self]; rfl
 have e2:pt (ρ ++ List.replicate 1 .un) σ.length s = ρ ++ [s]:=by rw [r.len]; exact pt_last ρ s .un
 rwa [e1,e2] at y
end
end L2
namespace L2
open PySem PySem.Spec PyProof.Rows PySem.W
section
variable {K:PySem.W.Frag} {C:Addr} {f:Str} {t0 ta:TE} {a0 a:AE} {ts:TA} {as:AA} {F:Fr} {σ:St} {ρ:En} {H:Hp}
theorem Exs.length {Hh:Hp}:∀ {vs:List V} {es:List (Addr × Option (List (Str × L2.D)))},Exs K Hh vs es→vs.length = es.length
 | [],[],_=>rfl
 | _ :: vs,_ :: es,h=>by rw [List.length_cons,List.length_cons,Exs.length h.2]
 | [],_ :: _,h=>h.elim
 | _ :: _,[],h=>h.elim
theorem Exs.get {Hh:Hp}:∀ {vs:List V} {es:List (Addr × Option (List (Str × L2.D)))} {i:Nat} {c:Addr × Option (List (Str × L2.D))},Exs K Hh vs es→es[i]? = some c→∃ e od,vs[i]? = some (.ref e)∧Hh e = some (.ext (exP e c.1 od))∧exD K Hh c.2 od
 | [],[],_,_,_,h=>by cases h
 | x :: vs,c' :: es,0,c,h,e=>by
  injection e with e; subst e
  obtain ⟨⟨e,od,e1,e2,e3⟩,_⟩:=h
  exact ⟨e,od,by rw [e1]; rfl,e2,e3⟩
 | x :: vs,c' :: es,i + 1,c,h,e=>Exs.get (i:=i) h.2 e
 | [],_ :: _,_,_,h,_=>h.elim
 | _ :: _,[],_,_,h,_=>h.elim
end
end L2
namespace K15
open PySem PySem.Spec PyProof.Rows L2
def top (i:Nat):Stmt:=PySem.Challenge.pw_fewjoins_k15_tidied.main.body.getD i (.Pass ⟨0,0,0,0⟩)
abbrev s_is_whole:Stmt:=top 1
abbrev nm_is_whole:List Str:=["thing", "least", "most"]
theorem sc_is_whole:FnScope nm_is_whole ["thing", "least", "most"] (defScope s_is_whole):=⟨rfl,rfl,rfl,by decide +kernel,rfl,by decide +kernel,by decide +kernel⟩
abbrev s_is_tuple:Stmt:=top 2
abbrev nm_is_tuple:List Str:=["thing", "least", "most"]
theorem sc_is_tuple:FnScope nm_is_tuple ["thing", "least", "most"] (defScope s_is_tuple):=⟨rfl,rfl,rfl,by decide +kernel,rfl,by decide +kernel,by decide +kernel⟩
abbrev s_joined:Stmt:=top 5
abbrev nm_joined:List Str:=["one", "other"]
theorem sc_joined:FnScope nm_joined ["one", "other"] (defScope s_joined):=⟨rfl,rfl,rfl,by decide +kernel,rfl,by decide +kernel,by decide +kernel⟩
abbrev s_is_net:Stmt:=top 9
abbrev nm_is_net:List Str:=["thing", "many", "joins", "outs"]
theorem sc_is_net:FnScope nm_is_net ["thing"] (defScope s_is_net):=⟨rfl,rfl,rfl,by decide +kernel,rfl,by decide +kernel,by decide +kernel⟩
abbrev s_are_joins:Stmt:=top 10
abbrev nm_are_joins:List Str:=["many", "joins", "rows", "join"]
theorem sc_are_joins:FnScope nm_are_joins ["many", "joins"] (defScope s_are_joins):=⟨rfl,rfl,rfl,by decide +kernel,rfl,by decide +kernel,by decide +kernel⟩
abbrev s_is_join:Stmt:=top 11
abbrev nm_is_join:List Str:=["rows", "join", "a", "b", "last"]
theorem sc_is_join:FnScope nm_is_join ["rows", "join"] (defScope s_is_join):=⟨rfl,rfl,rfl,by decide +kernel,rfl,by decide +kernel,by decide +kernel⟩
abbrev s_are_outs:Stmt:=top 12
abbrev nm_are_outs:List Str:=["things", "outs"]
theorem sc_are_outs:FnScope nm_are_outs ["things", "outs"] (defScope s_are_outs):=⟨rfl,rfl,rfl,by decide +kernel,rfl,by decide +kernel,by decide +kernel⟩
abbrev s_own_rows:Stmt:=top 13
abbrev nm_own_rows:List Str:=["many"]
theorem sc_own_rows:FnScope nm_own_rows ["many"] (defScope s_own_rows):=⟨rfl,rfl,rfl,by decide +kernel,rfl,by decide +kernel,by decide +kernel⟩
abbrev s_joining:Stmt:=top 14
abbrev nm_joining:List Str:=["one", "other"]
theorem sc_joining:FnScope nm_joining ["one", "other"] (defScope s_joining):=⟨rfl,rfl,rfl,by decide +kernel,rfl,by decide +kernel,by decide +kernel⟩
abbrev s_all_words:Stmt:=top 15
abbrev nm_all_words:List Str:=["net", "words", "many", "joins", "outs", "told", "a", "b"]
theorem sc_all_words:FnScope nm_all_words ["net", "words"] (defScope s_all_words):=⟨rfl,rfl,rfl,by decide +kernel,rfl,by decide +kernel,by decide +kernel⟩
abbrev s_rows_of:Stmt:=top 16
abbrev nm_rows_of:List Str:=["net"]
theorem sc_rows_of:FnScope nm_rows_of ["net"] (defScope s_rows_of):=⟨rfl,rfl,rfl,by decide +kernel,rfl,by decide +kernel,by decide +kernel⟩
abbrev s_tidied:Stmt:=top 18
abbrev nm_tidied:List Str:=["net", "many", "joins", "outs", "stands", "leant", "numbers", "kept", "at", "a", "b"]
theorem sc_tidied:FnScope nm_tidied ["net"] (defScope s_tidied):=⟨rfl,rfl,rfl,by decide +kernel,rfl,by decide +kernel,by decide +kernel⟩
abbrev s_first_alike:Stmt:=top 19
abbrev nm_first_alike:List Str:=["rows", "first", "stands", "thing", "row"]
theorem sc_first_alike:FnScope nm_first_alike ["rows"] (defScope s_first_alike):=⟨rfl,rfl,rfl,by decide +kernel,rfl,by decide +kernel,by decide +kernel⟩
abbrev s_leant_on:Stmt:=top 20
abbrev nm_leant_on:List Str:=["net", "stands", "many", "joins", "outs", "leant", "at", "a", "b"]
theorem sc_leant_on:FnScope nm_leant_on ["net", "stands"] (defScope s_leant_on):=⟨rfl,rfl,rfl,by decide +kernel,rfl,by decide +kernel,by decide +kernel⟩
abbrev s_law_tape:Stmt:=top 22
abbrev nm_law_tape:List Str:=["_law_script"]
theorem sc_law_tape:FnScope nm_law_tape ["_law_script"] (defScope s_law_tape):=⟨rfl,rfl,rfl,by decide +kernel,rfl,by decide +kernel,by decide +kernel⟩
abbrev s_law_draw:Stmt:=top 23
abbrev nm_law_draw:List Str:=["_law_tape_here", "_law_many", "_law_found", "_law_spot", "_law_cells", "_law_cell", "_law_seed"]
theorem sc_law_draw:FnScope nm_law_draw ["_law_tape_here", "_law_many"] (defScope s_law_draw):=⟨rfl,rfl,rfl,by decide +kernel,rfl,by decide +kernel,by decide +kernel⟩
abbrev s_law_net:Stmt:=top 24
abbrev nm_law_net:List Str:=["_law_tape_here", "_law_most", "_law_joins_most", "_law_many", "_law_rows_here", "_law_joins", "_law_way", "_law_turn", "_law_a", "_law_b", "_law_outs"]
theorem sc_law_net:FnScope nm_law_net ["_law_tape_here", "_law_most", "_law_joins_most"] (defScope s_law_net):=⟨rfl,rfl,rfl,by decide +kernel,rfl,by decide +kernel,by decide +kernel⟩
abbrev s_law_rows:Stmt:=top 25
abbrev nm_law_rows:List Str:=["_law_net_here", "_law_rows_here", "_law_a", "_law_b"]
theorem sc_law_rows:FnScope nm_law_rows ["_law_net_here"] (defScope s_law_rows):=⟨rfl,rfl,rfl,by decide +kernel,rfl,by decide +kernel,by decide +kernel⟩
abbrev s_law_first:Stmt:=top 26
abbrev nm_law_first:List Str:=["_law_rows_here", "_law_found", "_law_row"]
theorem sc_law_first:FnScope nm_law_first ["_law_rows_here"] (defScope s_law_first):=⟨rfl,rfl,rfl,by decide +kernel,rfl,by decide +kernel,by decide +kernel⟩
abbrev s_law_leaned:Stmt:=top 27
abbrev nm_law_leaned:List Str:=["_law_net_here", "_law_first_here", "_law_outs", "_law_met", "_law_waiting", "_law_thing", "_law_a", "_law_b"]
theorem sc_law_leaned:FnScope nm_law_leaned ["_law_net_here", "_law_first_here", "_law_outs"] (defScope s_law_leaned):=⟨rfl,rfl,rfl,by decide +kernel,rfl,by decide +kernel,by decide +kernel⟩
abbrev s_law_due:Stmt:=top 28
abbrev nm_law_due:List Str:=["_law_net_here", "_law_first_here", "_law_outs", "_law_kept", "_law_place", "_law_k", "_law_at", "_law_joins", "_law_thing", "_law_a", "_law_b", "_law_pair"]
theorem sc_law_due:FnScope nm_law_due ["_law_net_here"] (defScope s_law_due):=⟨rfl,rfl,rfl,by decide +kernel,rfl,by decide +kernel,by decide +kernel⟩
abbrev s_law:Stmt:=top 29
abbrev nm_law:List Str:=["_law_script", "_law_tape_here", "_law_net_here", "_law_kept", "_law_found"]
theorem sc_law:FnScope nm_law ["_law_script"] (defScope s_law):=⟨rfl,rfl,rfl,by decide +kernel,rfl,by decide +kernel,by decide +kernel⟩
section
variable {P:Program} {w:World} {K:PySem.W.Frag} {mg:Str→Option Value} {base:Heap}
theorem ok_law_tape (D:DefN K mg "_law_tape" s_law_tape ["_law_script"]) (B:BI mg):OkN P w K mg base 1 "_law_tape" ["_law_script"] (spA K STape):=by
 refine OkN.imp (sp:=spTapeX K) ?_ tape_of
 refine D.ok sc_law_tape (fun vs H Q E h=>?_) (fun f cdv A outer s H vs Q E hr h=>?_)
 ·obtain ⟨a,ns,rfl,_⟩:=h
  rfl
 ·obtain ⟨a,ns,rfl,hS,k⟩:=h
  refine ⟨_,(pss_one (ps_ret (pe_disp (pps_cons pe_str (pe_slice (sl_listK K) (pv 0) po_none (po_some pe_int)) (pps_cons pe_str pe_int (pps_cons pe_str pe_int pps_nil))) rfl rfl (by simp) (by decide)))),?_⟩
  intro t ht
  have s0:Same H (upd H t (.dK [])):=(Same.refl H).new ht
  refine ⟨_,rfl,63,rfl,a,_,rfl,s0.seq hS,fun l hl=>?_⟩
  have ntl:t ≠ l:=ne_of_none upd_same hl
  refine ⟨by rw [upd_ne ntl,upd_same],[(Sum.inr ("cells" : Str),V.ref l),(Sum.inr ("spot" : Str),V.int 0),(Sum.inr ("left" : Str),V.int 0)],rfl,(by show 3 ≤ 15; decide),?_⟩
  rw [tape_made]
  have fin:=k t l ht (s0.free hl) ntl
  have eq:upd (upd (upd H t (.dK [])) l (.lst (cutV (ns.map V.int) none (some 63)))) t (.dK (tapeK l 0 0)) = upd (upd H l (.lst ((ns.take 63).map V.int))) t (.dK (tapeK l 0 0)):=by
   rw [cut63]
   funext b
   unfold upd
   by_cases h1:b = t
   ·rw [if_pos h1,if_pos h1]
   ·rw [if_neg h1,if_neg h1,if_neg h1]
  rw [eq]
  exact fin
theorem ok_law_draw (D:DefN K mg "_law_draw" s_law_draw ["_law_tape_here", "_law_many"]) (B:BI mg):OkN P w K mg base 1 "_law_draw" ["_law_tape_here", "_law_many"] (spA K SDraw):=by
 refine OkN.imp (sp:=spDrawX K) ?_ draw_of
 refine D.ok sc_law_draw (fun vs H Q E h=>?_) (fun f cdv A outer s H vs Q E hr h=>?_)
 ·obtain ⟨t,c,m,sp,lf,ns,n,rfl,_⟩:=h
  rfl
 ·obtain ⟨t,c,m,sp,lf,ns,n,rfl,hT,hC,h1,h2,h3,hn,hm,k⟩:=h
  have hu:=hu_of hr
  have hm0:=hm.1
  have gl:DGet H t (kV (Sum.inr "left")) (some (.int lf)):=by rw [← tape_left (c:=c) (sp:=sp)]; exact DGet.k hT
  have gs:DGet H t (kV (Sum.inr "spot")) (some (.int sp)):=by rw [← tape_spot (c:=c) (lf:=lf)]; exact DGet.k hT
  have gc:DGet H t (kV (Sum.inr "cells")) (some (.ref c)):=by rw [← tape_cells (sp:=sp) (lf:=lf)]; exact DGet.k hT
  refine ⟨_,(pss_cons (ps_if (pt_cmpR op_gt (pe_dget hu (pv 0) pe_str (fun _ _=>rfl)) pe_int (nomark _))
   (pss_cons (ps_set (i:=2) sc_law_draw.nd rfl (by first | exact Or.inl rfl | exact Or.inr rfl) (pe_op op_mod (pe_dget hu (pv 0) pe_str (fun _ _=>rfl)) (pv 1)))
   (pss_cons (ps_dput hu (pv 0) pe_str (pe_op op_fdivL (pe_dget hu (pv 0) pe_str (fun _ _=>rfl)) (pv 1)) rfl)
   (pss_one (ps_ret (pv 2)))))
   pss_nil)
   (pss_cons (ps_set (i:=3) sc_law_draw.nd rfl (by first | exact Or.inl rfl | exact Or.inr rfl) (pe_dget hu (pv 0) pe_str (fun _ _=>rfl)))
   (pss_cons (ps_dput hu (pv 0) pe_str (pe_op op_add (pv 3) pe_int) rfl)
   (pss_cons (ps_set (i:=4) sc_law_draw.nd rfl (by first | exact Or.inl rfl | exact Or.inr rfl) (pe_dget hu (pv 0) pe_str (fun _ _=>rfl)))
   (pss_cons (ps_set (i:=5) sc_law_draw.nd rfl (by first | exact Or.inl rfl | exact Or.inr rfl) pe_int)
   (pss_cons (ps_if (pt_cmpR op_gt (pe_callB (call_lenK K) rfl B.len_ bt_len (pa_cons (pv 4) pa_nil)) pe_int (nomark _))
   (pss_one (ps_set (i:=5) sc_law_draw.nd rfl (by first | exact Or.inl rfl | exact Or.inr rfl) (pe_ix (ix_seqK K) (pv 4) (pe_op op_mod (pv 3) (pe_callB (call_lenK K) rfl B.len_ bt_len (pa_cons (pv 4) pa_nil))) (fun _ _=>rfl))))
   pss_nil)
   (pss_cons (ps_if (PW.pt (pw_and (pt_cmpR op_ge (pv 5) (pe_op op_pow pe_int pe_int) (nomark _)) (pw_and1 (pt_cmpR op_lt (pv 3) (pe_callB (call_lenK K) rfl B.len_ bt_len (pa_cons (pv 4) pa_nil)) (nomark _)))))
   (pss_cons (ps_dput hu (pv 0) pe_str (pe_op op_fdivL (pe_op op_sub (pv 5) (pe_op op_pow pe_int pe_int)) (pv 1)) rfl)
   (pss_one (ps_ret (pe_op op_mod (pe_op op_sub (pv 5) (pe_op op_pow pe_int pe_int)) (pv 1)))))
   pss_nil)
   (pss_cons (ps_set (i:=6) sc_law_draw.nd rfl (by first | exact Or.inl rfl | exact Or.inr rfl) (pe_op op_mod (pe_op op_mul (pe_op op_add (pe_op op_add (pe_op op_add (pe_op op_mod (pv 5) pe_int) (pe_op op_mul (pe_op op_mul pe_int (pv 3)) (pv 3))) (pe_op op_mul pe_int (pv 3))) pe_int) pe_int) pe_int))
   (pss_one (ps_ret (pe_op op_mod (pe_op op_fdivL (pe_op op_mod (pe_op op_mul (pv 6) (pe_op op_add (pv 6) pe_int)) pe_int) pe_int) (pv 1)))))))))))),?_⟩
  refine ⟨_,rfl,t,_,rfl,gl,_,_,rfl,rfl,_,rfl,ite2 (fun hl=>?_) fun hl=>?_⟩
  ·refine ⟨_,rfl,t,_,rfl,gl,_,rfl,_,_,rfl,rfl,hm0,?_⟩
   refine ⟨_,rfl,t,_,rfl,gl,_,rfl,_,_,rfl,rfl,hm,_,rfl,t,_,rfl,DPut.k (k:=Sum.inr "left") hT (small1000 (by show 3 ≤ 1000; decide)),_,rfl,?_⟩
   rw [put_left]
   exact drawn (Q:=fun z H=>Q (.int z) H) hm0 fun r hr=>k r _ _ hr h1 (by omega) (Int.ediv_nonneg h3 (Int.le_of_lt hm0))
  ·refine ⟨_,rfl,t,_,rfl,gs,?_⟩
   refine ⟨_,rfl,_,_,rfl,rfl,_,rfl,t,_,rfl,DPut.k (k:=Sum.inr "spot") hT (small1000 (by show 3 ≤ 1000; decide)),?_⟩
   rw [put_spot]
   have hT1:(upd H t (.dK (tapeK c (sp + 1) lf))) t = some (.dK (tapeK c (sp + 1) lf)):=upd_same
   have hC1:SqL K (upd H t (.dK (tapeK c (sp + 1) lf))) c (ns.map V.int):=Grow.seq (Grow.refl.upd _) hT hC
   have gr1:Grow t H (upd H t (.dK (tapeK c (sp + 1) lf))):=Grow.refl.upd _
   have gc1:DGet (upd H t (.dK (tapeK c (sp + 1) lf))) t (kV (Sum.inr "cells")) (some (.ref c)):=by rw [← tape_cells (sp:=sp + 1) (lf:=lf)]; exact DGet.k hT1
   have kk:∀ (r:Nat) (lf':Int),(r:Int) < m→0 ≤ lf'→Q (.int (r:Nat)) (upd (upd H t (.dK (tapeK c (sp + 1) lf))) t (.dK (tapeK c (sp + 1) lf'))):=fun r lf' hr hl=>by rw [upd_upd]; exact k r _ _ hr (by omega) (by omega) hl
   have kl:∀ (r:Nat),(r:Int) < m→Q (.int (r:Nat)) (upd H t (.dK (tapeK c (sp + 1) lf))):=fun r hr=>k r _ _ hr (by omega) (by omega) h3
   generalize upd H t (.dK (tapeK c (sp + 1) lf)) = H1 at hT1 hC1 gr1 gc1 kk kl ⊢
   refine ⟨_,rfl,t,_,rfl,gc1,?_⟩
   have p18:(10:Int) ^ (18:Int).toNat = 1000000000000000000:=by decide
   have fits:CPow 10 18:=⟨by decide,by decide,by decide⟩
   have pos1:(0:Int) < 2147483629:=by decide
   have pos2:(0:Int) < 2147483647:=by decide
   have spOk:-(2 ^ 64) < sp∧sp < 2 ^ 64:=by omega
   refine ⟨_,rfl,c,_,rfl,.inl hC1,_,_,rfl,rfl,_,rfl,ite2 (fun hl=>?_) fun hl=>?_⟩
   ·have hl':0 < ns.length:=by
     have:=of_decide_eq_true hl
     rw [List.length_map] at this
     omega
    have el:((ns.map V.int).length:Int) = ns.length:=by rw [List.length_map]
    have hb0:0 ≤ sp % ((ns.map V.int).length:Int):=Int.emod_nonneg _ (by omega)
    have hb1:sp % ((ns.map V.int).length:Int) < ((ns.map V.int).length:Int):=Int.emod_lt_of_pos _ (by omega)
    obtain ⟨j,hj⟩:=Int.eq_ofNat_of_zero_le hb0
    have hj':j < ns.length:=by rw [hj] at hb1; omega
    refine ⟨_,rfl,_,rfl,_,rfl,c,_,rfl,.inl hC1,_,_,rfl,rfl,(by show (0:Int) < ((ns.map V.int).length:Int); omega),.inl ⟨c,_,_,V.int ns[j],rfl,rfl,hC1,?_,?_⟩⟩
    ·rw [hj]
     exact atI_nat (by simp [hj'])
    ·generalize ns[j] = z
     refine ⟨_,rfl,_,_,rfl,rfl,fits,_,_,rfl,rfl,_,rfl,ite2 (fun hz=>?_) fun hz=>?_⟩
     ·refine ⟨_,rfl,_,rfl,c,_,rfl,.inl hC1,_,_,rfl,rfl,_,rfl,ite2 (fun hs=>?_) fun hs=>?_⟩
      ·refine ⟨_,rfl,_,_,rfl,rfl,fits,_,_,rfl,rfl,_,rfl,_,_,rfl,rfl,hm,_,rfl,t,_,rfl,DPut.k (k:=Sum.inr "left") hT1 (small1000 (by show 3 ≤ 1000; decide)),?_⟩
       rw [put_left]
       refine ⟨_,rfl,_,_,rfl,rfl,fits,_,_,rfl,rfl,_,rfl,_,_,rfl,rfl,hm0,?_⟩
       refine drawn (Q:=fun z H=>Q (.int z) H) hm0 fun r hr=>kk r _ hr (Int.ediv_nonneg ?_ (Int.le_of_lt hm0))
       have hz':=of_decide_eq_true hz
       rw [p18] at hz' ⊢
       omega
      ·refine ⟨_,rfl,_,_,rfl,rfl,pos1,_,rfl,_,_,rfl,rfl,.inl ⟨by decide,by decide⟩,_,rfl,_,_,rfl,rfl,.inr spOk,_,_,rfl,rfl,_,rfl,_,_,rfl,rfl,.inl ⟨by decide,by decide⟩,_,_,rfl,rfl,_,_,rfl,rfl,_,_,rfl,rfl,.inr ⟨by decide,by decide⟩,_,_,rfl,rfl,pos2,?_⟩
       refine ⟨_,rfl,_,rfl,_,_,rfl,rfl,_,_,rfl,rfl,.inl seedOk,_,_,rfl,rfl,pos1,_,_,rfl,rfl,dv64,_,rfl,_,_,rfl,rfl,hm0,?_⟩
       exact drawn (Q:=fun z H=>Q (.int z) H) hm0 fun r hr=>kl r hr
     ·refine ⟨_,rfl,_,_,rfl,rfl,pos1,_,rfl,_,_,rfl,rfl,.inl ⟨by decide,by decide⟩,_,rfl,_,_,rfl,rfl,.inr spOk,_,_,rfl,rfl,_,rfl,_,_,rfl,rfl,.inl ⟨by decide,by decide⟩,_,_,rfl,rfl,_,_,rfl,rfl,_,_,rfl,rfl,.inr ⟨by decide,by decide⟩,_,_,rfl,rfl,pos2,?_⟩
      refine ⟨_,rfl,_,rfl,_,_,rfl,rfl,_,_,rfl,rfl,.inl seedOk,_,_,rfl,rfl,pos1,_,_,rfl,rfl,dv64,_,rfl,_,_,rfl,rfl,hm0,?_⟩
      exact drawn (Q:=fun z H=>Q (.int z) H) hm0 fun r hr=>kl r hr
   ·refine ⟨_,rfl,_,_,rfl,rfl,fits,_,_,rfl,rfl,_,rfl,ite2 (fun hz=>?_) fun hz=>?_⟩
    ·refine ⟨_,rfl,_,rfl,c,_,rfl,.inl hC1,_,_,rfl,rfl,_,rfl,ite2 (fun hs=>?_) fun hs=>?_⟩
     ·refine ⟨_,rfl,_,_,rfl,rfl,fits,_,_,rfl,rfl,_,rfl,_,_,rfl,rfl,hm,_,rfl,t,_,rfl,DPut.k (k:=Sum.inr "left") hT1 (small1000 (by show 3 ≤ 1000; decide)),?_⟩
      rw [put_left]
      refine ⟨_,rfl,_,_,rfl,rfl,fits,_,_,rfl,rfl,_,rfl,_,_,rfl,rfl,hm0,?_⟩
      refine drawn (Q:=fun z H=>Q (.int z) H) hm0 fun r hr=>kk r _ hr (Int.ediv_nonneg ?_ (Int.le_of_lt hm0))
      have hz':=of_decide_eq_true hz
      rw [p18] at hz' ⊢
      omega
     ·refine ⟨_,rfl,_,_,rfl,rfl,pos1,_,rfl,_,_,rfl,rfl,.inl ⟨by decide,by decide⟩,_,rfl,_,_,rfl,rfl,.inr spOk,_,_,rfl,rfl,_,rfl,_,_,rfl,rfl,.inl ⟨by decide,by decide⟩,_,_,rfl,rfl,_,_,rfl,rfl,_,_,rfl,rfl,.inr ⟨by decide,by decide⟩,_,_,rfl,rfl,pos2,?_⟩
      refine ⟨_,rfl,_,rfl,_,_,rfl,rfl,_,_,rfl,rfl,.inl seedOk,_,_,rfl,rfl,pos1,_,_,rfl,rfl,dv64,_,rfl,_,_,rfl,rfl,hm0,?_⟩
      exact drawn (Q:=fun z H=>Q (.int z) H) hm0 fun r hr=>kl r hr
    ·refine ⟨_,rfl,_,_,rfl,rfl,pos1,_,rfl,_,_,rfl,rfl,.inl ⟨by decide,by decide⟩,_,rfl,_,_,rfl,rfl,.inr spOk,_,_,rfl,rfl,_,rfl,_,_,rfl,rfl,.inl ⟨by decide,by decide⟩,_,_,rfl,rfl,_,_,rfl,rfl,_,_,rfl,rfl,.inr ⟨by decide,by decide⟩,_,_,rfl,rfl,pos2,?_⟩
     refine ⟨_,rfl,_,rfl,_,_,rfl,rfl,_,_,rfl,rfl,.inl seedOk,_,_,rfl,rfl,pos1,_,_,rfl,rfl,dv64,_,rfl,_,_,rfl,rfl,hm0,?_⟩
     exact drawn (Q:=fun z H=>Q (.int z) H) hm0 fun r hr=>kl r hr
end
theorem val_putD {κ:Type} [DecidableEq κ] (k k':κ) (d:D):∀ (kvs:List (κ × D)),valD (putD kvs k d) k' = if k' = k then some d else valD kvs k':=by
 have rep:∀ kvs:List (κ × D),(kvs.any fun kv=>decide (kv.1 = k)) = true→valD (kvs.map fun kv=>if kv.1 = k then (kv.1,d) else kv) k' = if k' = k then some d else valD kvs k':=by
  intro kvs
  induction kvs with
  | nil=>intro h; cases h
  | cons p r ih =>
   intro h
   rw [List.map_cons]
   by_cases e:p.1 = k
   ·rw [if_pos e]
    by_cases e':k' = k
    ·rw [if_pos e']
     simp [valD,List.find?_cons,e,e']
    ·rw [if_neg e']
     have ne:¬ p.1 = k':=fun z=>e' (z.symm.trans e)
     have tail:∀ r:List (κ × D),valD (r.map fun kv=>if kv.1 = k then (kv.1,d) else kv) k' = valD r k':=by
      intro r
      induction r with
      | nil=>rfl
      | cons q r ih =>
       rw [List.map_cons]
       by_cases eq:q.1 = k
       ·have nq:¬ q.1 = k':=fun z=>e' (z.symm.trans eq)
        rw [if_pos eq]
        unfold valD at ih ⊢
        rw [List.find?_cons_of_neg (by simpa using nq),List.find?_cons_of_neg (by simpa using nq)]
        exact ih
       ·rw [if_neg eq]
        by_cases nq:q.1 = k'
        ·unfold valD
         rw [List.find?_cons_of_pos (by simpa using nq),List.find?_cons_of_pos (by simpa using nq)]
        ·unfold valD at ih ⊢
         rw [List.find?_cons_of_neg (by simpa using nq),List.find?_cons_of_neg (by simpa using nq)]
         exact ih
     have t:=tail r
     unfold valD at t ⊢
     rw [List.find?_cons_of_neg (by simpa using ne),List.find?_cons_of_neg (by simpa using ne)]
     exact t
   ·rw [if_neg e]
    have h':(r.any fun kv=>decide (kv.1 = k)) = true:=by simpa [e] using h
    have ih':=ih h'
    by_cases ek:p.1 = k'
    ·have nk:¬ k' = k:=fun z=>e (ek.trans z)
     rw [if_neg nk]
     unfold valD
     rw [List.find?_cons_of_pos (by simpa using ek),List.find?_cons_of_pos (by simpa using ek)]
    ·unfold valD at ih' ⊢
     rw [List.find?_cons_of_neg (by simpa using ek),List.find?_cons_of_neg (by simpa using ek)]
     exact ih'
 intro kvs
 unfold putD
 split
 ·rename_i h; exact rep kvs h
 ·rename_i h
  have hn:∀ kv ∈ kvs,¬ kv.1 = k:=fun kv hkv e=>h (List.any_eq_true.mpr ⟨kv,hkv,decide_eq_true e⟩)
  unfold valD
  rw [List.find?_append]
  by_cases e':k' = k
  ·rw [if_pos e']
   have:(kvs.find? fun kv=>decide (kv.1 = k')) = none:=List.find?_eq_none.mpr fun kv hkv=>by rw [e']; simpa using hn kv hkv
   rw [this]
   simp [List.find?_cons,e']
  ·rw [if_neg e']
   have:([(k,d)].find? fun kv=>decide (kv.1 = k')) = none:=by rw [List.find?_cons_of_neg (by simpa using fun z:k = k'=>e' z.symm)]; rfl
   rw [this]
   cases (kvs.find? fun kv=>decide (kv.1 = k')) <;> rfl
def stN (R:List Nat):List Nat:=(List.range R.length).map (fst1 R)
theorem stN_len (R:List Nat):(stN R).length = R.length:=by simp [stN]
theorem stN_at {R:List Nat} {t:Nat} (h:t < R.length):(stN R).getD t 0 = fst1 R t:=by
 rw [gd_eq (by rw [stN_len]; exact h)]
 simp [stN]
def metD (R:List Nat) (k:Nat) (kvs:List (Key × D)):Prop:=∀ r:Nat,valD kvs (.inl (r:Int)) = if r ∈ R.take k then some (nD (R.idxOf r)) else none
def SFirst:ASp:=fun ss q=>∃ R:List Nat,ss = [.vl (.lst (natsD R))]∧R.length ≤ 1000∧q (.f (natsD (stN R))) [.vl (.lst (natsD R))]
def keysD (M:Nat→Bool) (kvs:List (Key × D)):Prop:=∀ t:Nat,(valD kvs (.inl (t:Int))).isSome = M t
theorem keys_put {M:Nat→Bool} {kvs:List (Key × D)} (h:keysD M kvs) (x:Nat) (d:D):keysD (fun t=>M t || t == x) (putD kvs (.inl (x:Int)) d):=fun t=>by
 rw [val_putD]
 by_cases e:t = x
 ·subst e; simp
 ·have:¬ (Sum.inl (t:Int):Key) = .inl (x:Int):=fun z=>e (by injection z with z; omega)
  rw [if_neg this,h t]
  simp [e]
def SLeant:ASp:=fun ss q=>∃ (N:Net),ss = [.vl (netD N),.ow (natsD (stN (rowsN N)))]∧IsNet N∧∀ kvs,keysD (markT N) kvs→q (.n (.dk kvs)) [.vl (netD N),.ow (natsD (stN (rowsN N)))]
def STid:ASp:=fun ss q=>∃ N:Net,ss = [.vl (netD N)]∧IsNet N∧q (.d (netD (tidN N))) [.vl (netD N)]
theorem two_d {i j:Nat} {d1 d2:D} {ρ:En} {k:En→Prop} (h:k (pt (pt ρ i (.vl d1)) j (.vl d2))):gaTup 2 (gaCons (gaName i) (gaCons (gaName j) gaNil)) (.tup [d1,d2]) ρ k:=h
theorem lean_cons {m:Nat} {f:Nat→Nat} {p:Nat × Nat} {r:List (Nat × Nat)} {k:Nat} {M:Nat→Bool} {t:Nat}:leanT m f (p :: r) k M t = (leanT m f r (k + 1) M t || (leanT m f r (k + 1) M (m + k) && (t == f p.1 || t == f p.2))):=rfl
section
variable {P:Program} {w:World} {K:PySem.W.Frag} {mg:Str→Option Value} {base:Heap}
theorem ok_joined (dn:DefN K mg "joined" s_joined ["one", "other"]) (B:BI mg):OkN P w K mg base 1 "joined" ["one", "other"] (spA K SJoined):=by
 refine dn.aok2 (k:=0) sc_joined (fun j=>j == 0 || j == 1) [] SJoined rfl (fun f cdv A outer s H E hr=>have hu:=hu_of hr; ⟨_,(pss_one (ps_ret (pe_op op_xor (pv 0) (pv 1)))),(sok_ret (tok_op ook_int0 tok_var tok_var))⟩) ?_
 rintro ss q ⟨x,y,rfl,hq⟩
 refine ⟨rfl,rfl,?_⟩
 show q (.d (.int (Builtin.bitXor x y))) [nv x,nv y]
 rw [xor_nat]; exact hq
theorem ok_own_rows (dn:DefN K mg "own_rows" s_own_rows ["many"]) (B:BI mg):OkN P w K mg base 1 "own_rows" ["many"] (spA K SOwn):=by
 refine dn.aok2 (k:=0) sc_own_rows (fun j=>j == 0) [] SOwn rfl (fun f cdv A outer s H E hr=>have hu:=hu_of hr; ⟨_,(pss_one (ps_ret (pe_comp ["given"] [] rfl (Blk.of (defScope s_own_rows) nm_own_rows) (pi_range1 rfl B.range_ (pa_cons (pv 0) pa_nil)) (fun _ _ _ _ nd=>(pg_name (i:=0) nd rfl (by first | exact Or.inl rfl | exact Or.inr rfl))) (fun _ _ _ _=>pts_nil) (fun _ _ _ _=>(pe_op op_shl pe_int (pv 0)))))),(sok_ret (tok_comp (tiok_rng1 (taok_cons tok_var taok_nil)) (tgok_name rfl) ttok_all (tok_op ook_int tok_int tok_var)))⟩) ?_
 rintro ss q ⟨m,rfl,hm,hq⟩
 refine ⟨rfl,rfl,⟨by omega,by omega⟩,by rw [rngD_len]; omega,?_⟩
 refine compA_rng (fun k=>.int (1 <<< k:Nat)) trivial (fun k acc N hk hN=>?_) ?_
 ·rw [Int.zero_add]
  refine ⟨⟨by omega,by omega,by decide⟩,?_⟩
  show N (acc ++ [.int ((1:Int) * 2 ^ ((k:Int).toNat))]) _
  rw [shl_nat]; exact hN
 ·rw [Int.toNat_natCast]
  have e:((List.range m).map fun k=>D.int (1 <<< k:Nat)) = natsD (ownRows m):=by unfold ownRows natsD; rw [List.map_map]; rfl
  rw [e]; exact hq
theorem ok_all_words (dn:DefN K mg "all_words" s_all_words ["net", "words"]) (B:BI mg) (g_joined:OkN P w K mg base 1 "joined" ["one", "other"] (spA K SJoined)):OkN P w K mg base 2 "all_words" ["net", "words"] (spA K SAll):=by
 refine dn.aok2 (k:=1) sc_all_words (fun j=>j == 0 || j == 1) [.un,.un,.un,.un,.un,.un] SAll rfl (fun f cdv A outer s H E hr=>have hu:=hu_of hr; ⟨_,(pss_cons (ps_asg (pv 0) (pg_tupK K (n:=3) rfl (pgs_cons (pg_name (i:=2) sc_all_words.nd rfl (by first | exact Or.inl rfl | exact Or.inr rfl)) (pgs_cons (pg_name (i:=3) sc_all_words.nd rfl (by first | exact Or.inl rfl | exact Or.inr rfl)) (pgs_cons (pg_name (i:=4) sc_all_words.nd rfl (by first | exact Or.inl rfl | exact Or.inr rfl)) pgs_nil)))))
  (pss_cons (ps_set (i:=5) sc_all_words.nd rfl (by first | exact Or.inl rfl | exact Or.inr rfl) (pe_callTy (call_listK K) rfl B.list_ bt_list (pa_cons (pv 1) pa_nil)))
  (pss_cons (ps_for PassesOwn.never rfl (pi_seqK K (pv 3)) (pg_tupK K (n:=2) rfl (pgs_cons (pg_name (i:=6) sc_all_words.nd rfl (by first | exact Or.inl rfl | exact Or.inr rfl)) (pgs_cons (pg_name (i:=7) sc_all_words.nd rfl (by first | exact Or.inl rfl | exact Or.inr rfl)) pgs_nil)))
  (pss_one (ps_expr (pe_bmK K PySem.F.plainAttrs_list PySem.F.slot_list_append PySem.F.type_list_append mt_append (pv 5) (pa_cons (pe_fn g_joined (hr.mono (by decide)) (pa_cons (pe_ix (ix_seqK K) (pv 5) (pv 6) (fun _ _=>rfl)) (pa_cons (pe_ix (ix_seqK K) (pv 5) (pv 7) (fun _ _=>rfl)) pa_nil))) pa_nil)))))
  (pss_one (ps_ret (pv 5)))))),(sok_seq (sok_asg tok_var (tgok_tup (tgsok_cons (tgok_name rfl) (tgsok_cons (tgok_name rfl) (tgsok_cons (tgok_name rfl) tgsok_nil (fun _ _ _=>gl_name)) (fun _ _ _=>gl_name)) (fun _ _ _=>gl_name))))
  (sok_seq (sok_set (tok_cb cbok_list (taok_cons tok_var taok_nil)) rfl)
  (sok_seq (sok_for (pin:=(fun j=>j == 3)) (tiok_seq tok_var) (tgok_tup (tgsok_cons (tgok_name rfl) (tgsok_cons (tgok_name rfl) tgsok_nil (fun _ _ _=>gl_name)) (fun _ _ _=>gl_name)))
  (sok_drop (tok_app tok_var (taok_cons (tok_call (taok_cons (tok_op ook_ix tok_var tok_var) (taok_cons (tok_op ook_ix tok_var tok_var) taok_nil))) taok_nil))))
  (sok_ret tok_var))))⟩) ?_
 rintro ss q ⟨N,ws,rfl,hix,hz,hq⟩
 refine ⟨rfl,rfl,?_⟩
 refine forA_lst pairD (fun k ρ=>∃ s6 s7,ρ = [.vl (netD N),.vl (.lst (natsD ws)),nv N.m,.vl (.tup (N.js.map pairD)),.vl (.tup (natsD N.os)),.ow (natsD ((N.js.take k).foldl stepRows ws)),s6,s7]) (fun _ _ _=>trivial) ?_ ?_ ⟨_,_,rfl⟩
 ·rintro k p _ M hk ⟨s6,s7,rfl⟩ hM
  obtain ⟨q1,q2⟩:=okIx_get hix hk
  have hlen:((N.js.take k).foldl stepRows ws).length = ws.length + k:=by
   have:=(List.getElem?_eq_some_iff.mp hk).1
   rw [fold_len,List.length_take]; omega
  have hi:k < N.js.length:=(List.getElem?_eq_some_iff.mp hk).1
  refine gIx_nats rfl (by omega) (gIx_nats rfl (by omega) ⟨rfl,_,_,rfl,?_,hM _ ⟨nv p.1,nv p.2,?_⟩⟩)
  ·rw [List.length_map,hlen]; omega
  ·rw [fold_snoc hk,natsD_step]; rfl
 ·rintro ρ ⟨s6,s7,rfl⟩
  rw [List.take_length]
  exact hq
theorem ok_rows_of (dn:DefN K mg "rows_of" s_rows_of ["net"]) (B:BI mg) (g_all_words:OkN P w K mg base 2 "all_words" ["net", "words"] (spA K SAll)) (g_own_rows:OkN P w K mg base 1 "own_rows" ["many"] (spA K SOwn)):OkN P w K mg base 3 "rows_of" ["net"] (spA K SRowsOf):=by
 refine dn.aok2 (k:=2) sc_rows_of (fun j=>j == 0) [] SRowsOf rfl (fun f cdv A outer s H E hr=>have hu:=hu_of hr; ⟨_,(pss_one (ps_ret (pe_fn g_all_words (hr.mono (by decide)) (pa_cons (pv 0) (pa_cons (pe_fn g_own_rows (hr.mono (by decide)) (pa_cons (pe_ix (ix_seqK K) (pv 0) pe_int (fun _ _=>rfl)) pa_nil)) pa_nil))))),(sok_ret (tok_call (taok_cons tok_var (taok_cons (tok_call (taok_cons (tok_op ook_ix tok_var tok_int) taok_nil)) taok_nil))))⟩) ?_
 rintro ss q ⟨N,rfl,hix,hz,hq⟩
 refine ⟨rfl,rfl,?_⟩
 refine gIx_t rfl rfl ⟨rfl,N.m,rfl,by omega,rfl,N,ownRows N.m,rfl,?_,?_,hq⟩
 ·rw [own_len]; exact hix
 ·rw [own_len]; exact hz
theorem ok_is_whole (dn:DefN K mg "is_whole" s_is_whole ["thing", "least", "most"]) (B:BI mg):OkN P w K mg base 1 "is_whole" ["thing", "least", "most"] (spA K SIsWhole):=by
 refine dn.aok2 (k:=0) sc_is_whole (fun j=>j == 0 || j == 1 || j == 2) [] SIsWhole rfl (fun f cdv A outer s H E hr=>have hu:=hu_of hr; ⟨_,(pss_one (ps_ret (pe_and (pe_callB (call_isaD K) rfl B.isinstance_ bt_isinstance (pa_cons (pv 0) (pa_cons (pe_ty rfl B.int_ bt_int) pa_nil))) (pe_and (pe_not (pe_callB (call_isaD K) rfl B.isinstance_ bt_isinstance (pa_cons (pv 0) (pa_cons (pe_ty rfl B.bool_ bt_bool) pa_nil)))) (pe_one (pe_chain op_le op_le (pv 1) (pv 0) (pv 2))))))),(sok_ret (tok_andV (tok_cb cbok_isa (taok_cons tok_var (taok_cons tok_ty taok_nil))) (tok_andV (tok_notV (tok_cb cbok_isa (taok_cons tok_var (taok_cons tok_ty taok_nil)))) (tok_chain ook_bl0 ook_bl0 tok_var tok_var tok_var))))⟩) ?_
 rintro ss q ⟨d,lo,hi,rfl,hq⟩
 refine ⟨rfl,rfl,?_⟩
 cases d with
 | non=>exact gIsa_ok rfl isaT_non_int hq
 | str _=>exact gIsa_ok rfl isaT_str_int hq
 | tup _=>exact gIsa_ok rfl isaT_tuple_int hq
 | lst _=>exact gIsa_ok rfl isaT_list_int hq
 | bl b=>exact gIsa_ok rfl isaT_bool_int (gIsa_ok rfl isaT_bool_bool hq)
 | int i =>
  refine gIsa_ok rfl isaT_int_int (gIsa_ok rfl isaT_int_bool ?_)
  refine iteT (ite2 (fun h=>?_) fun h=>?_)
  ·rw [show wholeB lo hi (.int i) = decide (i ≤ hi) by simp [wholeB,of_decide_eq_true h]] at hq
   exact hq
  ·rw [show wholeB lo hi (.int i) = false by simp [wholeB]; intro h'; exact absurd (decide_eq_true h') h] at hq
   exact hq
theorem ok_is_tuple (dn:DefN K mg "is_tuple" s_is_tuple ["thing", "least", "most"]) (B:BI mg):OkN P w K mg base 1 "is_tuple" ["thing", "least", "most"] (spA K SIsTuple):=by
 refine dn.aok2 (k:=0) sc_is_tuple (fun j=>j == 0 || j == 1 || j == 2) [] SIsTuple rfl (fun f cdv A outer s H E hr=>have hu:=hu_of hr; ⟨_,(pss_one (ps_ret (pe_and (pe_callB (call_isaD K) rfl B.isinstance_ bt_isinstance (pa_cons (pv 0) (pa_cons (pe_ty rfl B.tuple_ bt_tuple) pa_nil))) (pe_one (pe_chain op_le op_le (pv 1) (pe_callB (call_lenK K) rfl B.len_ bt_len (pa_cons (pv 0) pa_nil)) (pv 2)))))),(sok_ret (tok_andV (tok_cb cbok_isa (taok_cons tok_var (taok_cons tok_ty taok_nil))) (tok_chain ook_bl0 ook_bl0 tok_var (tok_cb cbok_len (taok_cons tok_var taok_nil)) tok_var)))⟩) ?_
 rintro ss q ⟨d,lo,hi,rfl,hq⟩
 refine ⟨rfl,rfl,?_⟩
 cases d with
 | non=>exact gIsa_ok rfl isaT_non_tuple hq
 | str _=>exact gIsa_ok rfl isaT_str_tuple hq
 | int _=>exact gIsa_ok rfl isaT_int_tuple hq
 | lst _=>exact gIsa_ok rfl isaT_list_tuple hq
 | bl b=>exact gIsa_ok rfl isaT_bool_tuple hq
 | tup ds =>
  refine gIsa_ok rfl isaT_tuple_tuple ?_
  refine iteT (ite2 (fun h=>?_) fun h=>?_)
  ·rw [show tupB lo hi (.tup ds) = decide ((ds.length:Int) ≤ hi) by simp [tupB,of_decide_eq_true h]] at hq
   exact hq
  ·rw [show tupB lo hi (.tup ds) = false by simp [tupB]; intro h'; exact absurd (decide_eq_true h') h] at hq
   exact hq
theorem ok_is_join (dn:DefN K mg "is_join" s_is_join ["rows", "join"]) (B:BI mg) (g_is_tuple:OkN P w K mg base 1 "is_tuple" ["thing", "least", "most"] (spA K SIsTuple)) (g_is_whole:OkN P w K mg base 1 "is_whole" ["thing", "least", "most"] (spA K SIsWhole)):OkN P w K mg base 2 "is_join" ["rows", "join"] (spA K SIsJoin):=by
 refine dn.aok2 (k:=1) sc_is_join (fun j=>j == 0 || j == 1) [.un,.un,.un] SIsJoin rfl (fun f cdv A outer s H E hr=>have hu:=hu_of hr; ⟨_,(pss_cons (ps_if (pt_not (pt_val (pe_fn g_is_tuple (hr.mono (by decide)) (pa_cons (pv 1) (pa_cons pe_int (pa_cons pe_int pa_nil))))))
  (pss_one (ps_ret pe_bl))
  pss_nil)
  (pss_cons (ps_asg (pv 1) (pg_tupK K (n:=2) rfl (pgs_cons (pg_name (i:=2) sc_is_join.nd rfl (by first | exact Or.inl rfl | exact Or.inr rfl)) (pgs_cons (pg_name (i:=3) sc_is_join.nd rfl (by first | exact Or.inl rfl | exact Or.inr rfl)) pgs_nil))))
  (pss_cons (ps_set (i:=4) sc_is_join.nd rfl (by first | exact Or.inl rfl | exact Or.inr rfl) (pe_op op_sub (pe_callB (call_lenK K) rfl B.len_ bt_len (pa_cons (pv 0) pa_nil)) pe_int))
  (pss_one (ps_ret (pe_and (pe_fn g_is_whole (hr.mono (by decide)) (pa_cons (pv 2) (pa_cons pe_int (pa_cons (pv 4) pa_nil)))) (pe_and (pe_fn g_is_whole (hr.mono (by decide)) (pa_cons (pv 3) (pa_cons pe_int (pa_cons (pv 4) pa_nil)))) (pe_and (pe_cmpR op_lt (pv 2) (pv 3) (nomark _)) (pe_one (pe_cmpR (op_neD K hr.units) (pe_ix (ix_seqK K) (pv 0) (pv 2) (fun _ _=>rfl)) (pe_ix (ix_seqK K) (pv 0) (pv 3) (fun _ _=>rfl)) (nomark _))))))))))),(sok_seq (sok_if (ttok_not (ttok_B (tok_call (taok_cons tok_var (taok_cons tok_int (taok_cons tok_int taok_nil))))))
  (sok_ret tok_bl)
  sok_next)
  (sok_seq (sok_asg tok_var (tgok_tup (tgsok_cons (tgok_name rfl) (tgsok_cons (tgok_name rfl) tgsok_nil (fun _ _ _=>gl_name)) (fun _ _ _=>gl_name))))
  (sok_seq (sok_set (tok_op ook_int0 (tok_cb cbok_len (taok_cons tok_var taok_nil)) tok_int) rfl)
  (sok_ret (tok_andV (tok_call (taok_cons tok_var (taok_cons tok_int (taok_cons tok_var taok_nil)))) (tok_andV (tok_call (taok_cons tok_var (taok_cons tok_int (taok_cons tok_var taok_nil)))) (tok_andV (tok_op ook_bl0 tok_var tok_var) (tok_op ook_ne (tok_op ook_ix tok_var tok_var) (tok_op ook_ix tok_var tok_var)))))))))⟩) ?_
 rintro ss q ⟨s0,rows,d,rfl,hs,hq⟩
 cases ht:tupB 2 2 d with
 | false =>
  rw [joinB_not ht] at hq
  rcases hs with rfl | rfl <;>
  ·refine ⟨rfl,rfl,rfl,d,2,2,rfl,?_⟩
   rw [ht]; exact hq
 | true =>
  obtain ⟨x,y,rfl⟩:=tup2_inv ht
  rcases hs with rfl | rfl <;>
  ·refine ⟨rfl,rfl,rfl,_,2,2,rfl,iteF ?_⟩
   refine ⟨rfl,x,0,_,rfl,?_⟩
   rw [lenD]
   refine ite2 (fun h1=>?_) fun h1=>?_
   ·refine ⟨rfl,y,0,_,rfl,?_⟩
    refine ite2 (fun h2=>?_) fun h2=>?_
    ·obtain ⟨a,rfl,a1,a2⟩:=wholeB_inv h1
     obtain ⟨b,rfl,b1,b2⟩:=wholeB_inv h2
     obtain ⟨a,rfl⟩:=Int.eq_ofNat_of_zero_le a1
     obtain ⟨b,rfl⟩:=Int.eq_ofNat_of_zero_le b1
     refine ite2 (fun h3=>?_) fun h3=>?_
     ·refine gIx_nats rfl (by omega) (gIx_nats rfl (by omega) (gEq_ok rfl rfl (by simp [D.depth]) rfl ?_))
      have e:joinB rows (.tup [.int (a:Nat),.int (b:Nat)]) = !eqD (.int (rows.getD a 0:Nat)) (.int (rows.getD b 0:Nat)):=by
       have h3':=of_decide_eq_true h3
       simp only [joinB,eqD,Int.toNat_natCast]
       rw [decide_eq_true a1,decide_eq_true a2,decide_eq_true b1,decide_eq_true b2,decide_eq_true h3']
       simp only [Bool.true_and,bne]
       congr 1
       rw [Bool.eq_iff_iff]; simp; exact Int.ofNat_inj.symm
      rw [e] at hq; exact hq
     ·have e:joinB rows (.tup [.int (a:Nat),.int (b:Nat)]) = false:=by
       simp only [joinB]
       rw [show decide ((a:Int) < (b:Int)) = false by simpa using h3]
       simp
      rw [e] at hq; exact hq
    ·rw [joinB_b (by simpa using h2)] at hq; exact hq
   ·rw [joinB_a (by simpa using h1)] at hq; exact hq
theorem ok_are_joins (dn:DefN K mg "are_joins" s_are_joins ["many", "joins"]) (B:BI mg) (g_own_rows:OkN P w K mg base 1 "own_rows" ["many"] (spA K SOwn)) (g_is_tuple:OkN P w K mg base 1 "is_tuple" ["thing", "least", "most"] (spA K SIsTuple)) (g_is_join:OkN P w K mg base 2 "is_join" ["rows", "join"] (spA K SIsJoin)) (g_joined:OkN P w K mg base 1 "joined" ["one", "other"] (spA K SJoined)) (c_MOST_JOINS:∃ u,mg "MOST_JOINS" = some u∧RelV (.int 132) u):OkN P w K mg base 3 "are_joins" ["many", "joins"] (spA K SAreJoins):=by
 refine dn.aok2 (k:=2) sc_are_joins (fun j=>j == 0 || j == 1) [.un,.un] SAreJoins rfl (fun f cdv A outer s H E hr=>have hu:=hu_of hr; ⟨_,(pss_cons (ps_if (pt_not (pt_val (pe_fn g_is_tuple (hr.mono (by decide)) (pa_cons (pv 1) (pa_cons pe_int (pa_cons (pe_gc c_MOST_JOINS rfl) pa_nil))))))
  (pss_one (ps_ret pe_bl))
  pss_nil)
  (pss_cons (ps_set (i:=2) sc_are_joins.nd rfl (by first | exact Or.inl rfl | exact Or.inr rfl) (pe_fn g_own_rows (hr.mono (by decide)) (pa_cons (pv 0) pa_nil)))
  (pss_cons (ps_for PassesOwn.never rfl (pi_seqK K (pv 1)) (pg_name (i:=3) sc_are_joins.nd rfl (by first | exact Or.inl rfl | exact Or.inr rfl))
  (pss_cons (ps_if (pt_not (pt_val (pe_fn g_is_join (hr.mono (by decide)) (pa_cons (pv 2) (pa_cons (pv 3) pa_nil)))))
  (pss_one (ps_ret pe_bl))
  pss_nil)
  (pss_one (ps_expr (pe_bmK K PySem.F.plainAttrs_list PySem.F.slot_list_append PySem.F.type_list_append mt_append (pv 2) (pa_cons (pe_fn g_joined (hr.mono (by decide)) (pa_cons (pe_ix (ix_seqK K) (pv 2) (pe_ix (ix_seqK K) (pv 3) pe_int (fun _ _=>rfl)) (fun _ _=>rfl)) (pa_cons (pe_ix (ix_seqK K) (pv 2) (pe_ix (ix_seqK K) (pv 3) pe_int (fun _ _=>rfl)) (fun _ _=>rfl)) pa_nil))) pa_nil))))))
  (pss_one (ps_ret pe_bl))))),(sok_seq (sok_if (ttok_not (ttok_B (tok_call (taok_cons tok_var (taok_cons tok_int (taok_cons tok_int taok_nil))))))
  (sok_ret tok_bl)
  sok_next)
  (sok_seq (sok_set (tok_call (taok_cons tok_var taok_nil)) rfl)
  (sok_seq (sok_for (pin:=(fun j=>j == 1)) (tiok_seq tok_var) (tgok_name rfl)
  (sok_seq (sok_if (ttok_not (ttok_B (tok_call (taok_cons tok_var (taok_cons tok_var taok_nil)))))
  (sok_ret tok_bl)
  sok_next)
  (sok_drop (tok_app tok_var (taok_cons (tok_call (taok_cons (tok_op ook_ix tok_var (tok_op ook_ix tok_var tok_int)) (taok_cons (tok_op ook_ix tok_var (tok_op ook_ix tok_var tok_int)) taok_nil))) taok_nil)))))
  (sok_ret tok_bl))))⟩) ?_
 rintro ss q ⟨m,d,rfl,hm,hq⟩
 refine ⟨rfl,rfl,rfl,d,0,132,rfl,?_⟩
 cases ht:tupB 0 132 d with
 | false=>rw [areJoins_not ht] at hq; exact hq
 | true =>
  obtain ⟨ds,rfl,_,hl⟩:=tupB_inv ht
  have hl':ds.length ≤ 132:=by omega
  rw [show areJoins m (.tup ds) = joinsB (ownRows m) ds by simp [areJoins,hl']] at hq
  refine iteF ⟨rfl,m,rfl,by omega,?_⟩
  refine forA_inv (fun k ρ=>∃ rows s3,ρ = [nv m,.vl (.tup ds),.ow (natsD rows),s3]∧rows.length = m + k∧joinsB rows (ds.drop k) = joinsB (ownRows m) ds) (fun _ _ _ _=>trivial) ?_ ?_ _ ⟨_,_,rfl,own_len m,rfl⟩
  ·rintro k d ρ M hk ⟨rows,s3,rfl,hlen,hj⟩ hM
   have lt:=(List.getElem?_eq_some_iff.mp hk).1
   have ed:ds[k] = d:=(List.getElem?_eq_some_iff.mp hk).2
   rw [List.drop_eq_getElem_cons lt,ed] at hj
   rw [show joinsB rows (d :: List.drop (k + 1) ds) = (joinB rows d && joinsB (stepD rows d) (List.drop (k + 1) ds)) from rfl] at hj
   refine ⟨rfl,_,rows,d,rfl,.inl rfl,?_⟩
   cases hb:joinB rows d with
   | false =>
    rw [hb,Bool.false_and] at hj
    rw [← hj] at hq
    exact hq
   | true =>
    rw [hb,Bool.true_and] at hj
    refine iteF ?_
    have hb':=hb
    unfold joinB at hb'
    split at hb'
    ·rename_i a b
     simp only [Bool.and_eq_true,decide_eq_true_eq] at hb'
     obtain ⟨⟨⟨⟨a1,a2⟩,b1,b2⟩,ab⟩,_⟩:=hb'
     obtain ⟨a,rfl⟩:=Int.eq_ofNat_of_zero_le a1
     obtain ⟨b,rfl⟩:=Int.eq_ofNat_of_zero_le b1
     refine gIx_t rfl rfl (gIx_nats rfl (by omega) (gIx_t rfl rfl (gIx_nats rfl (by omega) ⟨rfl,_,_,rfl,?_,hM _ ⟨stepRows rows (a,b),.vl (.tup [.int (a:Nat),.int (b:Nat)]),?_,?_,hj⟩⟩)))
     ·rw [List.length_map,hlen]; omega
     ·rw [natsD_step]; rfl
     ·rw [step_len,hlen]; omega
    ·cases hb'
  ·rintro ρ ⟨rows,s3,rfl,hlen,hj⟩
   rw [List.drop_length] at hj
   rw [← hj] at hq
   exact hq
theorem ok_are_outs (dn:DefN K mg "are_outs" s_are_outs ["things", "outs"]) (B:BI mg) (g_is_tuple:OkN P w K mg base 1 "is_tuple" ["thing", "least", "most"] (spA K SIsTuple)) (g_is_whole:OkN P w K mg base 1 "is_whole" ["thing", "least", "most"] (spA K SIsWhole)) (c_MOST_OUTS:∃ u,mg "MOST_OUTS" = some u∧RelV (.int 24) u):OkN P w K mg base 2 "are_outs" ["things", "outs"] (spA K SAreOuts):=by
 refine dn.aok2 (k:=1) sc_are_outs (fun j=>j == 0 || j == 1) [] SAreOuts rfl (fun f cdv A outer s H E hr=>have hu:=hu_of hr; ⟨_,(pss_one (ps_ret (pe_and (pe_fn g_is_tuple (hr.mono (by decide)) (pa_cons (pv 1) (pa_cons pe_int (pa_cons (pe_gc c_MOST_OUTS rfl) pa_nil)))) (pe_one (pe_callB (call_allK K rfl) rfl B.all_ bt_all (pa_cons (pe_comp ["out"] [0] rfl (Blk.of (defScope s_are_outs) nm_are_outs) (pi_seqK K (pv 1)) (fun _ _ _ _ nd=>(pg_name (i:=0) nd rfl (by first | exact Or.inl rfl | exact Or.inr rfl))) (fun _ _ _ _=>pts_nil) (fun _ _ _ _=>(pe_fn g_is_whole (hr.mono (by decide)) (pa_cons (pv 0) (pa_cons pe_int (pa_cons (pe_op op_sub (pv 1) pe_int) pa_nil)))))) pa_nil)))))),(sok_ret (tok_andV (tok_call (taok_cons tok_var (taok_cons tok_int (taok_cons tok_int taok_nil)))) (tok_cb cbok_all (taok_cons (tok_comp (tiok_seq tok_var) (tgok_name rfl) ttok_all (tok_call (taok_cons tok_var (taok_cons tok_int (taok_cons (tok_op ook_int0 tok_var tok_int) taok_nil))))) taok_nil))))⟩) ?_
 rintro ss q ⟨n,d,rfl,hq⟩
 refine ⟨rfl,rfl,rfl,d,1,24,rfl,?_⟩
 cases ht:tupB 1 24 d with
 | false=>rw [areOuts_not ht] at hq; exact hq
 | true =>
  obtain ⟨ds,rfl,h1,hl⟩:=tupB_inv ht
  have hl':ds.length ≤ 24:=by omega
  have h1':1 ≤ ds.length:=by omega
  refine iteT ⟨by omega,?_⟩
  refine compA_map (fun d=>.bl (wholeB 0 ((n:Int) - 1) d)) _ trivial (fun d acc M _ hM=>?_) ?_
  ·exact ⟨rfl,d,0,_,rfl,hM⟩
  ·refine gAll_ok (bs:=ds.map (wholeB 0 ((n:Int) - 1))) ?_ ?_
   ·show some (D.lst (ds.map _)) = _
    rw [List.map_map]; rfl
   ·rw [show areOuts n (.tup ds) = (ds.map (wholeB 0 ((n:Int) - 1))).all id by simp [areOuts,hl',h1']] at hq
    exact hq
theorem ok_is_net (dn:DefN K mg "is_net" s_is_net ["thing"]) (B:BI mg) (g_is_tuple:OkN P w K mg base 1 "is_tuple" ["thing", "least", "most"] (spA K SIsTuple)) (g_is_whole:OkN P w K mg base 1 "is_whole" ["thing", "least", "most"] (spA K SIsWhole)) (g_are_joins:OkN P w K mg base 3 "are_joins" ["many", "joins"] (spA K SAreJoins)) (g_are_outs:OkN P w K mg base 2 "are_outs" ["things", "outs"] (spA K SAreOuts)) (c_MOST_GIVENS:∃ u,mg "MOST_GIVENS" = some u∧RelV (.int 12) u):OkN P w K mg base 4 "is_net" ["thing"] (spA K SIsNet):=by
 refine dn.aok2 (k:=3) sc_is_net (fun j=>j == 0) [.un,.un,.un] SIsNet rfl (fun f cdv A outer s H E hr=>have hu:=hu_of hr; ⟨_,(pss_cons (ps_if (pt_not (pt_val (pe_fn g_is_tuple (hr.mono (by decide)) (pa_cons (pv 0) (pa_cons pe_int (pa_cons pe_int pa_nil))))))
  (pss_one (ps_ret pe_bl))
  pss_nil)
  (pss_cons (ps_asg (pv 0) (pg_tupK K (n:=3) rfl (pgs_cons (pg_name (i:=1) sc_is_net.nd rfl (by first | exact Or.inl rfl | exact Or.inr rfl)) (pgs_cons (pg_name (i:=2) sc_is_net.nd rfl (by first | exact Or.inl rfl | exact Or.inr rfl)) (pgs_cons (pg_name (i:=3) sc_is_net.nd rfl (by first | exact Or.inl rfl | exact Or.inr rfl)) pgs_nil)))))
  (pss_one (ps_ret (pe_and (pe_fn g_is_whole (hr.mono (by decide)) (pa_cons (pv 1) (pa_cons pe_int (pa_cons (pe_gc c_MOST_GIVENS rfl) pa_nil)))) (pe_and (pe_fn g_are_joins (hr.mono (by decide)) (pa_cons (pv 1) (pa_cons (pv 2) pa_nil))) (pe_one (pe_fn g_are_outs (hr.mono (by decide)) (pa_cons (pe_op op_add (pv 1) (pe_callB (call_lenK K) rfl B.len_ bt_len (pa_cons (pv 2) pa_nil))) (pa_cons (pv 3) pa_nil)))))))))),(sok_seq (sok_if (ttok_not (ttok_B (tok_call (taok_cons tok_var (taok_cons tok_int (taok_cons tok_int taok_nil))))))
  (sok_ret tok_bl)
  sok_next)
  (sok_seq (sok_asg tok_var (tgok_tup (tgsok_cons (tgok_name rfl) (tgsok_cons (tgok_name rfl) (tgsok_cons (tgok_name rfl) tgsok_nil (fun _ _ _=>gl_name)) (fun _ _ _=>gl_name)) (fun _ _ _=>gl_name))))
  (sok_ret (tok_andV (tok_call (taok_cons tok_var (taok_cons tok_int (taok_cons tok_int taok_nil)))) (tok_andV (tok_call (taok_cons tok_var (taok_cons tok_var taok_nil))) (tok_call (taok_cons (tok_op ook_int0 tok_var (tok_cb cbok_len (taok_cons tok_var taok_nil))) (taok_cons tok_var taok_nil))))))))⟩) ?_
 rintro ss q ⟨d,rfl,hq⟩
 refine ⟨rfl,rfl,rfl,d,3,3,rfl,?_⟩
 cases ht:tupB 3 3 d with
 | false=>rw [netB_not ht] at hq; exact hq
 | true =>
  obtain ⟨x,y,z,rfl⟩:=tup3_inv ht
  refine iteF ⟨rfl,x,1,12,rfl,?_⟩
  cases hw:wholeB 1 12 x with
  | false =>
   have e:netB (.tup [x,y,z]) = false:=by
    cases x with
    | int i=>simp only [wholeB] at hw; simp only [netB,hw,Bool.false_and]
    | _=>rfl
   rw [e] at hq; exact hq
  | true =>
   obtain ⟨i,rfl,i1,i2⟩:=wholeB_inv hw
   obtain ⟨m,rfl⟩:=Int.eq_ofNat_of_zero_le (show 0 ≤ i by omega)
   have e:netB (.tup [.int (m:Nat),y,z]) = (areJoins m y && areOuts (m + lenT y) z):=by
    simp only [netB,wholeB] at hw ⊢
    rw [hw,Int.toNat_natCast,Bool.true_and]
   rw [e] at hq
   refine iteT ⟨rfl,m,y,rfl,by omega,?_⟩
   cases hj:areJoins m y with
   | false=>rw [hj] at hq; exact hq
   | true =>
    rw [hj,Bool.true_and] at hq
    refine iteT ?_
    have:∃ ds,y = .tup ds:=by
     cases y with
     | tup ds=>exact ⟨ds,rfl⟩
     | _=>cases hj
    obtain ⟨ds,rfl⟩:=this
    exact ⟨rfl,m + ds.length,z,rfl,hq⟩
theorem ok_joining (dn:DefN K mg "joining" s_joining ["one", "other"]) (B:BI mg):OkN P w K mg base 1 "joining" ["one", "other"] (spA K SJoining):=by
 refine dn.aok2 (k:=0) sc_joining (fun j=>j == 0 || j == 1) [] SJoining rfl (fun f cdv A outer s H E hr=>have hu:=hu_of hr; ⟨_,(pss_one (ps_ret (pe_tup (pa_cons (pe_callB (call_min2 rfl) rfl B.min_ bt_min (pa_cons (pv 0) (pa_cons (pv 1) pa_nil))) (pa_cons (pe_callB (call_max2 rfl) rfl B.max_ bt_max (pa_cons (pv 0) (pa_cons (pv 1) pa_nil))) pa_nil))))),(sok_ret (tok_tup (taok_cons (tok_cb cbok_min (taok_cons tok_var (taok_cons tok_var taok_nil))) (taok_cons (tok_cb cbok_max (taok_cons tok_var (taok_cons tok_var taok_nil))) taok_nil))))⟩) ?_
 rintro ss q ⟨a,b,rfl,hq⟩
 refine ⟨rfl,rfl,by simp,?_⟩
 show q (.d (.tup [.int (if (b:Int) < (a:Int) then (b:Int) else (a:Int)),.int (if (b:Int) > (a:Int) then (b:Int) else (a:Int))])) [nv a,nv b]
 rw [minI,maxI]; exact hq
theorem ok_first_alike (dn:DefN K mg "first_alike" s_first_alike ["rows"]) (B:BI mg):OkN P w K mg base 1 "first_alike" ["rows"] (spA K SFirst):=by
 refine dn.aok2 (k:=0) sc_first_alike (fun j=>j == 0) [.un,.un,.un,.un] SFirst rfl (fun f cdv A outer s H E hr=>have hu:=hu_of hr; ⟨_,(pss_cons (ps_set (i:=1) sc_first_alike.nd rfl (by first | exact Or.inl rfl | exact Or.inr rfl) pe_dnewK)
  (pss_cons (ps_set (i:=2) sc_first_alike.nd rfl (by first | exact Or.inl rfl | exact Or.inr rfl) (pe_lst pa_nil))
  (pss_cons (ps_for PassesOwn.never rfl (pi_enum K rfl B.enumerate_ (pa_cons (pv 0) pa_nil)) (pg_tupK K (n:=2) rfl (pgs_cons (pg_name (i:=3) sc_first_alike.nd rfl (by first | exact Or.inl rfl | exact Or.inr rfl)) (pgs_cons (pg_name (i:=4) sc_first_alike.nd rfl (by first | exact Or.inl rfl | exact Or.inr rfl)) pgs_nil)))
  (pss_one (ps_expr (pe_bmK K PySem.F.plainAttrs_list PySem.F.slot_list_append PySem.F.type_list_append mt_append (pv 2) (pa_cons (pe_dsetd (pv 1) (pv 4) (pv 3) ⟨rfl,rfl,rfl,rfl⟩) pa_nil)))))
  (pss_one (ps_ret (pv 2)))))),(sok_seq (sok_set tok_dnew rfl)
  (sok_seq (sok_set (tok_lst taok_nil) rfl)
  (sok_seq (sok_for (pin:=(fun j=>j == 0)) (tiok_enum (taok_cons tok_var taok_nil)) (tgok_tup (tgsok_cons (tgok_name rfl) (tgsok_cons (tgok_name rfl) tgsok_nil (fun _ _ _=>gl_name)) (fun _ _ _=>gl_name)))
  (sok_drop (tok_app tok_var (taok_cons (tok_dsetd tok_var tok_var tok_var) taok_nil))))
  (sok_ret tok_var))))⟩) ?_
 rintro ss q ⟨R,rfl,hz,hq⟩
 refine ⟨rfl,rfl,?_⟩
 refine ⟨by simp,?_⟩
 refine forA_inv (fun k ρ=>k ≤ R.length∧∃ kvs s3 s4,ρ = [.vl (.lst (natsD R)),.dk kvs,.ow (natsD ((stN R).take k)),s3,s4]∧metD R k kvs∧kvs.length ≤ k) (fun _ _ _ _=>trivial) ?_ ?_ _ ⟨Nat.zero_le _,[],.un,.un,rfl,fun r=>by simp [valD],Nat.le_refl _⟩
 ·rintro k d _ M hk ⟨_,kvs,s3,s4,rfl,hm,hkl⟩ hM
  obtain ⟨x,ex,rfl⟩:=enumD_get hk
  rw [List.getElem?_map] at ex
  obtain ⟨r,er,rfl⟩:=Option.map_eq_some_iff.mp ex
  have lt:k < R.length:=(List.getElem?_eq_some_iff.mp er).1
  have er':R.getD k 0 = r:=by rw [List.getD_eq_getElem?_getD,er]; rfl
  have ef:fst1 R k = R.idxOf r:=by unfold fst1; rw [er']
  have et:R.take (k + 1) = R.take k ++ [r]:=by rw [List.take_add_one,er]; rfl
  have es:(stN R).take (k + 1) = (stN R).take k ++ [R.idxOf r]:=by
   rw [List.take_add_one]
   congr 1
   have:(stN R)[k]? = some (fst1 R k):=by simp [stN,lt]
   rw [this,ef]; rfl
  have hsl:(natsD ((stN R).take k)).length ≤ 1000:=by rw [natsD_len,List.length_take,stN_len]; omega
  rw [Nat.zero_add]
  refine two_d ?_
  refine gSetd_ok (k:=.inl (r:Int)) rfl (by omega) (fun x hx=>?_) fun hx=>?_
  ·have h1:=hm r
   rw [hx] at h1
   by_cases hr:r ∈ R.take k
   ·rw [if_pos hr] at h1
    cases h1
    refine ⟨by omega,hM _ ⟨by omega,kvs,nv k,nv r,?_,fun r'=>?_,by omega⟩⟩
    ·rw [es,natsD_snoc]; rfl
    ·rw [hm r',et]
     by_cases e:r' = r
     ·subst e; rw [if_pos hr,if_pos (List.mem_append_left _ hr)]
     ·congr 1
      simp [e]
   ·rw [if_neg hr] at h1; cases h1
  ·have h1:=hm r
   rw [hx] at h1
   by_cases hr:r ∈ R.take k
   ·rw [if_pos hr] at h1; cases h1
   ·have ei:R.idxOf r = k:=by
     have l1:R.idxOf r ≤ k:=by rw [← ef]; exact fst1_le lt
     rcases Nat.lt_or_ge (R.idxOf r) k with q | q
     ·exfalso
      refine hr ?_
      have g:=fst1_row (R:=R) (t:=k) lt
      rw [ef,er',gd_eq (by omega)] at g
      exact List.mem_iff_getElem.mpr ⟨R.idxOf r,by rw [List.length_take]; omega,by rw [List.getElem_take]; exact g⟩
     ·omega
    refine ⟨by omega,hM _ ⟨by omega,putD kvs (.inl (r:Int)) (nD k),nv k,nv r,?_,fun r'=>?_,?_⟩⟩
    ·rw [es,natsD_snoc,ei]; rfl
    ·rw [val_putD,et]
     by_cases e:r' = r
     ·subst e
      rw [if_pos rfl,if_pos (by simp),ei]
     ·have ne:¬ (Sum.inl (r':Int):Key) = .inl (r:Int):=fun z=>e (by injection z with z; omega)
      rw [if_neg ne,hm r']
      congr 1
      simp [e]
    ·have:=putD_len kvs (.inl (r:Int)) (nD k); omega
 ·rintro _ ⟨_,kvs,s3,s4,rfl,hm,hkl⟩
  have e:(enumD 0 (natsD R)).length = R.length:=by rw [enumD_len,natsD_len]
  rw [e,List.take_of_length_le (by rw [stN_len]; exact Nat.le_refl _)]
  exact hq
theorem ok_leant_on (dn:DefN K mg "leant_on" s_leant_on ["net", "stands"]) (B:BI mg):OkN P w K mg base 1 "leant_on" ["net", "stands"] (spA K SLeant):=by
 refine dn.aok2 (k:=0) sc_leant_on (fun j=>j == 0 || j == 1) [.un,.un,.un,.un,.un,.un,.un] SLeant rfl (fun f cdv A outer s H E hr=>have hu:=hu_of hr; ⟨_,(pss_cons (ps_asg (pv 0) (pg_tupK K (n:=3) rfl (pgs_cons (pg_name (i:=2) sc_leant_on.nd rfl (by first | exact Or.inl rfl | exact Or.inr rfl)) (pgs_cons (pg_name (i:=3) sc_leant_on.nd rfl (by first | exact Or.inl rfl | exact Or.inr rfl)) (pgs_cons (pg_name (i:=4) sc_leant_on.nd rfl (by first | exact Or.inl rfl | exact Or.inr rfl)) pgs_nil)))))
  (pss_cons (ps_setCD (i:=5) ["out"] [1] sc_leant_on.nd rfl (by first | exact Or.inl rfl | exact Or.inr rfl) rfl (Blk.of (defScope s_leant_on) nm_leant_on) (pi_seqK K (pv 4)) (fun _ _ _ _ nd=>(pg_name (i:=0) nd rfl (by first | exact Or.inl rfl | exact Or.inr rfl))) (fun _ _ _ _=>pts_nil) (fun _ _ _ _=>(pe_ix (ix_seqK K) (pv 1) (pv 0) (fun _ _=>rfl))) (fun _ _ _ _=>pe_bl))
  (pss_cons (ps_for PassesOwn.never rfl (pi_rev K rfl B.reversed_ (pa_cons (pe_lsE K rfl rfl B.list_ rfl B.enumerate_ (pa_cons (pv 3) pa_nil)) pa_nil)) (pg_tupK K (n:=2) rfl (pgs_cons (pg_name (i:=6) sc_leant_on.nd rfl (by first | exact Or.inl rfl | exact Or.inr rfl)) (pgs_cons (pg_tupK K (n:=2) rfl (pgs_cons (pg_name (i:=7) sc_leant_on.nd rfl (by first | exact Or.inl rfl | exact Or.inr rfl)) (pgs_cons (pg_name (i:=8) sc_leant_on.nd rfl (by first | exact Or.inl rfl | exact Or.inr rfl)) pgs_nil))) pgs_nil)))
  (pss_one (ps_if (pt_cmp (pc_din hu (pe_op op_add (pv 2) (pv 6)) (pv 5)))
  (pss_cons (ps_dput hu (pv 5) (pe_ix (ix_seqK K) (pv 1) (pv 7) (fun _ _=>rfl)) pe_bl rfl)
  (pss_one (ps_dput hu (pv 5) (pe_ix (ix_seqK K) (pv 1) (pv 8) (fun _ _=>rfl)) pe_bl rfl)))
  pss_nil)))
  (pss_one (ps_ret (pv 5)))))),(sok_seq (sok_asg tok_var (tgok_tup (tgsok_cons (tgok_name rfl) (tgsok_cons (tgok_name rfl) (tgsok_cons (tgok_name rfl) tgsok_nil (fun _ _ _=>gl_name)) (fun _ _ _=>gl_name)) (fun _ _ _=>gl_name))))
  (sok_seq (sok_setCD (tok_compD (tiok_seq tok_var) (tgok_name rfl) ttok_all (tok_op ook_ix tok_var tok_var) tok_bl) rfl)
  (sok_seq (sok_for (pin:=(fun _=>false)) (tiok_rev (taok_cons (tok_lsE (taok_cons tok_var taok_nil)) taok_nil)) (tgok_tup (tgsok_cons (tgok_name rfl) (tgsok_cons (tgok_tup (tgsok_cons (tgok_name rfl) (tgsok_cons (tgok_name rfl) tgsok_nil (fun _ _ _=>gl_name)) (fun _ _ _=>gl_name))) tgsok_nil (fun _ _ _=>gl_two)) (fun _ _ _=>gl_name)))
  (sok_if (ttok_test (tok_din (tok_op ook_int0 tok_var tok_var) tok_var))
  (sok_seq (sok_dput tok_bl tok_var (tok_op ook_ix tok_var tok_var))
  (sok_dput tok_bl tok_var (tok_op ook_ix tok_var tok_var)))
  sok_next))
  (sok_ret tok_var))))⟩) ?_
 rintro ss q ⟨N,rfl,hN,hq⟩
 have Rw:=rws_of hN
 have hl:(rowsN N).length = N.m + N.js.length:=rows_len N
 have jl:=hN.jl
 have m12:=hN.m12
 have o24:=hN.o24
 refine ⟨rfl,rfl,?_⟩
 refine cutS (fun ρ=>ρ = [.vl (netD N),.ow (natsD (stN (rowsN N))),nv N.m,.vl (.tup (N.js.map L2.pairD)),.vl (.tup (natsD N.os)),.un,.un,.un,.un]) (fun M hM=>hM _ rfl) ?_
 rintro _ rfl
 refine cutS (fun ρ=>∃ kvs,ρ = [.vl (netD N),.ow (natsD (stN (rowsN N))),nv N.m,.vl (.tup (N.js.map L2.pairD)),.vl (.tup (natsD N.os)),.dk kvs,.un,.un,.un]∧keysD (fun t=>(N.os.map (fT N)).contains t) kvs∧kvs.length ≤ 24) (fun M hM=>?_) ?_
 ·refine ⟨by rw [natsD_len]; omega,?_⟩
  refine compAD_inv (fun k acc ρ=>ρ = [.vl (netD N),.ow (natsD (stN (rowsN N))),nv N.m,.vl (.tup (N.js.map L2.pairD)),.vl (.tup (natsD N.os)),.un,.un,.un,.un]∧keysD (fun t=>((N.os.take k).map (fT N)).contains t) acc∧acc.length ≤ k) (fun _ _ _ _ _=>trivial) ?_ ?_ _ ⟨rfl,fun t=>by simp [valD],Nat.le_refl _⟩
  ·rintro k d acc _ M2 hk ⟨rfl,hka,hla⟩ hM2
   rw [List.getElem?_map] at hk
   obtain ⟨o,eo,rfl⟩:=Option.map_eq_some_iff.mp hk
   have ho:=hN.os o (List.mem_of_getElem? eo)
   refine gIx_nats rfl (by rw [stN_len]; omega) (hM2 _ _ ⟨rfl,?_,?_⟩)
   ·rw [stN_at (by omega)]
    have:=keys_put hka (fst1 (rowsN N) o) (.bl true)
    intro t
    rw [this t,List.take_add_one,eo,Option.toList_some,List.map_append,List.map_cons,List.map_nil]
    rw [Bool.eq_iff_iff]
    simp [fT]
   ·have:=putD_len acc (.inl (((stN (rowsN N)).getD o 0:Nat):Int)) (.bl true); omega
  ·rintro acc _ ⟨rfl,hka,hla⟩
   rw [natsD_len] at hka hla
   rw [List.take_length] at hka
   exact hM _ ⟨acc,rfl,hka,by omega⟩
 rintro _ ⟨kvs,rfl,hk0,hl0⟩
 refine forA_inv (fun k ρ=>k ≤ N.js.length∧∃ kvs s6 s7 s8,ρ = [.vl (netD N),.ow (natsD (stN (rowsN N))),nv N.m,.vl (.tup (N.js.map L2.pairD)),.vl (.tup (natsD N.os)),.dk kvs,s6,s7,s8]∧keysD (leanT N.m (fT N) (N.js.drop (N.js.length - k)) (N.js.length - k) fun t=>(N.os.map (fT N)).contains t) kvs∧kvs.length ≤ 24 + 2 * k) (fun _ _ _ _=>trivial) ?_ ?_ _ ⟨Nat.zero_le _,kvs,.un,.un,.un,rfl,?_,by omega⟩
 ·rintro k d _ M hk ⟨_,kvs,s6,s7,s8,rfl,hka,hla⟩ hM
  have lk:k < N.js.length:=by
   have:=(List.getElem?_eq_some_iff.mp hk).1
   rwa [List.length_reverse,enumD_len,List.length_map] at this
  rw [List.getElem?_reverse (by rw [enumD_len,List.length_map]; exact lk),enumD_len,List.length_map] at hk
  obtain ⟨x,ex,rfl⟩:=enumD_get hk
  rw [List.getElem?_map] at ex
  obtain ⟨p,ep,rfl⟩:=Option.map_eq_some_iff.mp ex
  obtain ⟨a1,a2,a3⟩:=js_lt Rw ep
  rw [Nat.zero_add]
  have ed:N.js.drop (N.js.length - (k + 1)) = p :: N.js.drop (N.js.length - k):=by
   rw [show N.js.length - (k + 1) = N.js.length - 1 - k by omega,List.drop_eq_getElem_cons (by omega),show N.js.length - 1 - k + 1 = N.js.length - k by omega]
   congr 1
   exact (List.getElem?_eq_some_iff.mp ep).2
  have ek:N.js.length - (k + 1) + 1 = N.js.length - k:=by omega
  refine three_d (d2:=nD p.1) (d3:=nD p.2) ?_
  show aIfS _ _ _ _ [.vl (netD N),.ow (natsD (stN (rowsN N))),nv N.m,.vl (.tup (N.js.map L2.pairD)),.vl (.tup (natsD N.os)),.dk kvs,nv (N.js.length - 1 - k),nv p.1,nv p.2]
  have ht:=hka (N.m + (N.js.length - (k + 1)))
  have ec:((N.m:Int) + ((N.js.length - 1 - k:Nat):Int)) = ((N.m + (N.js.length - (k + 1)):Nat):Int):=by omega
  refine ite2 (fun h=>?_) fun h=>?_
  ·have h':(valD kvs (.inl ((N.m:Int) + ((N.js.length - 1 - k:Nat):Int)))).isSome = true:=h
   rw [ec,ht] at h'
   refine gIx_nats rfl (by rw [stN_len]; omega) ⟨by omega,?_⟩
   refine gIx_nats rfl (by rw [stN_len]; omega) ⟨?_,hM _ ⟨by omega,_,nv (N.js.length - 1 - k),nv p.1,nv p.2,rfl,?_,?_⟩⟩
   ·have:=putD_len kvs (.inl (((stN (rowsN N)).getD p.1 0:Nat):Int)) (.bl true); omega
   ·rw [stN_at (by omega),stN_at (by omega)]
    have:=keys_put (keys_put hka (fst1 (rowsN N) p.1) (.bl true)) (fst1 (rowsN N) p.2) (.bl true)
    intro t
    rw [this t,ed,lean_cons,ek,h']
    simp only [Bool.true_and,Bool.or_assoc]
    rfl
   ·have h1:=putD_len kvs (.inl (((stN (rowsN N)).getD p.1 0:Nat):Int)) (.bl true)
    have h2:=putD_len (putD kvs (.inl (((stN (rowsN N)).getD p.1 0:Nat):Int)) (.bl true)) (.inl (((stN (rowsN N)).getD p.2 0:Nat):Int)) (.bl true)
    omega
  ·have h':¬ (valD kvs (.inl ((N.m:Int) + ((N.js.length - 1 - k:Nat):Int)))).isSome = true:=h
   rw [ec,ht] at h'
   refine hM _ ⟨by omega,kvs,nv (N.js.length - 1 - k),nv p.1,nv p.2,rfl,fun t=>?_,by omega⟩
   rw [hka t,ed,lean_cons,ek,Bool.not_eq_true _ |>.mp h',Bool.false_and,Bool.or_false]
 ·rintro _ ⟨_,kvs,s6,s7,s8,rfl,hka,hla⟩
  have e:((enumD 0 (N.js.map L2.pairD)).reverse).length = N.js.length:=by rw [List.length_reverse,enumD_len,List.length_map]
  rw [e,Nat.sub_self,List.drop_zero] at hka
  exact hq kvs hka
 ·rw [Nat.sub_zero,List.drop_length]
  exact hk0
theorem ok_tidied (dn:DefN K mg "tidied" s_tidied ["net"]) (B:BI mg) (g_first_alike:OkN P w K mg base 1 "first_alike" ["rows"] (spA K SFirst)) (g_leant_on:OkN P w K mg base 1 "leant_on" ["net", "stands"] (spA K SLeant)) (g_rows_of:OkN P w K mg base 3 "rows_of" ["net"] (spA K SRowsOf)) (g_joining:OkN P w K mg base 1 "joining" ["one", "other"] (spA K SJoining)):OkN P w K mg base 4 "tidied" ["net"] (spA K STid):=by
 refine dn.aok2 (k:=3) sc_tidied (fun j=>j == 0) [.un,.un,.un,.un,.un,.un,.un,.un,.un,.un] STid rfl (fun f cdv A outer s H E hr=>have hu:=hu_of hr; ⟨_,(pss_cons (ps_asg (pv 0) (pg_tupK K (n:=3) rfl (pgs_cons (pg_name (i:=1) sc_tidied.nd rfl (by first | exact Or.inl rfl | exact Or.inr rfl)) (pgs_cons (pg_name (i:=2) sc_tidied.nd rfl (by first | exact Or.inl rfl | exact Or.inr rfl)) (pgs_cons (pg_name (i:=3) sc_tidied.nd rfl (by first | exact Or.inl rfl | exact Or.inr rfl)) pgs_nil)))))
  (pss_cons (ps_set (i:=4) sc_tidied.nd rfl (by first | exact Or.inl rfl | exact Or.inr rfl) (pe_fn g_first_alike (hr.mono (by decide)) (pa_cons (pe_fn g_rows_of (hr.mono (by decide)) (pa_cons (pv 0) pa_nil)) pa_nil)))
  (pss_cons (ps_set (i:=5) sc_tidied.nd rfl (by first | exact Or.inl rfl | exact Or.inr rfl) (pe_fn g_leant_on (hr.mono (by decide)) (pa_cons (pv 0) (pa_cons (pv 4) pa_nil))))
  (pss_cons (ps_set (i:=6) sc_tidied.nd rfl (by first | exact Or.inl rfl | exact Or.inr rfl) (pe_callTy (call_listR rfl) rfl B.list_ bt_list (pa_cons (pe_callTy call_rangeO rfl B.range_ bt_range (pa_cons (pv 1) pa_nil)) pa_nil)))
  (pss_cons (ps_set (i:=7) sc_tidied.nd rfl (by first | exact Or.inl rfl | exact Or.inr rfl) (pe_lst pa_nil))
  (pss_cons (ps_for PassesOwn.never rfl (pi_enumT K rfl B.enumerate_ (pa_cons (pv 2) pa_nil)) (pg_tupK K (n:=2) rfl (pgs_cons (pg_name (i:=8) sc_tidied.nd rfl (by first | exact Or.inl rfl | exact Or.inr rfl)) (pgs_cons (pg_tupK K (n:=2) rfl (pgs_cons (pg_name (i:=9) sc_tidied.nd rfl (by first | exact Or.inl rfl | exact Or.inr rfl)) (pgs_cons (pg_name (i:=10) sc_tidied.nd rfl (by first | exact Or.inl rfl | exact Or.inr rfl)) pgs_nil))) pgs_nil)))
  (pss_cons (ps_expr (pe_bmK K PySem.F.plainAttrs_list PySem.F.slot_list_append PySem.F.type_list_append mt_append (pv 6) (pa_cons (pe_op op_add (pv 1) (pe_callB (call_lenK K) rfl B.len_ bt_len (pa_cons (pv 7) pa_nil))) pa_nil)))
  (pss_one (ps_if (pt_cmp (pc_din hu (pe_op op_add (pv 1) (pv 8)) (pv 5)))
  (pss_one (ps_expr (pe_bmK K PySem.F.plainAttrs_list PySem.F.slot_list_append PySem.F.type_list_append mt_append (pv 7) (pa_cons (pe_fn g_joining (hr.mono (by decide)) (pa_cons (pe_ix (ix_seqK K) (pv 6) (pe_ix (ix_seqK K) (pv 4) (pv 9) (fun _ _=>rfl)) (fun _ _=>rfl)) (pa_cons (pe_ix (ix_seqK K) (pv 6) (pe_ix (ix_seqK K) (pv 4) (pv 10) (fun _ _=>rfl)) (fun _ _=>rfl)) pa_nil))) pa_nil))))
  pss_nil))))
  (pss_one (ps_ret (pe_tup (pa_cons (pv 1) (pa_cons (pe_callTy (call_tupleK K) rfl B.tuple_ bt_tuple (pa_cons (pv 7) pa_nil)) (pa_cons (pe_callTy (call_tupleK K) rfl B.tuple_ bt_tuple (pa_cons (pe_comp ["out"] [6,4] rfl (Blk.of (defScope s_tidied) nm_tidied) (pi_seqK K (pv 3)) (fun _ _ _ _ nd=>(pg_name (i:=0) nd rfl (by first | exact Or.inl rfl | exact Or.inr rfl))) (fun _ _ _ _=>pts_nil) (fun _ _ _ _=>(pe_ix (ix_seqK K) (pv 1) (pe_ix (ix_seqK K) (pv 2) (pv 0) (fun _ _=>rfl)) (fun _ _=>rfl)))) pa_nil)) pa_nil)))))))))))),(sok_seq (sok_asg tok_var (tgok_tup (tgsok_cons (tgok_name rfl) (tgsok_cons (tgok_name rfl) (tgsok_cons (tgok_name rfl) tgsok_nil (fun _ _ _=>gl_name)) (fun _ _ _=>gl_name)) (fun _ _ _=>gl_name))))
  (sok_seq (sok_set (tok_call (taok_cons (tok_call (taok_cons tok_var taok_nil)) taok_nil)) rfl)
  (sok_seq (sok_set (tok_call (taok_cons tok_var (taok_cons tok_var taok_nil))) rfl)
  (sok_seq (sok_set (tok_lrng tok_var) rfl)
  (sok_seq (sok_set (tok_lst taok_nil) rfl)
  (sok_seq (sok_for (pin:=(fun j=>j == 2)) (tiok_enumT (taok_cons tok_var taok_nil)) (tgok_tup (tgsok_cons (tgok_name rfl) (tgsok_cons (tgok_tup (tgsok_cons (tgok_name rfl) (tgsok_cons (tgok_name rfl) tgsok_nil (fun _ _ _=>gl_name)) (fun _ _ _=>gl_name))) tgsok_nil (fun _ _ _=>gl_two)) (fun _ _ _=>gl_name)))
  (sok_seq (sok_drop (tok_app tok_var (taok_cons (tok_op ook_int0 tok_var (tok_cb cbok_len (taok_cons tok_var taok_nil))) taok_nil)))
  (sok_if (ttok_test (tok_din (tok_op ook_int0 tok_var tok_var) tok_var))
  (sok_drop (tok_app tok_var (taok_cons (tok_call (taok_cons (tok_op ook_ix tok_var (tok_op ook_ix tok_var tok_var)) (taok_cons (tok_op ook_ix tok_var (tok_op ook_ix tok_var tok_var)) taok_nil))) taok_nil)))
  sok_next)))
  (sok_ret (tok_tup (taok_cons tok_var (taok_cons (tok_cb cbok_tuple (taok_cons tok_var taok_nil)) (taok_cons (tok_cb cbok_tuple (taok_cons (tok_comp (tiok_seq tok_var) (tgok_name rfl) ttok_all (tok_op ook_ix tok_var (tok_op ook_ix tok_var tok_var))) taok_nil)) taok_nil)))))))))))⟩) ?_
 rintro ss q ⟨N,rfl,hN,hq⟩
 have Rw:=rws_of hN
 have hl:(rowsN N).length = N.m + N.js.length:=rows_len N
 have jl:=hN.jl
 have m12:=hN.m12
 have o24:=hN.o24
 refine ⟨rfl,rfl,?_⟩
 refine cutS (fun ρ=>ρ = [.vl (netD N),nv N.m,.vl (.tup (N.js.map L2.pairD)),.vl (.tup (natsD N.os)),.un,.un,.un,.un,.un,.un,.un]) (fun M hM=>hM _ rfl) ?_
 rintro _ rfl
 refine cutS (fun ρ=>ρ = [.vl (netD N),nv N.m,.vl (.tup (N.js.map L2.pairD)),.vl (.tup (natsD N.os)),.ow (natsD (stN (rowsN N))),.un,.un,.un,.un,.un,.un]) (fun M hM=>⟨rfl,N,rfl,Rw.ix,by omega,rfl,rowsN N,rfl,by omega,hM _ rfl⟩) ?_
 rintro _ rfl
 refine cutS (fun ρ=>∃ kvs,ρ = [.vl (netD N),nv N.m,.vl (.tup (N.js.map L2.pairD)),.vl (.tup (natsD N.os)),.ow (natsD (stN (rowsN N))),.dk kvs,.un,.un,.un,.un,.un]∧keysD (markT N) kvs) (fun M hM=>⟨rfl,N,rfl,hN,fun kvs hk=>hM _ ⟨kvs,rfl,hk⟩⟩) ?_
 rintro _ ⟨kvs,rfl,hk⟩
 refine cutS (fun ρ=>ρ = [.vl (netD N),nv N.m,.vl (.tup (N.js.map L2.pairD)),.vl (.tup (natsD N.os)),.ow (natsD (stN (rowsN N))),.dk kvs,.ow (natsD (List.range N.m)),.un,.un,.un,.un]) (fun M hM=>⟨⟨by omega,by omega⟩,hM _ (by rw [Int.toNat_natCast]; rfl)⟩) ?_
 rintro _ rfl
 refine cutS (fun ρ=>ρ = [.vl (netD N),nv N.m,.vl (.tup (N.js.map L2.pairD)),.vl (.tup (natsD N.os)),.ow (natsD (stN (rowsN N))),.dk kvs,.ow (natsD (List.range N.m)),.ow [],.un,.un,.un]) (fun M hM=>⟨by simp,hM _ rfl⟩) ?_
 rintro _ rfl
 refine cutS (fun ρ=>∃ s8 s9 s10,ρ = [.vl (netD N),nv N.m,.vl (.tup (N.js.map L2.pairD)),.vl (.tup (natsD N.os)),.ow (natsD (stN (rowsN N))),.dk kvs,.ow (natsD ((List.range (N.m + N.js.length)).map (nT N))),.ow ((tidN N).js.map L2.pairD),s8,s9,s10]) (fun M hM=>?_) ?_
 ·refine forA_inv (fun k ρ=>k ≤ N.js.length∧∃ s8 s9 s10,ρ = [.vl (netD N),nv N.m,.vl (.tup (N.js.map L2.pairD)),.vl (.tup (natsD N.os)),.ow (natsD (stN (rowsN N))),.dk kvs,.ow (natsD ((List.range (N.m + k)).map (nT N))),.ow ((keptN N.m (fT N) (markT N) N.js k).map L2.pairD),s8,s9,s10]) (fun _ _ _ _=>trivial) ?_ ?_ _ ⟨Nat.zero_le _,.un,.un,.un,?_⟩
  ·rintro k d _ M2 hk' ⟨_,s8,s9,s10,rfl⟩ hM2
   obtain ⟨x,ex,rfl⟩:=enumD_get hk'
   rw [List.getElem?_map] at ex
   obtain ⟨p,ep,rfl⟩:=Option.map_eq_some_iff.mp ex
   obtain ⟨a1,a2,a3⟩:=js_lt Rw ep
   obtain ⟨f1,f2⟩:=f_lt Rw ep
   rw [Nat.zero_add]
   have enk:nT N (N.m + k) = N.m + nkT N.m (markT N) k:=by unfold nT nbT; rw [if_neg (by omega)]; congr 2; omega
   have ers:(List.range (N.m + (k + 1))).map (nT N) = (List.range (N.m + k)).map (nT N) ++ [nT N (N.m + k)]:=by
    rw [← Nat.add_assoc,List.range_succ,List.map_append]; rfl
   have eln:(N.m:Int) + (((keptN N.m (fT N) (markT N) N.js k).map L2.pairD).length:Int) = ((nT N (N.m + k):Nat):Int):=by
    rw [List.length_map,kept_len,enk]; omega
   have ejs:N.js.getD k (0,0) = p:=by rw [List.getD_eq_getElem?_getD,ep]; rfl
   have nkl:=nk_le (m:=N.m) (L:=markT N) k
   refine three_d (d2:=nD p.1) (d3:=nD p.2) ?_
   show aSeq _ _ _ [.vl (netD N),nv N.m,.vl (.tup (N.js.map L2.pairD)),.vl (.tup (natsD N.os)),.ow (natsD (stN (rowsN N))),.dk kvs,.ow (natsD ((List.range (N.m + k)).map (nT N))),.ow ((keptN N.m (fT N) (markT N) N.js k).map L2.pairD),nv k,nv p.1,nv p.2]
   refine cutS (fun ρ=>ρ = [.vl (netD N),nv N.m,.vl (.tup (N.js.map L2.pairD)),.vl (.tup (natsD N.os)),.ow (natsD (stN (rowsN N))),.dk kvs,.ow (natsD ((List.range (N.m + (k + 1))).map (nT N))),.ow ((keptN N.m (fT N) (markT N) N.js k).map L2.pairD),nv k,nv p.1,nv p.2]) (fun M3 hM3=>⟨?_,hM3 _ ?_⟩) ?_
   ·rw [natsD_len,List.length_map,List.length_range]; omega
   ·rw [ers,natsD_snoc,show nD (nT N (N.m + k)) = D.int ((N.m:Int) + (((keptN N.m (fT N) (markT N) N.js k).map L2.pairD).length:Int)) from congrArg D.int eln.symm]; rfl
   rintro _ rfl
   have ec:((N.m:Int) + (k:Int)) = ((N.m + k:Nat):Int):=by omega
   have ht:=hk (N.m + k)
   have gat:∀ t,t < N.m + k→((List.range (N.m + (k + 1))).map (nT N)).getD t 0 = nT N t:=fun t h=>by
    rw [gd_eq (by simp; omega)]; simp
   have glen:((List.range (N.m + (k + 1))).map (nT N)).length = N.m + (k + 1):=by simp
   refine ite2 (fun h=>?_) fun h=>?_
   ·have h':(valD kvs (.inl ((N.m:Int) + (k:Int)))).isSome = true:=h
    rw [ec,ht] at h'
    refine gIx_nats rfl (by rw [stN_len]; omega) ?_
    refine gIx_nats rfl (by rw [stN_at (by omega),glen]; show fT N p.1 < _; omega) ?_
    refine gIx_nats rfl (by rw [stN_len]; omega) ?_
    refine gIx_nats rfl (by rw [stN_at (by omega),glen]; show fT N p.2 < _; omega) ?_
    refine ⟨rfl,_,_,rfl,by rw [List.length_map,kept_len]; omega,hM2 _ ⟨by omega,nv k,nv p.1,nv p.2,?_⟩⟩
    rw [stN_at (by omega),stN_at (by omega)]
    have g1:=gat (fst1 (rowsN N) p.1) f1
    have g2:=gat (fst1 (rowsN N) p.2) f2
    rw [g1,g2,kept_succ,if_pos h',ejs,List.map_append]
    rfl
   ·have h':¬ (valD kvs (.inl ((N.m:Int) + (k:Int)))).isSome = true:=h
    rw [ec,ht] at h'
    refine hM2 _ ⟨by omega,nv k,nv p.1,nv p.2,?_⟩
    rw [kept_succ,if_neg h',List.append_nil]
  ·rintro _ ⟨_,s8,s9,s10,rfl⟩
   have e:(enumD 0 (N.js.map L2.pairD)).length = N.js.length:=by rw [enumD_len,List.length_map]
   rw [e]
   exact hM _ ⟨s8,s9,s10,rfl⟩
  ·have e:(List.range (N.m + 0)).map (nT N) = List.range N.m:=by
    refine List.ext_getElem (by simp) fun i h1 h2=>?_
    have h3:i < N.m:=by simpa using h2
    simp [nbT,h3]
   rw [e]; rfl
 rintro _ ⟨s8,s9,s10,rfl⟩
 refine ⟨by rw [natsD_len]; omega,?_⟩
 refine compA_lst nD (fun o=>nD (nT N (fT N o))) trivial (fun o acc M ho hM=>?_) ?_
 ·have h1:=hN.os o ho
  have h2:=fT_le (N:=N) (t:=o) h1
  refine gIx_nats rfl (by rw [stN_len]; omega) ?_
  refine gIx_nats rfl (by rw [stN_at (by omega)]; simp; show fT N o < _; omega) ?_
  rw [stN_at (by omega)]
  have:((List.range (N.m + N.js.length)).map (nT N)).getD (fst1 (rowsN N) o) 0 = nT N (fT N o):=by
   rw [gd_eq (by simp; show fT N o < _; omega)]; simp [fT]
  rw [this]
  exact hM
 have e:(N.os.map fun o=>nD (nT N (fT N o))) = natsD (tidN N).os:=by
  show _ = natsD (N.os.map _)
  unfold natsD; rw [List.map_map]; rfl
 rw [e]
 exact ⟨by simp,hq⟩
end
theorem or_no {c:Bool} {A B:Prop} (h:c = false) (hb:B):if c = true then A else B:=by subst h; exact hb
def SLFirst:ASp:=fun ss q=>∃ R:List Nat,ss = [.vl (.lst (natsD R))]∧R.length ≤ 1000∧q (.f (natsD (stN R))) [.vl (.lst (natsD R))]
def kpL (N:Net) (n:Nat):List Nat:=((List.range n).filter fun j=>markT N (N.m + j)).map (N.m + ·)
def SLLean:ASp:=fun ss q=>∃ N:Net,ss = [.vl (netD N),.ow (natsD (stN (rowsN N))),.ow (natsD (N.os.map (fT N)))]∧IsNet N∧q (.f (natsD (kpL N N.js.length))) [.vl (netD N),.ow (natsD (stN (rowsN N))),.ow (natsD (N.os.map (fT N)))]
theorem ei_nats (R:List Nat):natsD R = (R.map fun x=>((x:Nat):Int)).map D.int:=by unfold natsD; rw [List.map_map]; rfl
theorem idx_ok {R:List Nat} {r:Nat} {q:Nat→Prop} (hr:r ∈ R) (hz:R.length ≤ 1000) (hq:q (R.idxOf r)):gIdx (natsD R) ((r:Nat):Int) q:=by
 have lt:R.idxOf r < R.length:=List.idxOf_lt_length_of_mem hr
 rw [ei_nats]
 refine gIdx_ok (j:=R.idxOf r) ?_ (by omega) (fun m hm=>?_) hq
 ·rw [List.getElem?_map,List.getElem?_eq_getElem lt,List.getElem_idxOf lt]; rfl
 ·intro e
  rw [List.getElem?_map,List.getElem?_eq_getElem (by omega)] at e
  have e':R[m]'(by omega) = r:=by
   have:((R[m]'(by omega):Nat):Int) = (r:Int):=Option.some.inj e
   omega
  have:=List.not_of_lt_findIdx (p:=fun x=>x == r) (xs:=R) (i:=m) hm
  rw [e'] at this
  simp at this
theorem sort2 {x y:Nat} {ns':List Int} (p:ns'.Perm [(x:Int),(y:Int)]) (u:ns'.Pairwise (· ≤ ·)):ns' = [((min x y:Nat):Int),((max x y:Nat):Int)]:=by
 refine List.Perm.eq_of_pairwise (le:=fun a b=>a ≤ b) (fun a b _ _ h1 h2=>Int.le_antisymm h1 h2) u ?_ (p.trans ?_)
 ·refine List.pairwise_cons.mpr ⟨fun b hb=>?_,List.pairwise_singleton _ _⟩
  rw [List.mem_singleton.mp hb]; omega
 ·rcases Nat.le_total x y with h | h
  ·rw [Nat.min_eq_left h,Nat.max_eq_right h]
  ·rw [Nat.min_eq_right h,Nat.max_eq_left h]; exact List.Perm.swap ..
theorem gIx_tz {r1:R} {ρ:En} {q:Ko} {ds:List D} {z:Int} {i:Nat} {d:D} (hz:z = (i:Nat)) (hv:view ρ r1 = some (.tup ds)) (h:ds[i]? = some d) (hq:q (.d d) ρ):gIx r1 (.d (.int z)) ρ q:=by subst hz; exact gIx_t hv (atI_nat h) hq
def mkM (ks:List Nat):List (Key × D):=ks.map fun (t:Nat)=>(.inl (t:Int),.bl true)
theorem mkM_val (t:Nat):∀ ks:List Nat,(valD (mkM ks) (.inl (t:Int))).isSome = ks.contains t
 | []=>rfl
 | x :: ks=>by
  have ih:=mkM_val t ks
  unfold mkM valD at ih ⊢
  rw [List.map_cons,List.contains_cons]
  by_cases e:t = x
  ·subst e
   rw [List.find?_cons_of_pos (by simp)]; simp
  ·rw [List.find?_cons_of_neg (by simp; omega),ih]
   simp [e]
theorem mkM_put {ks:List Nat} {t:Nat} (h:t ∉ ks):putD (mkM ks) (.inl (t:Int)) (.bl true) = mkM (ks ++ [t]):=by
 have a:((mkM ks).any fun kv=>decide (kv.1 = (Sum.inl (t:Int):Key))) = false:=by
  rw [List.any_eq_false]
  intro kv hkv z
  obtain ⟨x,hx,rfl⟩:=List.mem_map.mp hkv
  have:x = t:=by
   have:=of_decide_eq_true z
   injection this with this
   omega
  exact h (this ▸ hx)
 unfold putD
 rw [if_neg (by rw [a]; simp)]
 unfold mkM
 rw [List.map_append]; rfl
structure Wk (N:Net) (ks ws:List Nat):Prop where
 nd:ks.Nodup
 km:∀ t ∈ ks,markT N t = true
 mw:∀ t ∈ ws,markT N t = true
 os:∀ o ∈ N.os,fT N o ∈ ks ∨ fT N o ∈ ws
 js:∀ j p,N.js[j]? = some p→N.m + j ∈ ks→(fT N p.1 ∈ ks ∨ fT N p.1 ∈ ws)∧(fT N p.2 ∈ ks ∨ fT N p.2 ∈ ws)
theorem Wk.start {N:Net}:Wk N [] (N.os.map (fT N)):=by
 refine ⟨List.nodup_nil,(fun _ h=>nomatch h),fun t ht=>?_,fun o ho=>.inr (List.mem_map.mpr ⟨o,ho,rfl⟩),(fun _ _ _ h=>nomatch h)⟩
 obtain ⟨o,ho,rfl⟩:=List.mem_map.mp ht
 exact mark_out ho
theorem Wk.old {N:Net} {ks ws:List Nat} {t:Nat} (w:Wk N ks (ws ++ [t])) (h:t ∈ ks):Wk N ks ws:=by
 have f:∀ {x},(x ∈ ks ∨ x ∈ ws ++ [t])→x ∈ ks ∨ x ∈ ws:=by
  rintro x (q | q)
  ·exact .inl q
  ·rcases List.mem_append.mp q with q | q
   ·exact .inr q
   ·rw [List.mem_singleton.mp q]; exact .inl h
 exact ⟨w.nd,w.km,fun x hx=>w.mw x (List.mem_append_left _ hx),fun o ho=>f (w.os o ho),fun j p e hj=>⟨f (w.js j p e hj).1,f (w.js j p e hj).2⟩⟩
theorem Wk.new {N:Net} {ks ws us:List Nat} {t:Nat} (w:Wk N ks (ws ++ [t])) (h:t ∉ ks) (hu:∀ u ∈ us,markT N u = true) (hj:∀ j p,N.js[j]? = some p→N.m + j = t→fT N p.1 ∈ us∧fT N p.2 ∈ us):Wk N (ks ++ [t]) (ws ++ us):=by
 have f:∀ {x},(x ∈ ks ∨ x ∈ ws ++ [t])→x ∈ ks ++ [t] ∨ x ∈ ws ++ us:=by
  rintro x (q | q)
  ·exact .inl (List.mem_append_left _ q)
  ·rcases List.mem_append.mp q with q | q
   ·exact .inr (List.mem_append_left _ q)
   ·exact .inl (List.mem_append_right _ q)
 refine ⟨List.nodup_append.mpr ⟨w.nd,List.nodup_cons.mpr ⟨(fun q=>nomatch q),List.nodup_nil⟩,fun a ha b hb e=>?_⟩,fun x hx=>?_,fun x hx=>?_,fun o ho=>f (w.os o ho),fun j p e hk=>?_⟩
 ·rw [List.mem_singleton.mp hb] at e; exact h (e ▸ ha)
 ·rcases List.mem_append.mp hx with q | q
  ·exact w.km x q
  ·rw [List.mem_singleton.mp q]; exact w.mw t (by simp)
 ·rcases List.mem_append.mp hx with q | q
  ·exact w.mw x (List.mem_append_left _ q)
  ·exact hu x q
 ·rcases List.mem_append.mp hk with q | q
  ·exact ⟨f (w.js j p e q).1,f (w.js j p e q).2⟩
  ·have:=hj j p e (List.mem_singleton.mp q)
   exact ⟨.inr (List.mem_append_right _ this.1),.inr (List.mem_append_right _ this.2)⟩
theorem Wk.fin {N:Net} (hN:IsNet N) {ks:List Nat} (w:Wk N ks []) {t:Nat}:t ∈ ks↔markT N t = true:=by
 refine ⟨w.km t,?_⟩
 have R:=rws_of hN
 have nn:∀ x,(x ∈ ks ∨ x ∈ ([]:List Nat))→x ∈ ks:=fun x q=>q.resolve_right (fun z=>nomatch z)
 have go:∀ n t,N.m + N.js.length - t ≤ n→markT N t = true→t ∈ ks:=by
  intro n
  induction n with
  | zero =>
   intro t h1 h2
   have:=(mark_lt R hN.os h2).1
   omega
  | succ n ih =>
   intro t h1 h2
   have lt:=(mark_lt R hN.os h2).1
   rcases mark_from h2 with ⟨o,ho,rfl⟩ | ⟨k,p,e1,e2,e3⟩
   ·exact nn _ (w.os o ho)
   ·have f:=f_lt R e1
    have hk:N.m + k ∈ ks:=ih _ (by rcases e3 with rfl | rfl <;> omega) e2
    rcases e3 with rfl | rfl
    ·exact nn _ (w.js k p e1 hk).1
    ·exact nn _ (w.js k p e1 hk).2
 exact go _ t (Nat.le_refl _)
theorem nodup_len {ks:List Nat} {n:Nat} (h:ks.Nodup) (hb:∀ x ∈ ks,x < n):ks.length ≤ n:=by
 have h2:=List.Nodup.length_le_of_subset h (l₂:=List.range n) fun x hx=>List.mem_range.mpr (hb x hx)
 rwa [List.length_range] at h2
theorem Wk.le {N:Net} (hN:IsNet N) {ks ws:List Nat} (w:Wk N ks ws):ks.length ≤ N.m + N.js.length:=nodup_len w.nd fun x hx=>(mark_lt (rws_of hN) hN.os (w.km x hx)).1
theorem kpL_succ (N:Net) (n:Nat):kpL N (n + 1) = kpL N n ++ (if markT N (N.m + n) = true then [N.m + n] else []):=by
 unfold kpL
 rw [List.range_succ,List.filter_append,List.map_append]
 congr 1
 by_cases h:markT N (N.m + n) = true
 ·rw [if_pos h]; simp [List.filter_cons,h]
 ·rw [if_neg h]; simp [List.filter_cons,h]
theorem kpL_mem {N:Net} {n t:Nat}:t ∈ kpL N n↔N.m ≤ t∧t < N.m + n∧markT N t = true:=by
 unfold kpL
 rw [List.mem_map]
 constructor
 ·rintro ⟨j,hj,rfl⟩
  obtain ⟨h1,h2⟩:=List.mem_filter.mp hj
  have:=List.mem_range.mp h1
  exact ⟨by omega,by omega,h2⟩
 ·rintro ⟨h1,h2,h3⟩
  exact ⟨t - N.m,List.mem_filter.mpr ⟨List.mem_range.mpr (by omega),by rw [show N.m + (t - N.m) = t by omega]; exact h3⟩,by omega⟩
theorem kpL_up (N:Net) (n:Nat):(kpL N n).Pairwise (· < ·):=by
 unfold kpL
 refine List.pairwise_map.mpr (List.Pairwise.imp (fun h=>by omega) (List.Pairwise.filter _ List.pairwise_lt_range))
theorem kpL_sort {N:Net} {ks:List Nat} (nd:ks.Nodup) (hm:∀ t,t ∈ ks↔markT N t = true) (hb:∀ t,markT N t = true→t < N.m + N.js.length) {ns':List Int} (p:ns'.Perm ((ks.filter fun t=>decide (N.m ≤ t)).map fun x=>((x:Nat):Int))) (u:ns'.Pairwise (· ≤ ·)) :
  ns' = (kpL N N.js.length).map fun x=>((x:Nat):Int):=by
 refine List.Perm.eq_of_pairwise (le:=fun a b=>a ≤ b) (fun a b _ _ h1 h2=>Int.le_antisymm h1 h2) u ?_ (p.trans (List.Perm.map _ ?_))
 ·exact List.pairwise_map.mpr ((kpL_up N _).imp fun h=>by omega)
 ·refine (List.perm_ext_iff_of_nodup (List.Pairwise.filter _ nd) ((kpL_up N _).imp fun h=>by omega)).mpr fun t=>?_
  rw [List.mem_filter,kpL_mem,hm]
  constructor
  ·rintro ⟨h1,h2⟩
   exact ⟨of_decide_eq_true h2,hb t h1,h1⟩
  ·rintro ⟨h1,h2,h3⟩
   exact ⟨h3,decide_eq_true h1⟩
section
variable {n:Nat} {js:List Nat} {c:En→Prop} {g:AG} {tc:AT} {te:AE} {q:List D→En→Prop}
theorem compA_flt {α:Type} (h:α→D) (p:α→Bool) (f:α→D) {xs:List α} {ρ:En} (hc:c ρ) (hs:∀ x acc (N:List D→En→Prop),x ∈ xs→N (if p x = true then acc ++ [f x] else acc) ρ→turnA n js g tc te ρ (h x) acc N)
  (hd:q ((xs.filter p).map f) ρ):compA n js c g tc te q (xs.map h) [] ρ:=by
 refine compA_inv (fun k acc ρ'=>ρ' = ρ∧acc = ((xs.take k).filter p).map f) (fun k acc ρ' _ h=>h.1 ▸ hc) ?_ ?_ ρ ⟨rfl,rfl⟩
 ·rintro k d acc _ N hk ⟨rfl,rfl⟩ hN
  rw [List.getElem?_map] at hk
  obtain ⟨x,e1,rfl⟩:=Option.map_eq_some_iff.mp hk
  refine hs x _ N (List.mem_of_getElem? e1) (hN _ _ ⟨rfl,?_⟩)
  rw [List.take_add_one,e1,Option.toList_some,List.filter_append,List.map_append]
  cases hp:p x <;> simp [hp]
 ·rintro acc _ ⟨rfl,rfl⟩
  rw [List.length_map,List.take_length]; exact hd
end
def SLDue:ASp:=fun ss q=>∃ N:Net,ss = [.vl (netD N)]∧IsNet N∧q (.d (netD (tidN N))) [.vl (netD N)]
theorem kpL_len (N:Net) (n:Nat):(kpL N n).length = nkT N.m (markT N) n:=by
 unfold kpL nkT
 rw [List.length_map]
theorem kpL_at {N:Net}:∀ {n a x:Nat},(kpL N n)[a]? = some x→nbT N.m (markT N) x = N.m + a
 | 0,a,x,h=>by simp [kpL] at h
 | n + 1,a,x,h=>by
  rw [kpL_succ] at h
  rcases Nat.lt_or_ge a (kpL N n).length with g | g
  ·rw [List.getElem?_append_left g] at h
   exact kpL_at h
  ·rw [List.getElem?_append_right g] at h
   split at h
   ·have ha:a - (kpL N n).length = 0:=by
     have:=(List.getElem?_eq_some_iff.mp h).1
     simp at this
     omega
    rw [ha] at h
    cases h
    unfold nbT
    rw [if_neg (by omega),show N.m + n - N.m = n by omega,← kpL_len]
    omega
   ·simp at h
theorem kept_kpL {N:Net}:∀ n,keptN N.m (fT N) (markT N) N.js n = (kpL N n).map fun t=>newJ N.m (fT N) (markT N) (N.js.getD (t - N.m) (0,0))
 | 0=>rfl
 | n + 1=>by
  rw [kept_succ,kpL_succ,List.map_append,kept_kpL n]
  congr 1
  split
  ·rw [List.map_cons,List.map_nil,show N.m + n - N.m = n by omega]
  ·rfl
def plD (N:Net) (a:Nat) (kvs:List (Key × D)):Prop:=∀ x:Nat,(x < N.m ∨ x ∈ (kpL N N.js.length).take a)→valD kvs (.inl (x:Int)) = some (nD (nbT N.m (markT N) x))
section
variable {P:Program} {w:World} {K:PySem.W.Frag} {mg:Str→Option Value} {base:Heap}
theorem ok_law_net (dn:DefN K mg "_law_net" s_law_net ["_law_tape_here", "_law_most", "_law_joins_most"]) (B:BI mg) (g_law_draw:OkN P w K mg base 1 "_law_draw" ["_law_tape_here", "_law_many"] (spA K SDraw)):OkN P w K mg base 2 "_law_net" ["_law_tape_here", "_law_most", "_law_joins_most"] (spA K SLawNet):=by
 refine dn.aok2 (k:=1) sc_law_net (fun j=>j == 0 || j == 1 || j == 2) [.un,.un,.un,.un,.un,.un,.un,.un] SLawNet rfl (fun f cdv A outer s H E hr=>have hu:=hu_of hr; ⟨_,(pss_cons (ps_set (i:=3) sc_law_net.nd rfl (by first | exact Or.inl rfl | exact Or.inr rfl) (pe_op op_add pe_int (pe_fn g_law_draw (hr.mono (by decide)) (pa_cons (pv 0) (pa_cons (pv 1) pa_nil)))))
  (pss_cons (ps_set (i:=4) sc_law_net.nd rfl (by first | exact Or.inl rfl | exact Or.inr rfl) (pe_comp ["_law_k"] [] rfl (Blk.of (defScope s_law_net) nm_law_net) (pi_range1 rfl B.range_ (pa_cons (pv 3) pa_nil)) (fun _ _ _ _ nd=>(pg_name (i:=0) nd rfl (by first | exact Or.inl rfl | exact Or.inr rfl))) (fun _ _ _ _=>pts_nil) (fun _ _ _ _=>(pe_op op_shl pe_int (pv 0)))))
  (pss_cons (ps_set (i:=5) sc_law_net.nd rfl (by first | exact Or.inl rfl | exact Or.inr rfl) (pe_lst pa_nil))
  (pss_cons (ps_set (i:=6) sc_law_net.nd rfl (by first | exact Or.inl rfl | exact Or.inr rfl) (pe_fn g_law_draw (hr.mono (by decide)) (pa_cons (pv 0) (pa_cons pe_int pa_nil))))
  (pss_cons (ps_for PassesOwn.never rfl (pi_range1 rfl B.range_ (pa_cons (pe_fn g_law_draw (hr.mono (by decide)) (pa_cons (pv 0) (pa_cons (pe_op op_add (pv 2) pe_int) pa_nil))) pa_nil)) (pg_name (i:=7) sc_law_net.nd rfl (by first | exact Or.inl rfl | exact Or.inr rfl))
  (pss_cons (ps_set (i:=8) sc_law_net.nd rfl (by first | exact Or.inl rfl | exact Or.inr rfl) (pe_fn g_law_draw (hr.mono (by decide)) (pa_cons (pv 0) (pa_cons (pe_callB (call_lenK K) rfl B.len_ bt_len (pa_cons (pv 4) pa_nil)) pa_nil))))
  (pss_cons (ps_set (i:=9) sc_law_net.nd rfl (by first | exact Or.inl rfl | exact Or.inr rfl) (pe_fn g_law_draw (hr.mono (by decide)) (pa_cons (pv 0) (pa_cons (pe_callB (call_lenK K) rfl B.len_ bt_len (pa_cons (pv 4) pa_nil)) pa_nil))))
  (pss_cons (ps_if (pt_cmpR (op_eqD K hr.units) (pv 6) pe_int (nomark _))
  (pss_one (ps_set (i:=9) sc_law_net.nd rfl (by first | exact Or.inl rfl | exact Or.inr rfl) (pe_op op_sub (pe_callB (call_lenK K) rfl B.len_ bt_len (pa_cons (pv 4) pa_nil)) pe_int)))
  pss_nil)
  (pss_cons (ps_if (pt_cmpR (op_eqD K hr.units) (pv 6) pe_int (nomark _))
  (pss_cons (ps_set (i:=8) sc_law_net.nd rfl (by first | exact Or.inl rfl | exact Or.inr rfl) (pe_callB (call_max2 rfl) rfl B.max_ bt_max (pa_cons pe_int (pa_cons (pe_op op_sub (pe_op op_sub (pe_callB (call_lenK K) rfl B.len_ bt_len (pa_cons (pv 4) pa_nil)) pe_int) (pe_op op_mod (pv 8) pe_int)) pa_nil))))
  (pss_one (ps_set (i:=9) sc_law_net.nd rfl (by first | exact Or.inl rfl | exact Or.inr rfl) (pe_callB (call_max2 rfl) rfl B.max_ bt_max (pa_cons pe_int (pa_cons (pe_op op_sub (pe_op op_sub (pe_callB (call_lenK K) rfl B.len_ bt_len (pa_cons (pv 4) pa_nil)) pe_int) (pe_op op_mod (pv 9) pe_int)) pa_nil))))))
  pss_nil)
  (pss_one (ps_if (pt_cmpR (op_neD K hr.units) (pe_ix (ix_seqK K) (pv 4) (pv 8) (fun _ _=>rfl)) (pe_ix (ix_seqK K) (pv 4) (pv 9) (fun _ _=>rfl)) (nomark _))
  (pss_cons (ps_expr (pe_bmK K PySem.F.plainAttrs_list PySem.F.slot_list_append PySem.F.type_list_append mt_append (pv 5) (pa_cons (pe_tup (pa_cons (pe_callB (call_min2 rfl) rfl B.min_ bt_min (pa_cons (pv 8) (pa_cons (pv 9) pa_nil))) (pa_cons (pe_callB (call_max2 rfl) rfl B.max_ bt_max (pa_cons (pv 8) (pa_cons (pv 9) pa_nil))) pa_nil))) pa_nil)))
  (pss_one (ps_expr (pe_bmK K PySem.F.plainAttrs_list PySem.F.slot_list_append PySem.F.type_list_append mt_append (pv 4) (pa_cons (pe_op op_xor (pe_ix (ix_seqK K) (pv 4) (pv 8) (fun _ _=>rfl)) (pe_ix (ix_seqK K) (pv 4) (pv 9) (fun _ _=>rfl))) pa_nil)))))
  pss_nil)))))))
  (pss_cons (ps_set (i:=10) sc_law_net.nd rfl (by first | exact Or.inl rfl | exact Or.inr rfl) (pe_callTy (call_tupleK K) rfl B.tuple_ bt_tuple (pa_cons (pe_comp ["_law_turn"] [0,4] rfl (Blk.of (defScope s_law_net) nm_law_net) (pi_range1 rfl B.range_ (pa_cons (pe_op op_add pe_int (pe_fn g_law_draw (hr.mono (by decide)) (pa_cons (pv 0) (pa_cons pe_int pa_nil)))) pa_nil)) (fun _ _ _ _ nd=>(pg_name (i:=0) nd rfl (by first | exact Or.inl rfl | exact Or.inr rfl))) (fun _ _ _ _=>pts_nil) (fun _ _ _ _=>(pe_fn g_law_draw (hr.mono (by decide)) (pa_cons (pv 1) (pa_cons (pe_callB (call_lenK K) rfl B.len_ bt_len (pa_cons (pv 2) pa_nil)) pa_nil))))) pa_nil)))
  (pss_one (ps_ret (pe_tup (pa_cons (pv 3) (pa_cons (pe_callTy (call_tupleK K) rfl B.tuple_ bt_tuple (pa_cons (pv 5) pa_nil)) (pa_cons (pv 10) pa_nil)))))))))))),(sok_seq (sok_set (tok_op ook_int0 tok_int (tok_call (taok_cons tok_var (taok_cons tok_var taok_nil)))) rfl)
  (sok_seq (sok_set (tok_comp (tiok_rng1 (taok_cons tok_var taok_nil)) (tgok_name rfl) ttok_all (tok_op ook_int tok_int tok_var)) rfl)
  (sok_seq (sok_set (tok_lst taok_nil) rfl)
  (sok_seq (sok_set (tok_call (taok_cons tok_var (taok_cons tok_int taok_nil))) rfl)
  (sok_seq (sok_for (pin:=(fun _=>false)) (tiok_rng1 (taok_cons (tok_call (taok_cons tok_var (taok_cons (tok_op ook_int0 tok_var tok_int) taok_nil))) taok_nil)) (tgok_name rfl)
  (sok_seq (sok_set (tok_call (taok_cons tok_var (taok_cons (tok_cb cbok_len (taok_cons tok_var taok_nil)) taok_nil))) rfl)
  (sok_seq (sok_set (tok_call (taok_cons tok_var (taok_cons (tok_cb cbok_len (taok_cons tok_var taok_nil)) taok_nil))) rfl)
  (sok_seq (sok_if (ttok_test (tok_op ook_eq tok_var tok_int))
  (sok_set (tok_op ook_int0 (tok_cb cbok_len (taok_cons tok_var taok_nil)) tok_int) rfl)
  sok_next)
  (sok_seq (sok_if (ttok_test (tok_op ook_eq tok_var tok_int))
  (sok_seq (sok_set (tok_cb cbok_max (taok_cons tok_int (taok_cons (tok_op ook_int0 (tok_op ook_int0 (tok_cb cbok_len (taok_cons tok_var taok_nil)) tok_int) (tok_op ook_int tok_var tok_int)) taok_nil))) rfl)
  (sok_set (tok_cb cbok_max (taok_cons tok_int (taok_cons (tok_op ook_int0 (tok_op ook_int0 (tok_cb cbok_len (taok_cons tok_var taok_nil)) tok_int) (tok_op ook_int tok_var tok_int)) taok_nil))) rfl))
  sok_next)
  (sok_if (ttok_test (tok_op ook_ne (tok_op ook_ix tok_var tok_var) (tok_op ook_ix tok_var tok_var)))
  (sok_seq (sok_drop (tok_app tok_var (taok_cons (tok_tup (taok_cons (tok_cb cbok_min (taok_cons tok_var (taok_cons tok_var taok_nil))) (taok_cons (tok_cb cbok_max (taok_cons tok_var (taok_cons tok_var taok_nil))) taok_nil))) taok_nil)))
  (sok_drop (tok_app tok_var (taok_cons (tok_op ook_int0 (tok_op ook_ix tok_var tok_var) (tok_op ook_ix tok_var tok_var)) taok_nil))))
  sok_next))))))
  (sok_seq (sok_set (tok_cb cbok_tuple (taok_cons (tok_comp (tiok_rng1 (taok_cons (tok_op ook_int0 tok_int (tok_call (taok_cons tok_var (taok_cons tok_int taok_nil)))) taok_nil)) (tgok_name rfl) ttok_all (tok_call (taok_cons tok_var (taok_cons (tok_cb cbok_len (taok_cons tok_var taok_nil)) taok_nil)))) taok_nil)) rfl)
  (sok_ret (tok_tup (taok_cons tok_var (taok_cons (tok_cb cbok_tuple (taok_cons tok_var taok_nil)) (taok_cons tok_var taok_nil)))))))))))⟩) ?_
 rintro ss q ⟨n,most,jm,rfl,hn,h1,h2,h3,hq⟩
 refine ⟨rfl,rfl,?_⟩
 refine ⟨rfl,n,_,rfl,by omega,Dv.small (by omega) (by omega),fun m hm=>?_⟩
 refine ⟨⟨by omega,by omega⟩,by rw [rngD_len]; omega,compA_rng (fun k=>.int (1 <<< k:Nat)) trivial (fun k acc N hk hN=>?_) ?_⟩
 ·rw [Int.zero_add]
  refine ⟨⟨by omega,by omega,by decide⟩,?_⟩
  show N (acc ++ [.int ((1:Int) * 2 ^ ((k:Int).toNat))]) _
  rw [shl_nat]; exact hN
 have e:((List.range (1 + (m:Int)).toNat).map fun k=>D.int (1 <<< k:Nat)) = natsD (ownRows (1 + m)):=by
  rw [show (1 + (m:Int)).toNat = 1 + m by omega]
  unfold ownRows natsD; rw [List.map_map]; rfl
 rw [e]
 refine ⟨Nat.zero_le _,rfl,n + 1,4,rfl,by omega,Dv.small (by decide) (by decide),fun way hway=>?_⟩
 refine ⟨rfl,n + 2,_,rfl,by omega,Dv.small (by omega) (by omega),fun cnt hcnt=>⟨⟨by omega,by omega⟩,?_⟩⟩
 refine forA_rng (fun k ρ=>∃ js n' s7 s8 s9,ρ = [.tp n',nv most,nv jm,nv (1 + m),.ow (natsD (js.foldl stepRows (ownRows (1 + m)))),.ow (js.map pairD),nv way,s7,s8,s9,.un]∧okJs (ownRows (1 + m)) js∧js.length ≤ k∧n' ≤ n + 3 + 2 * k) (fun _ _ _=>trivial) ?_ ?_ ⟨[],n + 3,.un,.un,.un,rfl,trivial,Nat.le_refl _,by omega⟩
 ·rintro k ρ M hk ⟨js,n',s7,s8,s9,rfl,hok,hl,hn'⟩ hM
  have hL:(js.foldl stepRows (ownRows (1 + m))).length = 1 + m + js.length:=by rw [fold_len,own_len]
  have hk':k < jm + 1:=by omega
  refine ⟨rfl,n',_,rfl,by omega,Dv.small ?_ ?_,fun a ha=>?_⟩
  ·rw [lenD,hL]; omega
  ·rw [lenD,hL]; omega
  refine ⟨rfl,n' + 1,_,rfl,by omega,Dv.small ?_ ?_,fun b hb=>?_⟩
  ·rw [lenD,hL]; omega
  ·rw [lenD,hL]; omega
  rw [lenD,hL] at ha hb
  have ha':a < 1 + m + js.length:=by omega
  have hb':b < 1 + m + js.length:=by omega
  have eL:(((natsD (js.foldl stepRows (ownRows (1 + m)))).length:Nat):Int) = ((1 + m + js.length:Nat):Int):=by rw [lenD,hL]
  dsimp only [stS,pt,back,R.frz]
  refine cutS (fun ρ=>∃ s7 b',ρ = [.tp (n' + 1 + 1),nv most,nv jm,nv (1 + m),.ow (natsD (js.foldl stepRows (ownRows (1 + m)))),.ow (js.map pairD),nv way,s7,nv a,nv b',.un]∧b' < 1 + m + js.length) (fun N hN=>?_) ?_
  ·refine gEq_ok rfl rfl (by simp [D.depth]) rfl (ite2 (fun _=>?_) fun _=>?_)
   ·have eb:(((natsD (js.foldl stepRows (ownRows (1 + m)))).length:Nat):Int) - 1 = ((m + js.length:Nat):Int):=by rw [eL]; omega
    exact hN _ ⟨.vl (.int (0 + (k:Nat))),m + js.length,by rw [← nv_eq eb]; rfl,by omega⟩
   ·exact hN _ ⟨.vl (.int (0 + (k:Nat))),b,rfl,hb'⟩
  rintro _ ⟨s7,b',rfl,hb'⟩
  refine cutS (fun ρ=>∃ s7 a' b',ρ = [.tp (n' + 1 + 1),nv most,nv jm,nv (1 + m),.ow (natsD (js.foldl stepRows (ownRows (1 + m)))),.ow (js.map pairD),nv way,s7,nv a',nv b',.un]∧a' < 1 + m + js.length∧b' < 1 + m + js.length) (fun N hN=>?_) ?_
  ·refine gEq_ok rfl rfl (by simp [D.depth]) rfl (ite2 (fun _=>?_) fun _=>?_)
   ·have em:∀ x:Nat,(if (((natsD (js.foldl stepRows (ownRows (1 + m)))).length:Nat):Int) - 1 - (x:Int) % 4 > 0 then (((natsD (js.foldl stepRows (ownRows (1 + m)))).length:Nat):Int) - 1 - (x:Int) % 4 else 0) = ((m + js.length - x % 4:Nat):Int):=fun x=>by
     rw [eL]; split <;> omega
    exact ⟨(show (0:Int) < 4 by decide),(show (0:Int) < 4 by decide),hN _ ⟨s7,m + js.length - a % 4,m + js.length - b' % 4,by rw [← nv_eq (em a),← nv_eq (em b')]; rfl,by omega,by omega⟩⟩
   ·exact hN _ ⟨s7,a,b',rfl,ha',hb'⟩
  rintro _ ⟨s7,a,b,rfl,ha,hb⟩
  refine gIx_nats rfl (by omega) (gIx_nats rfl (by omega) (gEq_ok rfl rfl (by simp [D.depth]) rfl (ite2 (fun hne=>?_) fun hne=>?_)))
  ·have hne':(js.foldl stepRows (ownRows (1 + m))).getD a 0 ≠ (js.foldl stepRows (ownRows (1 + m))).getD b 0:=fun e=>by
    rw [e] at hne; simp [eqD] at hne
   refine ⟨by simp,by rw [List.length_map]; omega,gIx_nats rfl (by omega) (gIx_nats rfl (by omega) ⟨by rw [List.length_map,hL]; omega,hM _ ⟨js ++ [(min a b,max a b)],n' + 1 + 1,s7,nv a,nv b,?_,?_,?_,by omega⟩⟩)⟩
   ·rw [List.foldl_append,List.foldl_cons,List.foldl_nil,step_sw,natsD_snoc,List.map_append,List.map_cons,List.map_nil]
    show _ = [_,_,_,_,_,Sv.ow (_ ++ [D.tup [.int ((min a b:Nat):Int),.int ((max a b:Nat):Int)]]),_,_,_,_,_]
    rw [← minI,← maxI,← xorD]
    rfl
   ·have hab:a ≠ b:=fun e=>hne' (by rw [e])
    refine okJs_snoc hok (by show min a b < max a b; omega) (by rw [own_len]; show max a b < _; omega) ?_
    show (js.foldl stepRows (ownRows (1 + m))).getD (min a b) 0 ≠ (js.foldl stepRows (ownRows (1 + m))).getD (max a b) 0
    rcases Nat.le_total a b with h | h
    ·rw [Nat.min_eq_left h,Nat.max_eq_right h]; exact hne'
    ·rw [Nat.min_eq_right h,Nat.max_eq_left h]; exact hne'.symm
   ·rw [List.length_append]; simp; omega
  ·exact hM _ ⟨js,n' + 1 + 1,s7,nv a,nv b,rfl,hok,by omega,by omega⟩
 ·rintro ρ ⟨js,n',s7,s8,s9,rfl,hok,hl,hn'⟩
  have hL:(js.foldl stepRows (ownRows (1 + m))).length = 1 + m + js.length:=by rw [fold_len,own_len]
  have hl':js.length ≤ jm:=by omega
  refine ⟨rfl,n',24,rfl,by omega,Dv.small (by decide) (by decide),fun oc hoc=>⟨⟨by omega,by omega⟩,by rw [rngD_len]; omega,?_⟩⟩
  refine compA_inv (fun k acc ρ=>∃ os,acc = natsD os∧os.length = k∧(∀ o ∈ os,o < 1 + m + js.length)∧ρ = [.tp (n' + 1 + k),nv most,nv jm,nv (1 + m),.ow (natsD (js.foldl stepRows (ownRows (1 + m)))),.ow (js.map pairD),nv way,s7,s8,s9,.un]) (fun _ _ _ _ _=>trivial) ?_ ?_ _ ⟨[],rfl,rfl,fun _ h=>(nomatch h),rfl⟩
  ·rintro k d acc _ N hk ⟨os,rfl,ho,hos,rfl⟩ hN
   obtain ⟨lt,rfl⟩:=rngD_get hk
   refine ⟨rfl,n' + 1 + k,_,rfl,by omega,Dv.small ?_ ?_,fun o ho'=>?_⟩
   ·rw [lenD,hL]; omega
   ·rw [lenD,hL]; omega
   rw [lenD,hL] at ho'
   refine hN _ _ ⟨os ++ [o],by rw [natsD_snoc],by rw [List.length_append,ho]; rfl,fun x hx=>?_,rfl⟩
   rcases List.mem_append.mp hx with h | h
   ·exact hos x h
   ·rw [List.mem_singleton.mp h]; omega
  ·rintro acc _ ⟨os,rfl,ho,hos,rfl⟩
   rw [rngD_len] at ho
   refine ⟨by simp,hq ⟨1 + m,js,os⟩ (n' + 1 + _) ⟨by show 1 ≤ 1 + m; omega,by show 1 + m ≤ 12; omega,by show js.length ≤ 132; omega,hok,?_,?_,hos⟩ (by show 1 + m ≤ most; omega) hl' ?_⟩
   ·show 1 ≤ os.length; omega
   ·show os.length ≤ 24; omega
   ·rw [rngD_len]; omega
theorem ok_law_rows (dn:DefN K mg "_law_rows" s_law_rows ["_law_net_here"]) (B:BI mg):OkN P w K mg base 1 "_law_rows" ["_law_net_here"] (spA K SRowsOf):=by
 refine dn.aok2 (k:=0) sc_law_rows (fun j=>j == 0) [.un,.un,.un] SRowsOf rfl (fun f cdv A outer s H E hr=>have hu:=hu_of hr; ⟨_,(pss_cons (ps_setC (i:=1) ["_law_k"] [] sc_law_rows.nd rfl (by first | exact Or.inl rfl | exact Or.inr rfl) rfl (Blk.of (defScope s_law_rows) nm_law_rows) (pi_range1 rfl B.range_ (pa_cons (pe_ix (ix_seqK K) (pv 0) pe_int (fun _ _=>rfl)) pa_nil)) (fun _ _ _ _ nd=>(pg_name (i:=0) nd rfl (by first | exact Or.inl rfl | exact Or.inr rfl))) (fun _ _ _ _=>pts_nil) (fun _ _ _ _=>(pe_op op_shl pe_int (pv 0))))
  (pss_cons (ps_for PassesOwn.never rfl (pi_seqK K (pe_ix (ix_seqK K) (pv 0) pe_int (fun _ _=>rfl))) (pg_tupK K (n:=2) rfl (pgs_cons (pg_name (i:=2) sc_law_rows.nd rfl (by first | exact Or.inl rfl | exact Or.inr rfl)) (pgs_cons (pg_name (i:=3) sc_law_rows.nd rfl (by first | exact Or.inl rfl | exact Or.inr rfl)) pgs_nil)))
  (pss_one (ps_expr (pe_bmK K PySem.F.plainAttrs_list PySem.F.slot_list_append PySem.F.type_list_append mt_append (pv 1) (pa_cons (pe_op op_xor (pe_ix (ix_seqK K) (pv 1) (pv 2) (fun _ _=>rfl)) (pe_ix (ix_seqK K) (pv 1) (pv 3) (fun _ _=>rfl))) pa_nil)))))
  (pss_one (ps_ret (pv 1))))),(sok_seq (sok_setC (tok_comp (tiok_rng1 (taok_cons (tok_op ook_ix tok_var tok_int) taok_nil)) (tgok_name rfl) ttok_all (tok_op ook_int tok_int tok_var)) rfl)
  (sok_seq (sok_for (pin:=(fun _=>false)) (tiok_seq (tok_op ook_ix tok_var tok_int)) (tgok_tup (tgsok_cons (tgok_name rfl) (tgsok_cons (tgok_name rfl) tgsok_nil (fun _ _ _=>gl_name)) (fun _ _ _=>gl_name)))
  (sok_drop (tok_app tok_var (taok_cons (tok_op ook_int0 (tok_op ook_ix tok_var tok_var) (tok_op ook_ix tok_var tok_var)) taok_nil))))
  (sok_ret tok_var)))⟩) ?_
 rintro ss q ⟨N,rfl,hix,hz,hq⟩
 refine ⟨rfl,rfl,gIx_t rfl rfl ⟨⟨by omega,by omega⟩,by rw [rngD_len]; omega,compA_rng (fun k=>.int (1 <<< k:Nat)) trivial (fun k acc N hk hN=>?_) ?_⟩⟩
 ·rw [Int.zero_add]
  refine ⟨⟨by omega,by omega,by decide⟩,?_⟩
  show N (acc ++ [.int ((1:Int) * 2 ^ ((k:Int).toNat))]) _
  rw [shl_nat]; exact hN
 have e:((List.range ((N.m:Nat):Int).toNat).map fun k=>D.int (1 <<< k:Nat)) = natsD (ownRows N.m):=by
  rw [Int.toNat_natCast]
  unfold ownRows natsD; rw [List.map_map]; rfl
 rw [e]
 refine gIx_t rfl rfl (forA_lst pairD (fun k ρ=>∃ s2 s3,ρ = [.vl (netD N),.ow (natsD ((N.js.take k).foldl stepRows (ownRows N.m))),s2,s3]) (fun _ _ _=>trivial) ?_ ?_ ⟨.un,.un,rfl⟩)
 ·rintro k p _ M hk ⟨s6,s7,rfl⟩ hM
  obtain ⟨q1,q2⟩:=okIx_get hix hk
  have hlen:((N.js.take k).foldl stepRows (ownRows N.m)).length = N.m + k:=by
   have:=(List.getElem?_eq_some_iff.mp hk).1
   rw [fold_len,List.length_take,own_len]; omega
  have hi:k < N.js.length:=(List.getElem?_eq_some_iff.mp hk).1
  refine gIx_nats rfl (by omega) (gIx_nats rfl (by omega) ⟨?_,hM _ ⟨nv p.1,nv p.2,?_⟩⟩)
  ·rw [List.length_map,hlen]; omega
  ·rw [fold_snoc hk,natsD_step,← xorD]; rfl
 ·rintro ρ ⟨s6,s7,rfl⟩
  rw [List.take_length]
  exact hq
theorem ok_law_first (dn:DefN K mg "_law_first" s_law_first ["_law_rows_here"]) (B:BI mg):OkN P w K mg base 1 "_law_first" ["_law_rows_here"] (spA K SLFirst):=by
 refine dn.aok2 (k:=0) sc_law_first (fun j=>j == 0) [.un,.un] SLFirst rfl (fun f cdv A outer s H E hr=>have hu:=hu_of hr; ⟨_,(pss_cons (ps_set (i:=1) sc_law_first.nd rfl (by first | exact Or.inl rfl | exact Or.inr rfl) (pe_lst pa_nil))
  (pss_cons (ps_for PassesOwn.never rfl (pi_seqK K (pv 0)) (pg_name (i:=2) sc_law_first.nd rfl (by first | exact Or.inl rfl | exact Or.inr rfl))
  (pss_one (ps_expr (pe_bmK K PySem.F.plainAttrs_list PySem.F.slot_list_append PySem.F.type_list_append mt_append (pv 1) (pa_cons (pe_bmK K PySem.F.plainAttrs_list PySem.F.slot_list_index PySem.F.type_list_index (mt_index K) (pv 0) (pa_cons (pv 2) pa_nil)) pa_nil)))))
  (pss_one (ps_ret (pv 1))))),(sok_seq (sok_set (tok_lst taok_nil) rfl)
  (sok_seq (sok_for (pin:=(fun j=>j == 0)) (tiok_seq tok_var) (tgok_name rfl)
  (sok_drop (tok_app tok_var (taok_cons (tok_idx tok_var (taok_cons tok_var taok_nil)) taok_nil))))
  (sok_ret tok_var)))⟩) ?_
 rintro ss q ⟨R,rfl,hR,hq⟩
 refine ⟨rfl,rfl,?_⟩
 refine ⟨by simp,?_⟩
 refine forA_lst nD (fun k ρ=>∃ s2,ρ = [.vl (.lst (natsD R)),.ow (natsD ((stN R).take k)),s2]) (fun _ _ _=>trivial) ?_ ?_ ⟨.un,rfl⟩
 ·rintro k r _ M hk ⟨s2,rfl⟩ hM
  have lt:k < R.length:=(List.getElem?_eq_some_iff.mp hk).1
  have er:R.getD k 0 = r:=by rw [List.getD_eq_getElem?_getD,hk]; rfl
  have es:(stN R).take (k + 1) = (stN R).take k ++ [R.idxOf r]:=by
   rw [List.take_add_one]
   congr 1
   have:(stN R)[k]? = some (fst1 R k):=by simp [stN,lt]
   rw [this]; unfold fst1; rw [er]; rfl
  refine idx_ok (List.mem_of_getElem? hk) hR ⟨rfl,by rw [natsD_len,List.length_take,stN_len]; omega,hM _ ⟨nv r,?_⟩⟩
  rw [es,natsD_snoc]; rfl
 ·rintro _ ⟨s2,rfl⟩
  rw [List.take_of_length_le (by rw [stN_len]; exact Nat.le_refl _)]
  exact hq
theorem ok_law_leaned (dn:DefN K mg "_law_leaned" s_law_leaned ["_law_net_here", "_law_first_here", "_law_outs"]) (B:BI mg):OkN P w K mg base 1 "_law_leaned" ["_law_net_here", "_law_first_here", "_law_outs"] (spA K SLLean):=by
 refine dn.aok2 (k:=0) sc_law_leaned (fun j=>j == 0 || j == 1 || j == 2) [.un,.un,.un,.un,.un] SLLean rfl (fun f cdv A outer s H E hr=>have hu:=hu_of hr; ⟨_,(pss_cons (ps_set (i:=3) sc_law_leaned.nd rfl (by first | exact Or.inl rfl | exact Or.inr rfl) pe_dnewK)
  (pss_cons (ps_set (i:=4) sc_law_leaned.nd rfl (by first | exact Or.inl rfl | exact Or.inr rfl) (pe_callTy (call_listK K) rfl B.list_ bt_list (pa_cons (pv 2) pa_nil)))
  (pss_cons (ps_while PassesOwn.never (pt_cmpR (op_neD K hr.units) (pv 4) (pe_lst pa_nil) (nomark _))
  (pss_cons (ps_set (i:=5) sc_law_leaned.nd rfl (by first | exact Or.inl rfl | exact Or.inr rfl) (pe_bm0K K PySem.F.plainAttrs_list PySem.F.slot_list_pop PySem.F.type_list_pop mt_pop (pv 4)))
  (pss_one (ps_if (pt_cmp (pc_dnotin hu (pv 5) (pv 3)))
  (pss_cons (ps_dput hu (pv 3) (pv 5) pe_bl rfl)
  (pss_one (ps_if (pt_cmpR op_ge (pv 5) (pe_ix (ix_seqK K) (pv 0) pe_int (fun _ _=>rfl)) (nomark _))
  (pss_cons (ps_asg (pe_ix (ix_seqK K) (pe_ix (ix_seqK K) (pv 0) pe_int (fun _ _=>rfl)) (pe_op op_sub (pv 5) (pe_ix (ix_seqK K) (pv 0) pe_int (fun _ _=>rfl))) (fun _ _=>rfl)) (pg_tupK K (n:=2) rfl (pgs_cons (pg_name (i:=6) sc_law_leaned.nd rfl (by first | exact Or.inl rfl | exact Or.inr rfl)) (pgs_cons (pg_name (i:=7) sc_law_leaned.nd rfl (by first | exact Or.inl rfl | exact Or.inr rfl)) pgs_nil))))
  (pss_one (ps_set (i:=4) sc_law_leaned.nd rfl (by first | exact Or.inl rfl | exact Or.inr rfl) (pe_op (op_catL K) (pv 4) (pe_lst (pa_cons (pe_ix (ix_seqK K) (pv 1) (pv 6) (fun _ _=>rfl)) (pa_cons (pe_ix (ix_seqK K) (pv 1) (pv 7) (fun _ _=>rfl)) pa_nil)))))))
  pss_nil)))
  pss_nil))))
  (pss_one (ps_ret (pe_callB (call_sortedL K) rfl B.sorted_ bt_sorted (pa_cons (pe_comp ["_law_thing"] [0] rfl (Blk.of (defScope s_law_leaned) nm_law_leaned) (pi_keys (pv 3)) (fun _ _ _ _ nd=>(pg_name (i:=0) nd rfl (by first | exact Or.inl rfl | exact Or.inr rfl))) (fun _ _ _ _=>(pts_one (pt_cmpR op_ge (pv 0) (pe_ix (ix_seqK K) (pv 1) pe_int (fun _ _=>rfl)) (nomark _)))) (fun _ _ _ _=>(pv 0))) pa_nil))))))),(sok_seq (sok_set tok_dnew rfl)
  (sok_seq (sok_set (tok_cb cbok_list (taok_cons tok_var taok_nil)) rfl)
  (sok_seq (sok_while (ttok_test (tok_op ook_ne tok_var (tok_lst taok_nil)))
  (sok_seq (sok_set (tok_pop tok_var) rfl)
  (sok_if (ttok_test (tok_dnotin tok_var tok_var))
  (sok_seq (sok_dput tok_bl tok_var tok_var)
  (sok_if (ttok_test (tok_op ook_bl0 tok_var (tok_op ook_ix tok_var tok_int)))
  (sok_seq (sok_asg (tok_op ook_ix (tok_op ook_ix tok_var tok_int) (tok_op ook_int0 tok_var (tok_op ook_ix tok_var tok_int))) (tgok_tup (tgsok_cons (tgok_name rfl) (tgsok_cons (tgok_name rfl) tgsok_nil (fun _ _ _=>gl_name)) (fun _ _ _=>gl_name))))
  (sok_set (tok_op ook_cat tok_var (tok_lst (taok_cons (tok_op ook_ix tok_var tok_var) (taok_cons (tok_op ook_ix tok_var tok_var) taok_nil)))) rfl))
  sok_next))
  sok_next)))
  (sok_ret (tok_cb cbok_sortedL (taok_cons (tok_comp (tiok_keys tok_var) (tgok_name rfl) (ttok_test (tok_op ook_bl0 tok_var (tok_op ook_ix tok_var tok_int))) tok_var) taok_nil))))))⟩) ?_
 rintro ss q ⟨N,rfl,hN,hq⟩
 have Rw:=rws_of hN
 have jl:=hN.jl
 have m12:=hN.m12
 have o24:=hN.o24
 have hlr:(rowsN N).length = N.m + N.js.length:=rows_len N
 refine ⟨rfl,rfl,?_⟩
 refine cutS (fun ρ=>ρ = [.vl (netD N),.ow (natsD (stN (rowsN N))),.ow (natsD (N.os.map (fT N))),.dk [],.un,.un,.un,.un]) (fun M hM=>hM _ rfl) ?_
 rintro _ rfl
 refine cutS (fun ρ=>ρ = [.vl (netD N),.ow (natsD (stN (rowsN N))),.ow (natsD (N.os.map (fT N))),.dk [],.ow (natsD (N.os.map (fT N))),.un,.un,.un]) (fun M hM=>hM _ rfl) ?_
 rintro _ rfl
 refine cutS (fun ρ=>∃ ks s5 s6 s7,ρ = [.vl (netD N),.ow (natsD (stN (rowsN N))),.ow (natsD (N.os.map (fT N))),.dk (mkM ks),.ow [],s5,s6,s7]∧Wk N ks []) (fun M hM=>whA_inv (fun ρ=>∃ ks ws s5 s6 s7,ρ = [.vl (netD N),.ow (natsD (stN (rowsN N))),.ow (natsD (N.os.map (fT N))),.dk (mkM ks),.ow (natsD ws),s5,s6,s7]∧Wk N ks ws∧ws.length ≤ 24 + 2 * ks.length) (fun ρ=>match ρ with | [_,_,_,.dk kvs,.ow ws,_,_,_]=>3 * (200 - kvs.length) + ws.length | _=>0) ?_ _ ⟨[],_,.un,.un,.un,rfl,Wk.start,by simp; omega⟩) ?_
 ·rintro _ M2 ⟨ks,ws,s5,s6,s7,rfl,hw,hl⟩ hM2
  have hkl:=hw.le hN
  refine ⟨by simp,gEq_ok (b:=decide (ws = [])) rfl rfl ?_ ?_ ?_⟩
  ·exact depth_natsL _
  ·cases ws with
   | nil=>rfl
   | cons a r=>rfl
  rcases List.eq_nil_or_concat ws with e | ⟨ws',t,e⟩
  ·subst e
   exact hM _ ⟨ks,s5,s6,s7,rfl,hw⟩
  ·rw [List.concat_eq_append] at e
   subst e
   have hn:decide (ws' ++ [t] = []) = false:=by simp
   rw [hn]
   have hmt:=hw.mw t (by simp)
   obtain ⟨tl,tf⟩:=mark_lt Rw hN.os hmt
   simp only [if_true,Bool.not_false]
   refine cutS (fun ρ=>ρ = [.vl (netD N),.ow (natsD (stN (rowsN N))),.ow (natsD (N.os.map (fT N))),.dk (mkM ks),.ow (natsD ws'),nv t,s6,s7]) (fun M3 hM3=>by rw [natsD_snoc]; exact gPop_ok (hM3 _ rfl)) ?_
   rintro _ rfl
   rw [natsD_snoc] at hM2
   show aIfS _ _ _ _ [.vl (netD N),.ow (natsD (stN (rowsN N))),.ow (natsD (N.os.map (fT N))),.dk (mkM ks),.ow (natsD ws'),nv t,s6,s7]
   have hv:=mkM_val t ks
   have mlen:∀ l:List Nat,(mkM l).length = l.length:=fun l=>by simp [mkM]
   refine ite2 (fun h=>?_) fun h=>?_
   ·have h':t ∉ ks:=fun z=>by
     have:(!(valD (mkM ks) (.inl (t:Int))).isSome) = true:=h
     rw [hv,List.contains_iff_mem.mpr z] at this
     cases this
    have hwn:∀ us:List Nat,(∀ u ∈ us,markT N u = true)→(∀ j p,N.js[j]? = some p→N.m + j = t→fT N p.1 ∈ us∧fT N p.2 ∈ us)→Wk N (ks ++ [t]) (ws' ++ us):=fun us h1 h2=>hw.new h' h1 h2
    have hl2:(ks ++ [t]).length = ks.length + 1:=by simp
    have hl3:(ws' ++ [t]).length = ws'.length + 1:=by simp
    refine cutS (fun ρ=>ρ = [.vl (netD N),.ow (natsD (stN (rowsN N))),.ow (natsD (N.os.map (fT N))),.dk (mkM (ks ++ [t])),.ow (natsD ws'),nv t,s6,s7]) (fun M3 hM3=>⟨by rw [mlen]; omega,hM3 _ (by rw [← mkM_put h']; rfl)⟩) ?_
    rintro _ rfl
    show aIfS _ _ _ _ [.vl (netD N),.ow (natsD (stN (rowsN N))),.ow (natsD (N.os.map (fT N))),.dk (mkM (ks ++ [t])),.ow (natsD ws'),nv t,s6,s7]
    refine gIx_t rfl rfl (ite2 (fun g=>?_) fun g=>?_)
    ·have g':N.m ≤ t:=by have:=of_decide_eq_true g; omega
     obtain ⟨k,rfl⟩:∃ k,t = N.m + k:=⟨t - N.m,by omega⟩
     have ep:N.js[k]? = some (N.js[k]'(by omega)):=List.getElem?_eq_getElem _
     generalize N.js[k]'(by omega) = p at ep
     obtain ⟨a1,a2,a3⟩:=js_lt Rw ep
     obtain ⟨m1,m2⟩:=mark_on Rw ep hmt
     have hw3:=hwn [fT N p.1,fT N p.2] (fun u hu=>by
      simp only [List.mem_cons,List.not_mem_nil,or_false] at hu
      rcases hu with rfl | rfl
      ·exact m1
      ·exact m2) (fun j p' e z=>by
      have:j = k:=by omega
      subst this
      rw [ep] at e
      cases e
      exact ⟨by simp,by simp⟩)
     refine gIx_t (i:=1) (ds:=[nD N.m,.tup (N.js.map L2.pairD),.tup (natsD N.os)]) (d:=.tup (N.js.map L2.pairD)) rfl rfl ?_
     refine gIx_t (i:=0) (ds:=[nD N.m,.tup (N.js.map L2.pairD),.tup (natsD N.os)]) (d:=nD N.m) rfl rfl ?_
     refine gIx_tz (i:=k) (d:=L2.pairD p) (ds:=N.js.map L2.pairD) (by omega) rfl (by rw [List.getElem?_map,ep]; rfl) ?_
     refine gIx_nats rfl (by rw [stN_len]; omega) ?_
     refine gIx_nats rfl (by rw [stN_len]; omega) ?_
     rw [stN_at (by omega),stN_at (by omega)]
     refine ⟨by simp,by rw [natsD_len]; simp; omega,hM2 _ ⟨ks ++ [N.m + k],ws' ++ [fT N p.1,fT N p.2],nv (N.m + k),nv p.1,nv p.2,?_,hw3,?_⟩ ?_⟩
     ·show [Sv.vl (netD N),.ow (natsD (stN (rowsN N))),.ow (natsD (N.os.map (fT N))),.dk (mkM (ks ++ [N.m + k])),.ow (natsD ws' ++ [nD (fT N p.1),nD (fT N p.2)]),_,_,_] = _
      rw [show natsD (ws' ++ [fT N p.1,fT N p.2]) = natsD ws' ++ [nD (fT N p.1),nD (fT N p.2)] by unfold natsD; rw [List.map_append]; rfl]
     ·simp; omega
     ·show 3 * (200 - (mkM (ks ++ [N.m + k])).length) + (natsD ws' ++ [nD (fT N p.1),nD (fT N p.2)]).length < 3 * (200 - (mkM ks).length) + (natsD ws' ++ [_]).length
      have hle:=hw3.le hN
      rw [mlen,mlen]
      simp only [List.length_append,List.length_cons,List.length_nil] at hle ⊢
      omega
    ·have g':t < N.m:=by
      rcases Nat.lt_or_ge t N.m with z | z
      ·exact z
      ·exact absurd (decide_eq_true (by omega)) g
     have hw3:=hwn [] (fun _ q=>nomatch q) (fun j p e z=>by omega)
     refine hM2 _ ⟨ks ++ [t],ws',nv t,s6,s7,rfl,by simpa using hw3,by omega⟩ ?_
     show 3 * (200 - (mkM (ks ++ [t])).length) + (natsD ws').length < 3 * (200 - (mkM ks).length) + (natsD ws' ++ [_]).length
     have hle:=hw3.le hN
     rw [mlen,mlen]
     simp only [List.length_append,List.length_cons,List.length_nil] at hle ⊢
     omega
   ·have h':t ∈ ks:=by
     have:¬ (!(valD (mkM ks) (.inl (t:Int))).isSome) = true:=h
     rw [hv] at this
     simpa using this
    refine hM2 _ ⟨ks,ws',nv t,s6,s7,rfl,hw.old h',by simp at hl; omega⟩ ?_
    show 3 * (200 - (mkM ks).length) + (natsD ws').length < 3 * (200 - (mkM ks).length) + (natsD ws' ++ [_]).length
    simp
 rintro _ ⟨ks,s5,s6,s7,rfl,hw⟩
 have hkl:=hw.le hN
 have mb:∀ t,markT N t = true→t < N.m + N.js.length:=fun t h=>(mark_lt Rw hN.os h).1
 have ek:(mkM ks).map (fun p=>kD p.1) = ks.map nD:=by unfold mkM; rw [List.map_map]; rfl
 refine ⟨by rw [List.length_map]; simp [mkM]; omega,?_⟩
 rw [ek]
 refine compA_flt nD (fun t=>decide (N.m ≤ t)) nD trivial (fun t acc M ht hM=>?_) ?_
 ·refine gIx_t rfl rfl ?_
  refine ite2 (fun g=>?_) fun g=>?_
  ·rw [if_pos (decide_eq_true (show N.m ≤ t by have:=of_decide_eq_true g; omega))] at hM
   exact hM
  ·rw [if_neg (fun z=>g (decide_eq_true (by have:=of_decide_eq_true z; omega)))] at hM
   exact hM
 ·refine gSortedL_ok (ns:=(ks.filter fun t=>decide (N.m ≤ t)).map fun x=>((x:Nat):Int)) (by rw [show (ks.filter fun t=>decide (N.m ≤ t)).map nD = ((ks.filter fun t=>decide (N.m ≤ t)).map fun x=>((x:Nat):Int)).map D.int by rw [List.map_map]; rfl]; rfl) ?_ fun ns' pm up=>?_
  ·rw [List.length_map]
   have:=List.length_filter_le (fun t=>decide (N.m ≤ t)) ks
   omega
  ·have:=kpL_sort hw.nd (fun t=>hw.fin hN) mb pm up
   subst this
   rw [← ei_nats]
   exact hq
theorem ok_law_due (dn:DefN K mg "_law_due" s_law_due ["_law_net_here"]) (B:BI mg) (g_law_first:OkN P w K mg base 1 "_law_first" ["_law_rows_here"] (spA K SLFirst)) (g_law_leaned:OkN P w K mg base 1 "_law_leaned" ["_law_net_here", "_law_first_here", "_law_outs"] (spA K SLLean)) (g_law_rows:OkN P w K mg base 1 "_law_rows" ["_law_net_here"] (spA K SRowsOf)):OkN P w K mg base 2 "_law_due" ["_law_net_here"] (spA K SLDue):=by
 refine dn.aok2 (k:=1) sc_law_due (fun j=>j == 0) [.un,.un,.un,.un,.un,.un,.un,.un,.un,.un,.un] SLDue rfl (fun f cdv A outer s H E hr=>have hu:=hu_of hr; ⟨_,(pss_cons (ps_set (i:=1) sc_law_due.nd rfl (by first | exact Or.inl rfl | exact Or.inr rfl) (pe_fn g_law_first (hr.mono (by decide)) (pa_cons (pe_fn g_law_rows (hr.mono (by decide)) (pa_cons (pv 0) pa_nil)) pa_nil)))
  (pss_cons (ps_setC (i:=2) ["_law_out"] [1] sc_law_due.nd rfl (by first | exact Or.inl rfl | exact Or.inr rfl) rfl (Blk.of (defScope s_law_due) nm_law_due) (pi_seqK K (pe_ix (ix_seqK K) (pv 0) pe_int (fun _ _=>rfl))) (fun _ _ _ _ nd=>(pg_name (i:=0) nd rfl (by first | exact Or.inl rfl | exact Or.inr rfl))) (fun _ _ _ _=>pts_nil) (fun _ _ _ _=>(pe_ix (ix_seqK K) (pv 1) (pv 0) (fun _ _=>rfl))))
  (pss_cons (ps_set (i:=3) sc_law_due.nd rfl (by first | exact Or.inl rfl | exact Or.inr rfl) (pe_fn g_law_leaned (hr.mono (by decide)) (pa_cons (pv 0) (pa_cons (pv 1) (pa_cons (pv 2) pa_nil)))))
  (pss_cons (ps_set (i:=4) sc_law_due.nd rfl (by first | exact Or.inl rfl | exact Or.inr rfl) pe_dnewK)
  (pss_cons (ps_for PassesOwn.never rfl (pi_range1 rfl B.range_ (pa_cons (pe_ix (ix_seqK K) (pv 0) pe_int (fun _ _=>rfl)) pa_nil)) (pg_name (i:=5) sc_law_due.nd rfl (by first | exact Or.inl rfl | exact Or.inr rfl))
  (pss_one (ps_dput hu (pv 4) (pv 5) (pv 5) rfl)))
  (pss_cons (ps_for PassesOwn.never rfl (pi_range1 rfl B.range_ (pa_cons (pe_callB (call_lenK K) rfl B.len_ bt_len (pa_cons (pv 3) pa_nil)) pa_nil)) (pg_name (i:=6) sc_law_due.nd rfl (by first | exact Or.inl rfl | exact Or.inr rfl))
  (pss_one (ps_dput hu (pv 4) (pe_ix (ix_seqK K) (pv 3) (pv 6) (fun _ _=>rfl)) (pe_op op_add (pe_ix (ix_seqK K) (pv 0) pe_int (fun _ _=>rfl)) (pv 6)) rfl)))
  (pss_cons (ps_set (i:=7) sc_law_due.nd rfl (by first | exact Or.inl rfl | exact Or.inr rfl) (pe_lst pa_nil))
  (pss_cons (ps_for PassesOwn.never rfl (pi_seqK K (pv 3)) (pg_name (i:=8) sc_law_due.nd rfl (by first | exact Or.inl rfl | exact Or.inr rfl))
  (pss_cons (ps_asg (pe_ix (ix_seqK K) (pe_ix (ix_seqK K) (pv 0) pe_int (fun _ _=>rfl)) (pe_op op_sub (pv 8) (pe_ix (ix_seqK K) (pv 0) pe_int (fun _ _=>rfl))) (fun _ _=>rfl)) (pg_tupK K (n:=2) rfl (pgs_cons (pg_name (i:=9) sc_law_due.nd rfl (by first | exact Or.inl rfl | exact Or.inr rfl)) (pgs_cons (pg_name (i:=10) sc_law_due.nd rfl (by first | exact Or.inl rfl | exact Or.inr rfl)) pgs_nil))))
  (pss_cons (ps_set (i:=11) sc_law_due.nd rfl (by first | exact Or.inl rfl | exact Or.inr rfl) (pe_callB (call_sorted K) rfl B.sorted_ bt_sorted (pa_cons (pe_lst (pa_cons (pe_dget hu (pv 4) (pe_ix (ix_seqK K) (pv 1) (pv 9) (fun _ _=>rfl)) (fun _ _=>rfl)) (pa_cons (pe_dget hu (pv 4) (pe_ix (ix_seqK K) (pv 1) (pv 10) (fun _ _=>rfl)) (fun _ _=>rfl)) pa_nil))) pa_nil)))
  (pss_one (ps_expr (pe_bmK K PySem.F.plainAttrs_list PySem.F.slot_list_append PySem.F.type_list_append mt_append (pv 7) (pa_cons (pe_tup (pa_cons (pe_ix (ix_seqK K) (pv 11) pe_int (fun _ _=>rfl)) (pa_cons (pe_ix (ix_seqK K) (pv 11) pe_int (fun _ _=>rfl)) pa_nil))) pa_nil)))))))
  (pss_one (ps_ret (pe_tup (pa_cons (pe_ix (ix_seqK K) (pv 0) pe_int (fun _ _=>rfl)) (pa_cons (pe_callTy (call_tupleK K) rfl B.tuple_ bt_tuple (pa_cons (pv 7) pa_nil)) (pa_cons (pe_callTy (call_tupleK K) rfl B.tuple_ bt_tuple (pa_cons (pe_comp ["_law_out"] [4] rfl (Blk.of (defScope s_law_due) nm_law_due) (pi_seqK K (pv 2)) (fun _ _ _ _ nd=>(pg_name (i:=0) nd rfl (by first | exact Or.inl rfl | exact Or.inr rfl))) (fun _ _ _ _=>pts_nil) (fun _ _ _ _=>(pe_dget hu (pv 1) (pv 0) (fun _ _=>rfl)))) pa_nil)) pa_nil)))))))))))))),(sok_seq (sok_set (tok_call (taok_cons (tok_call (taok_cons tok_var taok_nil)) taok_nil)) rfl)
  (sok_seq (sok_setC (tok_comp (tiok_seq (tok_op ook_ix tok_var tok_int)) (tgok_name rfl) ttok_all (tok_op ook_ix tok_var tok_var)) rfl)
  (sok_seq (sok_set (tok_call (taok_cons tok_var (taok_cons tok_var (taok_cons tok_var taok_nil)))) rfl)
  (sok_seq (sok_set tok_dnew rfl)
  (sok_seq (sok_for (pin:=(fun _=>false)) (tiok_rng1 (taok_cons (tok_op ook_ix tok_var tok_int) taok_nil)) (tgok_name rfl)
  (sok_dput tok_var tok_var tok_var))
  (sok_seq (sok_for (pin:=(fun _=>false)) (tiok_rng1 (taok_cons (tok_cb cbok_len (taok_cons tok_var taok_nil)) taok_nil)) (tgok_name rfl)
  (sok_dput (tok_op ook_int0 (tok_op ook_ix tok_var tok_int) tok_var) tok_var (tok_op ook_ix tok_var tok_var)))
  (sok_seq (sok_set (tok_lst taok_nil) rfl)
  (sok_seq (sok_for (pin:=(fun j=>j == 3)) (tiok_seq tok_var) (tgok_name rfl)
  (sok_seq (sok_asg (tok_op ook_ix (tok_op ook_ix tok_var tok_int) (tok_op ook_int0 tok_var (tok_op ook_ix tok_var tok_int))) (tgok_tup (tgsok_cons (tgok_name rfl) (tgsok_cons (tgok_name rfl) tgsok_nil (fun _ _ _=>gl_name)) (fun _ _ _=>gl_name))))
  (sok_seq (sok_set (tok_cb cbok_sorted (taok_cons (tok_lst (taok_cons (tok_dget tok_var (tok_op ook_ix tok_var tok_var)) (taok_cons (tok_dget tok_var (tok_op ook_ix tok_var tok_var)) taok_nil))) taok_nil)) rfl)
  (sok_drop (tok_app tok_var (taok_cons (tok_tup (taok_cons (tok_op ook_ix tok_var tok_int) (taok_cons (tok_op ook_ix tok_var tok_int) taok_nil))) taok_nil))))))
  (sok_ret (tok_tup (taok_cons (tok_op ook_ix tok_var tok_int) (taok_cons (tok_cb cbok_tuple (taok_cons tok_var taok_nil)) (taok_cons (tok_cb cbok_tuple (taok_cons (tok_comp (tiok_seq tok_var) (tgok_name rfl) ttok_all (tok_dget tok_var tok_var)) taok_nil)) taok_nil)))))))))))))⟩) ?_
 rintro ss q ⟨N,rfl,hN,hq⟩
 have Rw:=rws_of hN
 have jl:=hN.jl
 have m12:=hN.m12
 have o24:=hN.o24
 have hlr:(rowsN N).length = N.m + N.js.length:=rows_len N
 refine ⟨rfl,rfl,?_⟩
 refine cutS (fun ρ=>ρ = [.vl (netD N),.ow (natsD (stN (rowsN N))),.un,.un,.un,.un,.un,.un,.un,.un,.un,.un]) (fun M hM=>⟨rfl,N,rfl,Rw.ix,by omega,rfl,rowsN N,rfl,by omega,hM _ rfl⟩) ?_
 rintro _ rfl
 refine cutS (fun ρ=>ρ = [.vl (netD N),.ow (natsD (stN (rowsN N))),.ow (natsD (N.os.map (fT N))),.un,.un,.un,.un,.un,.un,.un,.un,.un]) (fun M hM=>gIx_t rfl rfl ⟨by rw [natsD_len]; omega,compA_lst nD (fun o=>nD (fT N o)) trivial (fun o acc M2 ho hM2=>?_) ?_⟩) ?_
 ·have:=hN.os o ho
  refine gIx_nats rfl (by rw [stN_len]; omega) ?_
  rw [stN_at (by omega)]
  exact hM2
 ·have e:(N.os.map fun o=>nD (fT N o)) = natsD (N.os.map (fT N)):=by unfold natsD; rw [List.map_map]; rfl
  rw [e]
  exact hM _ rfl
 rintro _ rfl
 refine cutS (fun ρ=>ρ = [.vl (netD N),.ow (natsD (stN (rowsN N))),.ow (natsD (N.os.map (fT N))),.ow (natsD (kpL N N.js.length)),.un,.un,.un,.un,.un,.un,.un,.un]) (fun M hM=>⟨rfl,N,rfl,hN,hM _ rfl⟩) ?_
 rintro _ rfl
 have kl:(kpL N N.js.length).length ≤ N.js.length:=by rw [kpL_len]; exact nk_le _
 refine cutS (fun ρ=>ρ = [.vl (netD N),.ow (natsD (stN (rowsN N))),.ow (natsD (N.os.map (fT N))),.ow (natsD (kpL N N.js.length)),.dk [],.un,.un,.un,.un,.un,.un,.un]) (fun M hM=>hM _ rfl) ?_
 rintro _ rfl
 refine cutS (fun ρ=>∃ kvs s5,ρ = [.vl (netD N),.ow (natsD (stN (rowsN N))),.ow (natsD (N.os.map (fT N))),.ow (natsD (kpL N N.js.length)),.dk kvs,s5,.un,.un,.un,.un,.un,.un]∧plD N 0 kvs∧kvs.length ≤ 12) (fun M hM=>?_) ?_
 ·refine gIx_t rfl rfl ⟨⟨by omega,by omega⟩,?_⟩
  refine forA_rng (fun k ρ=>∃ kvs s5,ρ = [.vl (netD N),.ow (natsD (stN (rowsN N))),.ow (natsD (N.os.map (fT N))),.ow (natsD (kpL N N.js.length)),.dk kvs,s5,.un,.un,.un,.un,.un,.un]∧(∀ x:Nat,x < k→valD kvs (.inl (x:Int)) = some (nD x))∧kvs.length ≤ k) (fun _ _ _=>trivial) ?_ ?_ ⟨[],.un,rfl,fun x hx=>by omega,Nat.le_refl _⟩
  ·rintro k _ M2 hk ⟨kvs,s5,rfl,h1,h2⟩ hM2
   rw [Int.toNat_natCast] at hk
   rw [Int.zero_add]
   refine ⟨by omega,hM2 _ ⟨_,nv k,rfl,fun x hx=>?_,?_⟩⟩
   ·rw [val_putD]
    by_cases e:x = k
    ·subst e; rw [if_pos rfl]
    ·have:¬ (Sum.inl (x:Int):Key) = .inl (k:Int):=fun z=>e (by injection z with z; omega)
     rw [if_neg this]
     exact h1 x (by omega)
   ·exact Nat.le_trans (putD_len _ _ _) (by omega)
  ·rintro _ ⟨kvs,s5,rfl,h1,h2⟩
   rw [Int.toNat_natCast] at h1 h2
   refine hM _ ⟨kvs,s5,rfl,fun x hx=>?_,by omega⟩
   rcases hx with hx | hx
   ·rw [h1 x hx]; unfold nbT; rw [if_pos hx]
   ·simp at hx
 rintro _ ⟨kvs,s5,rfl,hp0,hl0⟩
 refine cutS (fun ρ=>∃ kvs s6,ρ = [.vl (netD N),.ow (natsD (stN (rowsN N))),.ow (natsD (N.os.map (fT N))),.ow (natsD (kpL N N.js.length)),.dk kvs,s5,s6,.un,.un,.un,.un,.un]∧plD N (kpL N N.js.length).length kvs∧kvs.length ≤ 200) (fun M hM=>?_) ?_
 ·refine ⟨⟨by omega,by rw [natsD_len]; omega⟩,?_⟩
  refine forA_rng (fun k ρ=>∃ kvs s6,ρ = [.vl (netD N),.ow (natsD (stN (rowsN N))),.ow (natsD (N.os.map (fT N))),.ow (natsD (kpL N N.js.length)),.dk kvs,s5,s6,.un,.un,.un,.un,.un]∧plD N k kvs∧kvs.length ≤ 12 + k) (fun _ _ _=>trivial) ?_ ?_ ⟨kvs,.un,rfl,hp0,by omega⟩
  ·rintro k _ M2 hk ⟨kvs,s6,rfl,h1,h2⟩ hM2
   rw [Int.toNat_natCast,natsD_len] at hk
   rw [Int.zero_add]
   have ex:(kpL N N.js.length)[k]? = some (kpL N N.js.length)[k]:=List.getElem?_eq_getElem hk
   have gx:(kpL N N.js.length).getD k 0 = (kpL N N.js.length)[k]:=gd_eq hk
   generalize (kpL N N.js.length)[k] = x at ex gx
   have nx:=kpL_at ex
   refine gIx_t (i:=0) (ds:=[nD N.m,.tup (N.js.map L2.pairD),.tup (natsD N.os)]) (d:=nD N.m) rfl rfl ?_
   refine gIx_nats rfl (by omega) ⟨by omega,hM2 _ ⟨_,nv k,rfl,fun y hy=>?_,?_⟩⟩
   ·rw [val_putD,gx]
    by_cases e:y = x
    ·subst e; rw [if_pos rfl,nx]; congr 2
    ·have:¬ (Sum.inl (y:Int):Key) = .inl (x:Int):=fun z=>e (by injection z with z; omega)
     rw [if_neg this]
     refine h1 y (hy.imp id fun q=>?_)
     rw [List.take_add_one,ex] at q
     rcases List.mem_append.mp q with q | q
     ·exact q
     ·exact absurd (by simpa using q) e
   ·exact Nat.le_trans (putD_len _ _ _) (by omega)
  ·rintro _ ⟨kvs,s6,rfl,h1,h2⟩
   rw [Int.toNat_natCast,natsD_len] at h1 h2
   exact hM _ ⟨kvs,s6,rfl,h1,by omega⟩
 rintro _ ⟨kvs,s6,rfl,hp,hl⟩
 have val:∀ x,x < N.m + N.js.length→(x < N.m ∨ markT N x = true)→valD kvs (.inl (x:Int)) = some (nD (nbT N.m (markT N) x)):=fun x h1 h2=>by
  refine hp x ?_
  rcases Nat.lt_or_ge x N.m with g | g
  ·exact .inl g
  ·rw [List.take_length]
   exact .inr (kpL_mem.mpr ⟨g,h1,h2.resolve_left (by omega)⟩)
 refine cutS (fun ρ=>ρ = [.vl (netD N),.ow (natsD (stN (rowsN N))),.ow (natsD (N.os.map (fT N))),.ow (natsD (kpL N N.js.length)),.dk kvs,s5,s6,.ow [],.un,.un,.un,.un]) (fun M hM=>⟨by simp,hM _ rfl⟩) ?_
 rintro _ rfl
 refine cutS (fun ρ=>∃ s8 s9 s10 s11,ρ = [.vl (netD N),.ow (natsD (stN (rowsN N))),.ow (natsD (N.os.map (fT N))),.ow (natsD (kpL N N.js.length)),.dk kvs,s5,s6,.ow ((tidN N).js.map L2.pairD),s8,s9,s10,s11]) (fun M hM=>?_) ?_
 ·refine ⟨rfl,forA_lst nD (fun k ρ=>∃ s8 s9 s10 s11,ρ = [.vl (netD N),.ow (natsD (stN (rowsN N))),.ow (natsD (N.os.map (fT N))),.ow (natsD (kpL N N.js.length)),.dk kvs,s5,s6,.ow ((((kpL N N.js.length).take k).map fun t=>newJ N.m (fT N) (markT N) (N.js.getD (t - N.m) (0,0))).map L2.pairD),s8,s9,s10,s11]) (fun _ _ ⟨_,_,_,_,e⟩=>by subst e; rfl) ?_ ?_ ⟨.un,.un,.un,.un,rfl⟩⟩
  ·rintro k t _ M2 hk ⟨s8,s9,s10,s11,rfl⟩ hM2
   have lk:=(List.getElem?_eq_some_iff.mp hk).1
   obtain ⟨t1,t2,t3⟩:=kpL_mem.mp (List.mem_of_getElem? hk)
   obtain ⟨j,rfl⟩:∃ j,t = N.m + j:=⟨t - N.m,by omega⟩
   have ep:N.js[j]? = some (N.js[j]'(by omega)):=List.getElem?_eq_getElem _
   generalize N.js[j]'(by omega) = p at ep
   have ejs:N.js.getD (N.m + j - N.m) (0,0) = p:=by rw [show N.m + j - N.m = j by omega,List.getD_eq_getElem?_getD,ep]; rfl
   obtain ⟨a1,a2,a3⟩:=js_lt Rw ep
   obtain ⟨f1,f2⟩:=f_lt Rw ep
   obtain ⟨m1,m2⟩:=mark_on Rw ep t3
   have tl:(((kpL N N.js.length).take k).map fun t=>newJ N.m (fT N) (markT N) (N.js.getD (t - N.m) (0,0))).length ≤ k:=by simp; omega
   have et:((kpL N N.js.length).take (k + 1)).map (fun t=>newJ N.m (fT N) (markT N) (N.js.getD (t - N.m) (0,0))) = ((kpL N N.js.length).take k).map (fun t=>newJ N.m (fT N) (markT N) (N.js.getD (t - N.m) (0,0))) ++ [newJ N.m (fT N) (markT N) p]:=by
    rw [List.take_add_one,hk,List.map_append,Option.toList_some,List.map_cons,List.map_nil,ejs]
   rw [et] at hM2
   generalize ((kpL N N.js.length).take k).map (fun t=>newJ N.m (fT N) (markT N) (N.js.getD (t - N.m) (0,0))) = js' at tl hM2
   show aSeq _ _ _ [.vl (netD N),.ow (natsD (stN (rowsN N))),.ow (natsD (N.os.map (fT N))),.ow (natsD (kpL N N.js.length)),.dk kvs,s5,s6,.ow (js'.map L2.pairD),nv (N.m + j),s9,s10,s11]
   refine cutS (fun ρ=>ρ = [.vl (netD N),.ow (natsD (stN (rowsN N))),.ow (natsD (N.os.map (fT N))),.ow (natsD (kpL N N.js.length)),.dk kvs,s5,s6,.ow (js'.map L2.pairD),nv (N.m + j),nv p.1,nv p.2,s11]) (fun M3 hM3=>?_) ?_
   ·refine gIx_t (i:=1) (ds:=[nD N.m,.tup (N.js.map L2.pairD),.tup (natsD N.os)]) (d:=.tup (N.js.map L2.pairD)) rfl rfl ?_
    refine gIx_t (i:=0) (ds:=[nD N.m,.tup (N.js.map L2.pairD),.tup (natsD N.os)]) (d:=nD N.m) rfl rfl ?_
    refine gIx_tz (i:=j) (d:=L2.pairD p) (ds:=N.js.map L2.pairD) (by omega) rfl (by rw [List.getElem?_map,ep]; rfl) ?_
    exact hM3 _ rfl
   rintro _ rfl
   refine cutS (fun ρ=>ρ = [.vl (netD N),.ow (natsD (stN (rowsN N))),.ow (natsD (N.os.map (fT N))),.ow (natsD (kpL N N.js.length)),.dk kvs,s5,s6,.ow (js'.map L2.pairD),nv (N.m + j),nv p.1,nv p.2,.ow [nD (newJ N.m (fT N) (markT N) p).1,nD (newJ N.m (fT N) (markT N) p).2]]) (fun M3 hM3=>?_) ?_
   ·refine gIx_nats rfl (by rw [stN_len]; omega) ?_
    refine gDGet_ok (k:=.inl (((stN (rowsN N)).getD p.1 0:Nat):Int)) rfl (by rw [stN_at (by omega)]; exact val _ (show fT N p.1 < _ by omega) (.inr m1)) ?_
    refine gIx_nats rfl (by rw [stN_len]; omega) ?_
    refine gDGet_ok (k:=.inl (((stN (rowsN N)).getD p.2 0:Nat):Int)) rfl (by rw [stN_at (by omega)]; exact val _ (show fT N p.2 < _ by omega) (.inr m2)) ?_
    refine ⟨by simp,?_⟩
    refine gSorted_ok (ns:=[((nbT N.m (markT N) (fT N p.1):Nat):Int),((nbT N.m (markT N) (fT N p.2):Nat):Int)]) rfl (by simp) fun ns' pm up=>?_
    have:=sort2 pm up
    subst this
    exact hM3 _ rfl
   rintro _ rfl
   refine gIx_l rfl rfl (gIx_l rfl rfl ⟨by simp,by rw [List.length_map]; omega,hM2 _ ⟨nv (N.m + j),nv p.1,nv p.2,.ow [nD (newJ N.m (fT N) (markT N) p).1,nD (newJ N.m (fT N) (markT N) p).2],?_⟩⟩)
   rw [List.map_append]
   rfl
  ·rintro _ ⟨s8,s9,s10,s11,rfl⟩
   rw [List.take_length,← kept_kpL]
   exact hM _ ⟨s8,s9,s10,s11,rfl⟩
 rintro _ ⟨s8,s9,s10,s11,rfl⟩
 refine gIx_t rfl rfl ⟨rfl,by rw [natsD_len,List.length_map]; omega,?_⟩
 refine compA_lst nD (fun x=>nD (nbT N.m (markT N) x)) rfl (fun x acc M hx hM=>?_) ?_
 ·obtain ⟨o,ho,rfl⟩:=List.mem_map.mp hx
  have h1:=hN.os o ho
  have h2:=fT_le (N:=N) (t:=o) h1
  exact gDGet_ok rfl (val _ (by omega) (.inr (mark_out ho))) hM
 have e:((N.os.map (fT N)).map fun x=>nD (nbT N.m (markT N) x)) = natsD (tidN N).os:=by
  show _ = natsD (N.os.map _)
  unfold natsD; rw [List.map_map,List.map_map]; rfl
 rw [e]
 exact ⟨by simp,hq⟩
theorem ok_law (dn:DefN K mg "law" s_law ["_law_script"]) (B:BI mg) (g_law_tape:OkN P w K mg base 1 "_law_tape" ["_law_script"] (spA K STape)) (g_law_net:OkN P w K mg base 2 "_law_net" ["_law_tape_here", "_law_most", "_law_joins_most"] (spA K SLawNet)) (g_tidied:OkN P w K mg base 4 "tidied" ["net"] (spA K STid)) (g_law_draw:OkN P w K mg base 1 "_law_draw" ["_law_tape_here", "_law_many"] (spA K SDraw)) (g_is_net:OkN P w K mg base 4 "is_net" ["thing"] (spA K SIsNet)) (g_law_due:OkN P w K mg base 2 "_law_due" ["_law_net_here"] (spA K SLDue)):OkN P w K mg base 5 "law" ["_law_script"] (spA K SLaw):=by
 refine dn.aok2 (k:=4) sc_law (fun j=>j == 0) [.un,.un,.un,.un] SLaw rfl (fun f cdv A outer s H E hr=>have hu:=hu_of hr; ⟨_,(pss_cons (ps_set (i:=1) sc_law.nd rfl (by first | exact Or.inl rfl | exact Or.inr rfl) (pe_fn g_law_tape (hr.mono (by decide)) (pa_cons (pv 0) pa_nil)))
  (pss_cons (ps_set (i:=2) sc_law.nd rfl (by first | exact Or.inl rfl | exact Or.inr rfl) (pe_fn g_law_net (hr.mono (by decide)) (pa_cons (pv 1) (pa_cons pe_int (pa_cons pe_int pa_nil)))))
  (pss_cons (ps_if (pt_cmpR (op_eqD K hr.units) (pe_fn g_law_draw (hr.mono (by decide)) (pa_cons (pv 1) (pa_cons pe_int pa_nil))) pe_int (nomark _))
  (pss_one (ps_set (i:=2) sc_law.nd rfl (by first | exact Or.inl rfl | exact Or.inr rfl) (pe_tup (pa_cons (pe_ix (ix_seqK K) (pv 2) pe_int (fun _ _=>rfl)) (pa_cons (pe_ix (ix_seqK K) (pv 2) pe_int (fun _ _=>rfl)) (pa_cons (pe_callTy (call_tupleK K) rfl B.tuple_ bt_tuple (pa_cons (pe_comp ["_law_out"] [2] rfl (Blk.of (defScope s_law) nm_law) (pi_seqK K (pe_ix (ix_seqK K) (pv 2) pe_int (fun _ _=>rfl))) (fun _ _ _ _ nd=>(pg_name (i:=0) nd rfl (by first | exact Or.inl rfl | exact Or.inr rfl))) (fun _ _ _ _=>pts_nil) (fun _ _ _ _=>(pe_op op_mod (pv 0) (pe_callB (call_min2 rfl) rfl B.min_ bt_min (pa_cons pe_int (pa_cons (pe_op op_add (pe_ix (ix_seqK K) (pv 1) pe_int (fun _ _=>rfl)) (pe_callB (call_lenK K) rfl B.len_ bt_len (pa_cons (pe_ix (ix_seqK K) (pv 1) pe_int (fun _ _=>rfl)) pa_nil))) pa_nil)))))) pa_nil)) pa_nil))))))
  pss_nil)
  (pss_cons (ps_set (i:=3) sc_law.nd rfl (by first | exact Or.inl rfl | exact Or.inr rfl) (pe_tup (pa_cons (pe_ix (ix_seqK K) (pv 2) pe_int (fun _ _=>rfl)) (pa_cons (pe_ix (ix_seqK K) (pv 2) pe_int (fun _ _=>rfl)) (pa_cons (pe_ix (ix_seqK K) (pv 2) pe_int (fun _ _=>rfl)) pa_nil)))))
  (pss_cons (ps_set (i:=4) sc_law.nd rfl (by first | exact Or.inl rfl | exact Or.inr rfl) (pe_fn g_tidied (hr.mono (by decide)) (pa_cons (pv 2) pa_nil)))
  (pss_cons (ps_if (PW.pt (pw_or (pt_not (pt_val (pe_fn g_is_net (hr.mono (by decide)) (pa_cons (pv 4) pa_nil)))) (pw_or (pt_cmpR (op_neD K hr.units) (pv 4) (pe_fn g_law_due (hr.mono (by decide)) (pa_cons (pv 2) pa_nil)) (nomark _)) (pw_or1 (pt_cmpR (op_neD K hr.units) (pv 2) (pv 3) (nomark _))))))
  (pss_one (ps_ret pe_bl))
  pss_nil)
  (pss_one (ps_ret (pe_and (pe_cmpR (op_eqD K hr.units) (pe_fn g_tidied (hr.mono (by decide)) (pa_cons (pv 4) pa_nil)) (pv 4) (nomark _)) (pe_one (pe_cmpR (op_eqD K hr.units) (pe_fn g_tidied (hr.mono (by decide)) (pa_cons (pv 2) pa_nil)) (pv 4) (nomark _)))))))))))),(sok_seq (sok_set (tok_call (taok_cons tok_var taok_nil)) rfl)
  (sok_seq (sok_set (tok_call (taok_cons tok_var (taok_cons tok_int (taok_cons tok_int taok_nil)))) rfl)
  (sok_seq (sok_if (ttok_test (tok_op ook_eq (tok_call (taok_cons tok_var (taok_cons tok_int taok_nil))) tok_int))
  (sok_set (tok_tup (taok_cons (tok_op ook_ix tok_var tok_int) (taok_cons (tok_op ook_ix tok_var tok_int) (taok_cons (tok_cb cbok_tuple (taok_cons (tok_comp (tiok_seq (tok_op ook_ix tok_var tok_int)) (tgok_name rfl) ttok_all (tok_op ook_int tok_var (tok_cb cbok_min (taok_cons tok_int (taok_cons (tok_op ook_int0 (tok_op ook_ix tok_var tok_int) (tok_cb cbok_len (taok_cons (tok_op ook_ix tok_var tok_int) taok_nil))) taok_nil))))) taok_nil)) taok_nil)))) rfl)
  sok_next)
  (sok_seq (sok_set (tok_tup (taok_cons (tok_op ook_ix tok_var tok_int) (taok_cons (tok_op ook_ix tok_var tok_int) (taok_cons (tok_op ook_ix tok_var tok_int) taok_nil)))) rfl)
  (sok_seq (sok_set (tok_call (taok_cons tok_var taok_nil)) rfl)
  (sok_seq (sok_if (ttok_or (ttok_not (ttok_B (tok_call (taok_cons tok_var taok_nil)))) (ttok_or (ttok_test (tok_op ook_ne tok_var (tok_call (taok_cons tok_var taok_nil)))) (ttok_test (tok_op ook_ne tok_var tok_var))))
  (sok_ret tok_bl)
  sok_next)
  (sok_ret (tok_andV (tok_op ook_eq (tok_call (taok_cons tok_var taok_nil)) tok_var) (tok_op ook_eq (tok_call (taok_cons tok_var taok_nil)) tok_var)))))))))⟩) ?_
 rintro ss q ⟨ns,hl,rfl,hq⟩
 refine ⟨rfl,rfl,rfl,ns,rfl,?_⟩
 refine ⟨rfl,0,12,132,rfl,by omega,by omega,by omega,by omega,fun N n' hN _ _ hn'=>?_⟩
 have jl:=hN.jl
 have m12:=hN.m12
 have m1:=hN.m1
 have o24:=hN.o24
 dsimp only [stS,pt,back,R.frz]
 refine cutS (fun ρ=>∃ N n',ρ = [.sc ns,.tp n',.vl (netD N),.un,.un]∧IsNet N) (fun M hM=>?_) ?_
 ·refine ⟨rfl,n',2,rfl,by omega,Dv.small (by decide) (by decide),fun d hd=>?_⟩
  refine gEq_ok (b:=eqD (nD d) (.int 0)) rfl rfl (by simp [D.depth]) rfl ?_
  refine ite2 (fun _=>?_) fun _=>hM _ ⟨N,n' + 1,rfl,hN⟩
  refine gIx_t (i:=0) (ds:=[nD N.m,.tup (N.js.map L2.pairD),.tup (natsD N.os)]) (d:=nD N.m) rfl rfl ?_
  refine gIx_t (i:=1) (ds:=[nD N.m,.tup (N.js.map L2.pairD),.tup (natsD N.os)]) (d:=.tup (N.js.map L2.pairD)) rfl rfl ?_
  refine gIx_t (i:=2) (ds:=[nD N.m,.tup (N.js.map L2.pairD),.tup (natsD N.os)]) (d:=.tup (natsD N.os)) rfl rfl ?_
  have hp:0 < min 20 (N.m + N.js.length):=by omega
  refine ⟨by rw [natsD_len]; omega,compA_lst nD (fun o=>nD (o % min 20 (N.m + N.js.length))) trivial (fun o acc M2 ho hM2=>?_) ?_⟩
  ·refine gIx_t (i:=0) (ds:=[nD N.m,.tup (N.js.map L2.pairD),.tup (natsD N.os)]) (d:=nD N.m) rfl rfl ?_
   refine gIx_t (i:=1) (ds:=[nD N.m,.tup (N.js.map L2.pairD),.tup (natsD N.os)]) (d:=.tup (N.js.map L2.pairD)) rfl rfl ?_
   have el:(if (N.m:Int) + ((N.js.map L2.pairD).length:Int) < 20 then (N.m:Int) + ((N.js.map L2.pairD).length:Int) else 20) = ((min 20 (N.m + N.js.length):Nat):Int):=by
    rw [List.length_map]; split <;> omega
   show (0 < (if (N.m:Int) + ((N.js.map L2.pairD).length:Int) < 20 then (N.m:Int) + ((N.js.map L2.pairD).length:Int) else 20)∧_)
   refine ⟨by rw [el]; omega,?_⟩
   show M2 (acc ++ [.int ((o:Int) % (if (N.m:Int) + ((N.js.map L2.pairD).length:Int) < 20 then (N.m:Int) + ((N.js.map L2.pairD).length:Int) else 20))]) _
   rw [el,← Int.natCast_emod]
   exact hM2
  ·have e:(N.os.map fun o=>nD (o % min 20 (N.m + N.js.length))) = natsD (N.os.map fun o=>o % min 20 (N.m + N.js.length)):=by unfold natsD; rw [List.map_map]; rfl
   rw [e]
   refine ⟨by simp,hM _ ⟨⟨N.m,N.js,N.os.map fun o=>o % min 20 (N.m + N.js.length)⟩,n' + 1,rfl,hN.m1,hN.m12,hN.jl,hN.js,by simpa using hN.o1,by simpa using hN.o24,fun o ho=>?_⟩⟩
   obtain ⟨x,_,rfl⟩:=List.mem_map.mp ho
   show x % min 20 (N.m + N.js.length) < N.m + N.js.length
   have:=Nat.mod_lt x hp
   omega
 clear hn' jl m12 m1 o24 hN
 rintro _ ⟨N,n2,rfl,hN⟩
 have jl:=hN.jl
 have m12:=hN.m12
 have m1:=hN.m1
 have o24:=hN.o24
 have hT:=tid_net hN
 refine cutS (fun ρ=>ρ = [.sc ns,.tp n2,.vl (netD N),.vl (netD N),.un]) (fun M hM=>?_) ?_
 ·refine gIx_t (i:=0) (ds:=[nD N.m,.tup (N.js.map L2.pairD),.tup (natsD N.os)]) (d:=nD N.m) rfl rfl ?_
  refine gIx_t (i:=1) (ds:=[nD N.m,.tup (N.js.map L2.pairD),.tup (natsD N.os)]) (d:=.tup (N.js.map L2.pairD)) rfl rfl ?_
  refine gIx_t (i:=2) (ds:=[nD N.m,.tup (N.js.map L2.pairD),.tup (natsD N.os)]) (d:=.tup (natsD N.os)) rfl rfl ?_
  exact ⟨by simp,hM _ rfl⟩
 rintro _ rfl
 refine cutS (fun ρ=>ρ = [.sc ns,.tp n2,.vl (netD N),.vl (netD N),.vl (netD (tidN N))]) (fun M hM=>⟨rfl,N,rfl,hN,hM _ rfl⟩) ?_
 rintro _ rfl
 refine cutS (fun ρ=>ρ = [.sc ns,.tp n2,.vl (netD N),.vl (netD N),.vl (netD (tidN N))]) (fun M hM=>?_) ?_
 ·refine ⟨rfl,_,rfl,?_⟩
  refine or_no (by rw [netB_ok hT]; rfl) ?_
  refine ⟨rfl,N,rfl,hN,gEq_ok rfl rfl (depth_net _) (b:=true) (eqD_refl _) ?_⟩
  refine or_no rfl ?_
  refine gEq_ok rfl rfl (depth_net _) (b:=true) (eqD_refl _) ?_
  exact hM _ rfl
 rintro _ rfl
 refine ⟨rfl,tidN N,rfl,hT,gEq_ok rfl rfl (depth_net _) (b:=true) (by rw [tid_idem hN]; exact eqD_refl _) ?_⟩
 refine ⟨rfl,N,rfl,hN,gEq_ok rfl rfl (depth_net _) (b:=true) (eqD_refl _) (hq _)⟩
theorem fin (d_is_whole:DefN K mg "is_whole" s_is_whole ["thing", "least", "most"]) (d_is_tuple:DefN K mg "is_tuple" s_is_tuple ["thing", "least", "most"]) (d_joined:DefN K mg "joined" s_joined ["one", "other"]) (d_is_net:DefN K mg "is_net" s_is_net ["thing"]) (d_are_joins:DefN K mg "are_joins" s_are_joins ["many", "joins"]) (d_is_join:DefN K mg "is_join" s_is_join ["rows", "join"]) (d_are_outs:DefN K mg "are_outs" s_are_outs ["things", "outs"]) (d_own_rows:DefN K mg "own_rows" s_own_rows ["many"]) (d_joining:DefN K mg "joining" s_joining ["one", "other"]) (d_all_words:DefN K mg "all_words" s_all_words ["net", "words"]) (d_rows_of:DefN K mg "rows_of" s_rows_of ["net"]) (d_tidied:DefN K mg "tidied" s_tidied ["net"]) (d_first_alike:DefN K mg "first_alike" s_first_alike ["rows"]) (d_leant_on:DefN K mg "leant_on" s_leant_on ["net", "stands"]) (d_law_tape:DefN K mg "_law_tape" s_law_tape ["_law_script"]) (d_law_draw:DefN K mg "_law_draw" s_law_draw ["_law_tape_here", "_law_many"]) (d_law_net:DefN K mg "_law_net" s_law_net ["_law_tape_here", "_law_most", "_law_joins_most"]) (d_law_rows:DefN K mg "_law_rows" s_law_rows ["_law_net_here"]) (d_law_first:DefN K mg "_law_first" s_law_first ["_law_rows_here"]) (d_law_leaned:DefN K mg "_law_leaned" s_law_leaned ["_law_net_here", "_law_first_here", "_law_outs"]) (d_law_due:DefN K mg "_law_due" s_law_due ["_law_net_here"]) (d_law:DefN K mg "law" s_law ["_law_script"]) (c_MOST_GIVENS:∃ u,mg "MOST_GIVENS" = some u∧RelV (.int 12) u) (c_MOST_JOINS:∃ u,mg "MOST_JOINS" = some u∧RelV (.int 132) u) (c_MOST_OUTS:∃ u,mg "MOST_OUTS" = some u∧RelV (.int 24) u) (B:BI mg):OkN P w K mg base 5 "law" ["_law_script"] (spLaw K) :=
 have g_law_tape:=ok_law_tape d_law_tape B
 have g_law_draw:=ok_law_draw d_law_draw B
 have g_joined:=ok_joined d_joined B
 have g_own_rows:=ok_own_rows d_own_rows B
 have g_all_words:=ok_all_words d_all_words B g_joined
 have g_rows_of:=ok_rows_of d_rows_of B g_all_words g_own_rows
 have g_is_whole:=ok_is_whole d_is_whole B
 have g_is_tuple:=ok_is_tuple d_is_tuple B
 have g_is_join:=ok_is_join d_is_join B g_is_tuple g_is_whole
 have g_are_joins:=ok_are_joins d_are_joins B g_own_rows g_is_tuple g_is_join g_joined c_MOST_JOINS
 have g_are_outs:=ok_are_outs d_are_outs B g_is_tuple g_is_whole c_MOST_OUTS
 have g_is_net:=ok_is_net d_is_net B g_is_tuple g_is_whole g_are_joins g_are_outs c_MOST_GIVENS
 have g_joining:=ok_joining d_joining B
 have g_first_alike:=ok_first_alike d_first_alike B
 have g_leant_on:=ok_leant_on d_leant_on B
 have g_tidied:=ok_tidied d_tidied B g_first_alike g_leant_on g_rows_of g_joining
 have g_law_net:=ok_law_net d_law_net B g_law_draw
 have g_law_rows:=ok_law_rows d_law_rows B
 have g_law_first:=ok_law_first d_law_first B
 have g_law_leaned:=ok_law_leaned d_law_leaned B
 have g_law_due:=ok_law_due d_law_due B g_law_first g_law_leaned g_law_rows
 have g_law:=ok_law d_law B g_law_tape g_law_net g_tidied g_law_draw g_is_net g_law_due
 law_of g_law
end
end K15
namespace PySem.W.Fast
def tw1902407045246969918:=()
def tw12488711223789822206:=()
def tw7545872180967569178:=()
def tw14817917493830607187:=()
def tw4223600059071272701:=()
def tw6010803139404220438:=()
def tw94950832527880726:=()
def tw1406730343156824642:=()
def tw10506992611877807501:=()
def tw12232733692557727192:=()
def tw16095329814659880990:=()
def tw8928136962216056938:=()
def tw17346203407469492170:=()
def tw4550464204467513679:=()
def tw10767978947784330807:=()
def tw4431817458993847914:=()
def tw1977309002800686154:=()
def tw2510016922833652328:=()
def tw15255852600310457379:=()
def tw3930388196354194111:=()
def tw7771161874091645558:=()
def tw17534758883842381636:=()
def tw17598063728479418179:=()
def tw1814498303637701658:=()
def tw7525787595358917648:=()
def tw5406408497019000422:=()
def tw4143163872659277573:=()
def tw2968277204181035399:=()
def tw89245388605388430:=()
def tw8873583045843947809:=()
def tw8119505973653814365:=()
def tw13080056762222995597:=()
def tw17909002944124554910:=()
def tw13405131890523471214:=()
def tw6505479748986763795:=()
def tw17258910211111004697:=()
def tw11380943815644372672:=()
def tw2579536980973701988:=()
def tw15684168987285351128:=()
def tw10220883104948982845:=()
def tw316625732872881895:=()
def tw778409917083183973:=()
def tw2584854604302003533:=()
def tw9547363821877204283:=()
def tw7571772747522970518:=()
def tw6291945182228238122:=()
def tw12920228617552500507:=()
def tw916172780112164059:=()
def tw15448442430211416960:=()
def tw13870733293548035611:=()
def tw3277252182342781531:=()
def tw3906089906148344486:=()
def tw169317706618905957:=()
def tw11670652523718960589:=()
def tw14332533672503299195:=()
def tw215098884232651930:=()
def tw6575036262734446812:=()
def tw10750040720112818386:=()
def tw11794714028221938137:=()
def tw13324811472863223378:=()
def tw1679573874698713110:=()
def tw5998905757487250746:=()
def tw1578542147272678796:=()
def tw11873933669433787186:=()
def tw9749096196794168279:=()
def tw1781844913571958305:=()
def tw4066943424265162510:=()
def tw13270198714173110546:=()
def tw6970238351448870252:=()
def tw16770627832060627333:=()
def tw16799097144496463299:=()
def tw10187282386472286900:=()
def tw6977580658666729885:=()
def tw14181132258716760995:=()
def tw14903137467846410044:=()
def tw7266547639473967398:=()
def tw16773877217704171307:=()
def tw444525174627067046:=()
def tw4442031610054080276:=()
def tw5503396398287451971:=()
def tw9334085926805763230:=()
def tw6102690571408160341:=()
def tw16279657418321659840:=()
def tw4499025800683158048:=()
def tw1083802503576787981:=()
def tw14337365791684123371:=()
def tw14321072151814677538:=()
def tw3431089978606377896:=()
def tw8791890602421130106:=()
def tw16503447742487807161:=()
def tw2987571216816890837:=()
def tw11987398238120237149:=()
def tw3965841071301372493:=()
def tw7215582156536439176:=()
def tw5428911272991520319:=()
def tw4919158897592832196:=()
def tw14645163003017749042:=()
def tw479292738342488938:=()
def tw11469420264303412822:=()
def tw7928225191417045891:=()
def tw4165868756228519648:=()
def tw6569181124672249677:=()
def tw9644232767799991027:=()
def tw14047355593518672332:=()
def tw9080089270898534263:=()
def tw7319252128470769024:=()
def tw268796900309696865:=()
def tw6611523339805601319:=()
def tw8364938055778530815:=()
def tw15479311837048202553:=()
def tw17296872559206069193:=()
def tw440009676935684407:=()
def tw4017455342651990599:=()
def tw1184979047340824393:=()
def tw602367846129778812:=()
def tw417957954917461504:=()
def tw10384299075547061694:=()
def tw14927363114330405223:=()
def tw10694871691375551183:=()
def tw9240463001833629966:=()
def tw2336245702130835427:=()
def tw5722671218956831720:=()
def tw8062620127263700929:=()
def tw16692618155981315834:=()
def tw7146964942282600114:=()
def tw2412994969465922509:=()
def tw14336339490005484468:=()
def tw3694638014931830171:=()
def tw8364419894221435699:=()
def tw15521841159884639705:=()
def tw1928346537603587622:=()
end PySem.W.Fast
open PySem PySem.W PyProof.Rows
set_option maxRecDepth 100000 in
set_option maxHeartbeats 0 in
theorem PySem.Challenge.cw_fewjoins_k15_tidied_holds : PySem.Challenge.rw_fewjoins_k15_tidied.Holds := by
 w_on; o_law; k_head; (case hw=>w_witness2)
 k_fill
 refine L2.walk_ofK (l:=PySem.Challenge.rw_fewjoins_k15_tidied) (n:=63) (k:=5) (x := "_law_script") (CX:=L2.CX0) (sp:=L2.spLaw) rfl (by decide) rfl ⟨rfl,by decide,by decide⟩ (fun w h Y=>PySem.W.kIn_of Y) ?F ?S ?C
 case S=>exact fun K H a ns hl hO hS=>⟨a,ns,rfl,hS,hl,fun _=>rfl⟩
 case C=>exact fun H s e s' h=>h
 case F =>
  intro w mg fa h KX G hmg
  have d_is_whole:L2.DefN (L2.KOf KX) mg "is_whole" K15.s_is_whole ["thing", "least", "most"]:=by
   dsimp only [L2.KOf]
   refine' L2.def_mk KX G ?a ?l ?c ?k (fun _ _ _ _ _ _ us hl=>match us,hl with | [_,_,_],_=>rfl)
   (case a=>k_is); (case l=>k_is); (case c=>k_is); (case k=>k_is)
  have d_is_tuple:L2.DefN (L2.KOf KX) mg "is_tuple" K15.s_is_tuple ["thing", "least", "most"]:=by
   dsimp only [L2.KOf]
   refine' L2.def_mk KX G ?a ?l ?c ?k (fun _ _ _ _ _ _ us hl=>match us,hl with | [_,_,_],_=>rfl)
   (case a=>k_is); (case l=>k_is); (case c=>k_is); (case k=>k_is)
  have d_joined:L2.DefN (L2.KOf KX) mg "joined" K15.s_joined ["one", "other"]:=by
   dsimp only [L2.KOf]
   refine' L2.def_mk KX G ?a ?l ?c ?k (fun _ _ _ _ _ _ us hl=>match us,hl with | [_,_],_=>rfl)
   (case a=>k_is); (case l=>k_is); (case c=>k_is); (case k=>k_is)
  have d_is_net:L2.DefN (L2.KOf KX) mg "is_net" K15.s_is_net ["thing"]:=by
   dsimp only [L2.KOf]
   refine' L2.def_mk KX G ?a ?l ?c ?k (fun _ _ _ _ _ _ us hl=>match us,hl with | [_],_=>rfl)
   (case a=>k_is); (case l=>k_is); (case c=>k_is); (case k=>k_is)
  have d_are_joins:L2.DefN (L2.KOf KX) mg "are_joins" K15.s_are_joins ["many", "joins"]:=by
   dsimp only [L2.KOf]
   refine' L2.def_mk KX G ?a ?l ?c ?k (fun _ _ _ _ _ _ us hl=>match us,hl with | [_,_],_=>rfl)
   (case a=>k_is); (case l=>k_is); (case c=>k_is); (case k=>k_is)
  have d_is_join:L2.DefN (L2.KOf KX) mg "is_join" K15.s_is_join ["rows", "join"]:=by
   dsimp only [L2.KOf]
   refine' L2.def_mk KX G ?a ?l ?c ?k (fun _ _ _ _ _ _ us hl=>match us,hl with | [_,_],_=>rfl)
   (case a=>k_is); (case l=>k_is); (case c=>k_is); (case k=>k_is)
  have d_are_outs:L2.DefN (L2.KOf KX) mg "are_outs" K15.s_are_outs ["things", "outs"]:=by
   dsimp only [L2.KOf]
   refine' L2.def_mk KX G ?a ?l ?c ?k (fun _ _ _ _ _ _ us hl=>match us,hl with | [_,_],_=>rfl)
   (case a=>k_is); (case l=>k_is); (case c=>k_is); (case k=>k_is)
  have d_own_rows:L2.DefN (L2.KOf KX) mg "own_rows" K15.s_own_rows ["many"]:=by
   dsimp only [L2.KOf]
   refine' L2.def_mk KX G ?a ?l ?c ?k (fun _ _ _ _ _ _ us hl=>match us,hl with | [_],_=>rfl)
   (case a=>k_is); (case l=>k_is); (case c=>k_is); (case k=>k_is)
  have d_joining:L2.DefN (L2.KOf KX) mg "joining" K15.s_joining ["one", "other"]:=by
   dsimp only [L2.KOf]
   refine' L2.def_mk KX G ?a ?l ?c ?k (fun _ _ _ _ _ _ us hl=>match us,hl with | [_,_],_=>rfl)
   (case a=>k_is); (case l=>k_is); (case c=>k_is); (case k=>k_is)
  have d_all_words:L2.DefN (L2.KOf KX) mg "all_words" K15.s_all_words ["net", "words"]:=by
   dsimp only [L2.KOf]
   refine' L2.def_mk KX G ?a ?l ?c ?k (fun _ _ _ _ _ _ us hl=>match us,hl with | [_,_],_=>rfl)
   (case a=>k_is); (case l=>k_is); (case c=>k_is); (case k=>k_is)
  have d_rows_of:L2.DefN (L2.KOf KX) mg "rows_of" K15.s_rows_of ["net"]:=by
   dsimp only [L2.KOf]
   refine' L2.def_mk KX G ?a ?l ?c ?k (fun _ _ _ _ _ _ us hl=>match us,hl with | [_],_=>rfl)
   (case a=>k_is); (case l=>k_is); (case c=>k_is); (case k=>k_is)
  have d_tidied:L2.DefN (L2.KOf KX) mg "tidied" K15.s_tidied ["net"]:=by
   dsimp only [L2.KOf]
   refine' L2.def_mk KX G ?a ?l ?c ?k (fun _ _ _ _ _ _ us hl=>match us,hl with | [_],_=>rfl)
   (case a=>k_is); (case l=>k_is); (case c=>k_is); (case k=>k_is)
  have d_first_alike:L2.DefN (L2.KOf KX) mg "first_alike" K15.s_first_alike ["rows"]:=by
   dsimp only [L2.KOf]
   refine' L2.def_mk KX G ?a ?l ?c ?k (fun _ _ _ _ _ _ us hl=>match us,hl with | [_],_=>rfl)
   (case a=>k_is); (case l=>k_is); (case c=>k_is); (case k=>k_is)
  have d_leant_on:L2.DefN (L2.KOf KX) mg "leant_on" K15.s_leant_on ["net", "stands"]:=by
   dsimp only [L2.KOf]
   refine' L2.def_mk KX G ?a ?l ?c ?k (fun _ _ _ _ _ _ us hl=>match us,hl with | [_,_],_=>rfl)
   (case a=>k_is); (case l=>k_is); (case c=>k_is); (case k=>k_is)
  have d_law_tape:L2.DefN (L2.KOf KX) mg "_law_tape" K15.s_law_tape ["_law_script"]:=by
   dsimp only [L2.KOf]
   refine' L2.def_mk KX G ?a ?l ?c ?k (fun _ _ _ _ _ _ us hl=>match us,hl with | [_],_=>rfl)
   (case a=>k_is); (case l=>k_is); (case c=>k_is); (case k=>k_is)
  have d_law_draw:L2.DefN (L2.KOf KX) mg "_law_draw" K15.s_law_draw ["_law_tape_here", "_law_many"]:=by
   dsimp only [L2.KOf]
   refine' L2.def_mk KX G ?a ?l ?c ?k (fun _ _ _ _ _ _ us hl=>match us,hl with | [_,_],_=>rfl)
   (case a=>k_is); (case l=>k_is); (case c=>k_is); (case k=>k_is)
  have d_law_net:L2.DefN (L2.KOf KX) mg "_law_net" K15.s_law_net ["_law_tape_here", "_law_most", "_law_joins_most"]:=by
   dsimp only [L2.KOf]
   refine' L2.def_mk KX G ?a ?l ?c ?k (fun _ _ _ _ _ _ us hl=>match us,hl with | [_,_,_],_=>rfl)
   (case a=>k_is); (case l=>k_is); (case c=>k_is); (case k=>k_is)
  have d_law_rows:L2.DefN (L2.KOf KX) mg "_law_rows" K15.s_law_rows ["_law_net_here"]:=by
   dsimp only [L2.KOf]
   refine' L2.def_mk KX G ?a ?l ?c ?k (fun _ _ _ _ _ _ us hl=>match us,hl with | [_],_=>rfl)
   (case a=>k_is); (case l=>k_is); (case c=>k_is); (case k=>k_is)
  have d_law_first:L2.DefN (L2.KOf KX) mg "_law_first" K15.s_law_first ["_law_rows_here"]:=by
   dsimp only [L2.KOf]
   refine' L2.def_mk KX G ?a ?l ?c ?k (fun _ _ _ _ _ _ us hl=>match us,hl with | [_],_=>rfl)
   (case a=>k_is); (case l=>k_is); (case c=>k_is); (case k=>k_is)
  have d_law_leaned:L2.DefN (L2.KOf KX) mg "_law_leaned" K15.s_law_leaned ["_law_net_here", "_law_first_here", "_law_outs"]:=by
   dsimp only [L2.KOf]
   refine' L2.def_mk KX G ?a ?l ?c ?k (fun _ _ _ _ _ _ us hl=>match us,hl with | [_,_,_],_=>rfl)
   (case a=>k_is); (case l=>k_is); (case c=>k_is); (case k=>k_is)
  have d_law_due:L2.DefN (L2.KOf KX) mg "_law_due" K15.s_law_due ["_law_net_here"]:=by
   dsimp only [L2.KOf]
   refine' L2.def_mk KX G ?a ?l ?c ?k (fun _ _ _ _ _ _ us hl=>match us,hl with | [_],_=>rfl)
   (case a=>k_is); (case l=>k_is); (case c=>k_is); (case k=>k_is)
  have d_law:L2.DefN (L2.KOf KX) mg "law" K15.s_law ["_law_script"]:=by
   dsimp only [L2.KOf]
   refine' L2.def_mk KX G ?a ?l ?c ?k (fun _ _ _ _ _ _ us hl=>match us,hl with | [_],_=>rfl)
   (case a=>k_is); (case l=>k_is); (case c=>k_is); (case k=>k_is)
  have B:L2.BI mg:=by
   refine' L2.bi_mk KX G ?z_len ?z_range ?z_isinstance ?z_int ?z_bool ?z_list ?z_tuple ?z_str ?z_sum ?z_all ?z_max ?z_min ?z_sorted ?z_set ?z_zip ?z_enumerate ?z_reversed ?z_dict ?z_any ?z_abs
   (case z_len=>k_is); (case z_range=>k_is); (case z_isinstance=>k_is); (case z_int=>k_is); (case z_bool=>k_is); (case z_list=>k_is); (case z_tuple=>k_is); (case z_str=>k_is); (case z_sum=>k_is); (case z_all=>k_is); (case z_max=>k_is); (case z_min=>k_is); (case z_sorted=>k_is); (case z_set=>k_is); (case z_zip=>k_is); (case z_enumerate=>k_is); (case z_reversed=>k_is); (case z_dict=>k_is); (case z_any=>k_is); (case z_abs=>k_is)
  have c_MOST_GIVENS:∃ u,mg "MOST_GIVENS" = some u∧L2.RelV (.int 12) u:=by
   refine' ⟨_,PySem.W.mg_of KX G ?a,?b⟩
   (case a=>k_is)
   (case b=>exact ⟨_,rfl⟩)
  have c_MOST_JOINS:∃ u,mg "MOST_JOINS" = some u∧L2.RelV (.int 132) u:=by
   refine' ⟨_,PySem.W.mg_of KX G ?a,?b⟩
   (case a=>k_is)
   (case b=>exact ⟨_,rfl⟩)
  have c_MOST_OUTS:∃ u,mg "MOST_OUTS" = some u∧L2.RelV (.int 24) u:=by
   refine' ⟨_,PySem.W.mg_of KX G ?a,?b⟩
   (case a=>k_is)
   (case b=>exact ⟨_,rfl⟩)
  refine L2.law_fin d_law hmg fun base=>?_
  exact K15.fin d_is_whole d_is_tuple d_joined d_is_net d_are_joins d_is_join d_are_outs d_own_rows d_joining d_all_words d_rows_of d_tidied d_first_alike d_leant_on d_law_tape d_law_draw d_law_net d_law_rows d_law_first d_law_leaned d_law_due d_law c_MOST_GIVENS c_MOST_JOINS c_MOST_OUTS B
#print axioms PySem.Challenge.cw_fewjoins_k15_tidied_holds

