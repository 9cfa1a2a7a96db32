import PyProof.Rows.All
import Wide.All
import OpenK.AllK
import Wide.FinOn
import Lean
import PyProof.EqAt
import PyProof.EqKinds
import PyProof.TupleCall
import PyProof.NeKinds
import PyProof.ListMulAny
import PyProof.Rows.CallKwBuiltin
import PyProof.MinMaxWalk
import PyProof.SeqI3
import PyProof.Rows.TupAdd
import PyProof.MeetsDict
import PyProof.DictList
import PyProof.ZipIter
import PyProof.Rows.ZipGen
import PyProof.ListRange
import PyProof.TupleOfStr
import PyProof.Rows.FStr
import PyProof.Rows.StrJoin2
import PyProof.Rows.Range3
import PyProof.EnumMake
import PyProof.EnumFor
import PyProof.EnumStmt
import KE.KUnpackStar
import KE.KDictList
import PyProof.Rows.SortWalk
import KE.RegKIsAll
import PyProof.NsDelKeeps
import PyProof.Rows.CountFlat
import KE.KRevIter
import PyProof.Draws
import PyProof.ExcInit
import PyProof.InstStoreFacts
import PyProof.DictCompW
import PyProof.DictIter
import PyProof.DictWalks
import PyProof.Rows.SetFrom
import PyProof.SetRoads
import KE.KDictOf
import PySem.Challenge.RW_fewjoins_k62_rows_that_lean
set_option Elab.async false
set_option linter.all false
set_option maxRecDepth 100000
namespace L2
open PySem PySem.Spec PyProof.Rows
abbrev Key:=Sum Int Str
def v0k:Key→Value→Bool
 | .inl k,v=>Value.isInt k v
 | .inr x,v=>Value.isStrOf x v
def keyH (w:World):Key→Int
 | .inl k=>hashInt k
 | .inr x=>hashStr w x
theorem c0i:∀ {k:Key} {v:Value},v0k k v = true→(∃ i t,k = Sum.inl i∧v = Value.int i t) ∨ (∃ x t,k = Sum.inr x∧v = Value.str x t)
 | .inl i,v,h=>by
  obtain ⟨t,e⟩:=Value.isInt_shape (k:=i) (v:=v) h
  exact .inl ⟨i,t,rfl,e⟩
 | .inr x,v,h=>by
  obtain ⟨t,e⟩:=Value.isStrOf_shape (x:=x) (v:=v) h
  exact .inr ⟨x,t,rfl,e⟩
theorem y0u (i:Int) (t:Tok):v0k (.inl i) (.int i t) = true:=by simp [v0k,Value.isInt]
theorem y0t (x:Str) (t:Tok):v0k (.inr x) (.str x t) = true:=by simp [v0k,Value.isStrOf]
theorem j1c (a b:Int):decide ((Sum.inl a:Key) = Sum.inl b) = (a == b):=by
 by_cases e:a = b
 ·subst e; simp
 ·have h:¬ (Sum.inl a:Key) = Sum.inl b:=fun q=>e (Sum.inl.inj q)
  rw [decide_eq_false h]
  exact (beq_eq_false_iff_ne.mpr e).symm
theorem i1z (a b:Str):decide ((Sum.inr a:Key) = Sum.inr b) = decide (a = b):=by
 by_cases e:a = b
 ·subst e; simp
 ·have h:¬ (Sum.inr a:Key) = Sum.inr b:=fun q=>e (Sum.inr.inj q)
  rw [decide_eq_false h,decide_eq_false e]
theorem j1b (a:Int) (b:Str):decide ((Sum.inl a:Key) = Sum.inr b) = false:=decide_eq_false (fun q=>nomatch q)
theorem j1a (a:Str) (b:Int):decide ((Sum.inr a:Key) = Sum.inl b) = false:=decide_eq_false (fun q=>nomatch q)
def b0u (prog:Program) (w:World):PySem.KeyKind prog w Key where
 is:=v0k
 hash:=keyH w
 inj:=fun v a b ha hb=>by
  rcases c0i ha with ⟨i,t,rfl,rfl⟩ | ⟨x,t,rfl,rfl⟩
  ·rcases c0i hb with ⟨j,u,rfl,e⟩ | ⟨y,u,rfl,e⟩
   ·injection e with e1 _; rw [e1]
   ·exact nomatch e
  ·rcases c0i hb with ⟨j,u,rfl,e⟩ | ⟨y,u,rfl,e⟩
   ·exact nomatch e
   ·injection e with e1 _; rw [e1]
 byValue:=fun k v h=>by
  rcases c0i h with ⟨i,t,rfl,rfl⟩ | ⟨x,t,rfl,rfl⟩ <;> rfl
 pyHash:=fun hv h=>by
  rcases c0i hv with ⟨i,t,rfl,rfl⟩ | ⟨x,t,rfl,rfl⟩
  ·exact wpAny_pyHash_int h
  ·exact wpAny_pyHash_str h
 eqBool:=fun hu hv h=>by
  rcases c0i hu with ⟨i,t,rfl,rfl⟩ | ⟨x,t,rfl,rfl⟩
  ·rcases c0i hv with ⟨j,u,rfl,rfl⟩ | ⟨y,u,rfl,rfl⟩
   ·rw [j1c] at h; exact wpAny_eqBool_int h
   ·rw [j1b] at h; exact SeqAt.EqAt.int_str i t y u _ _ _ _ h
  ·rcases c0i hv with ⟨j,u,rfl,rfl⟩ | ⟨y,u,rfl,rfl⟩
   ·rw [j1a] at h; exact SeqAt.EqAt.str_int x t j u _ _ _ _ h
   ·rw [i1z] at h; exact wpAny_eqBool_str h
 «strs»:=fun k x t v h=>by
  rcases c0i h with ⟨i,u,rfl,e⟩ | ⟨y,u,rfl,e⟩
  ·exact nomatch e
  ·injection e with e1 _
   subst e1
   cases v <;> rfl
theorem r0v (prog:Program) (w:World) (i:Int) (t:Tok):(b0u prog w).is (.inl i) (.int i t) = true:=y0u i t
theorem r0u (prog:Program) (w:World) (x:Str) (t:Tok):(b0u prog w).is (.inr x) (.str x t) = true:=y0t x t
inductive V where
 | non | bl (b:Bool) | int (i:Int) | str (x:Str) | byt (b:Array UInt8) | flt (b:UInt64) | ref (a:Addr) | ty (n:String)
 deriving DecidableEq
def RelV:V→Value→Prop
 | .non,u=>u = Value.none
 | .bl b,u=>u = Value.bool b
 | .int i,u=>∃ t,u = Value.int i t
 | .str x,u=>∃ t,u = Value.str x t
 | .byt b,u=>∃ t,u = Value.bytes b t
 | .flt b,u=>∃ t,u = Value.float b t
 | .ref a,u=>u = Value.ref a
 | .ty n,u=>u = Value.type n
abbrev Vals:List V→List Value→Prop:=Paired RelV
theorem Vals.length {xs:List V} {us:List Value} (r:Vals xs us):xs.length = us.length:=Paired.length r
theorem Vals.get:∀ {xs:List V} {us:List Value} {i:Nat} {x:V},Vals xs us→xs[i]? = some x→∃ u,us[i]? = some u∧RelV x u
 | _,_,_,_,.nil,e=>by simp at e
 | _,_,0,_,.cons r _,e=>by simp at e; subst e; exact ⟨_,rfl,r⟩
 | _,_,i + 1,x,.cons _ t,e=>by
  obtain ⟨u,h1,h2⟩:=Vals.get (i:=i) (x:=x) t (by simpa using e)
  exact ⟨u,by simpa using h1,h2⟩
theorem Vals.set {x:V} {u:Value} (r:RelV x u):∀ {xs:List V} {us:List Value} (i:Nat),Vals xs us→Vals (xs.set i x) (us.set i u)
 | _,_,_,.nil=>.nil
 | _,_,0,.cons _ t=>.cons r t
 | _,_,i + 1,.cons q t=>.cons q (Vals.set r i t)
theorem Vals.append:∀ {xs ys:List V} {us ws:List Value},Vals xs us→Vals ys ws→Vals (xs ++ ys) (us ++ ws)
 | _,_,_,_,.nil,s=>s
 | _,_,_,_,.cons r t,s=>.cons r (Vals.append t s)
theorem Vals.take:∀ {xs:List V} {us:List Value} (n:Nat),Vals xs us→Vals (xs.take n) (us.take n)
 | _,_,0,_=>.nil
 | _,_,_ + 1,.nil=>.nil
 | _,_,n + 1,.cons r t=>.cons r (Vals.take n t)
theorem Vals.drop:∀ {xs:List V} {us:List Value} (n:Nat),Vals xs us→Vals (xs.drop n) (us.drop n)
 | _,_,0,r=>r
 | _,_,_ + 1,.nil=>.nil
 | _,_,n + 1,.cons _ t=>Vals.drop n t
def RelO:Option V→Option Value→Prop
 | some v,some u=>RelV v u
 | none,none=>True
 | _,_=>False
def KV {κ:Type}:List (κ × V)→List (κ × Value)→Prop:=Paired fun (p:κ × V) (q:κ × Value)=>p.1 = q.1∧RelV p.2 q.2
def kV:Key→V
 | .inl i=>.int i
 | .inr x=>.str x
inductive HO where
 | lst (xs:List V)
 | tup (xs:List V)
 | dK (kvs:List (Key × V)) | dT (kvs:List (List Key × V))
 | set (S:Int→Bool) (n:Nat)
 | ins (C dx:Addr) (fs:List (Str × V))
 | own (x:Addr)
 | xd (fs:List (Str × V))
 | met (f x:Addr)
 | rng (lo hi:Int)
 | frz (o:Obj) (u:HO)
 | tbl (ps:Array Value)
 | ext (φ:Heap→Prop)
abbrev Hp:=Addr→Option HO
def upd (H:Hp) (a:Addr) (o:HO):Hp:=fun b=>if b = a then some o else H b
theorem a0v {H:Hp} {a:Addr} {o:HO}:upd H a o a = some o:=by unfold upd; rw [if_pos rfl]
theorem a0l {H:Hp} {a b:Addr} {o:HO} (h:b ≠ a):upd H a o b = H b:=by unfold upd; rw [if_neg h]
theorem e1f {H:Hp} {a:Addr} {o u:HO}:upd (upd H a o) a u = upd H a u:=by
 funext b; unfold upd; split <;> rfl
theorem j0l {H:Hp} {a b:Addr} {o u:HO} (h:H a = some o) (h':H b = some u) (d:o ≠ u):a ≠ b:=by
 intro e; subst e; rw [h] at h'; exact d (Option.some.inj h')
theorem b0c {H:Hp} {a b:Addr} {o:HO} (h:H a = some o) (h':H b = none):a ≠ b:=by
 intro e; subst e; rw [h] at h'; cases h'
section
variable (P:Program) (w:World)
def d0a (H:Hp) (h:Heap) (a:Addr):HO→Prop
 | .lst xs=>xs.length ≤ sizeLine∧∃ (its:List Value) (n:Nat),Vals xs its∧h.get? a = some { cls:=.type "list",data:=.seq its.toArray n }
 | .tup xs=>xs.length ≤ sizeLine∧∃ its:List Value,Vals xs its∧IsTup h a its.toArray
 | .dK kvs=>kvs.length ≤ sizeLine∧(a == sysModules) = false∧∃ vs,KV kvs vs∧h.DictOf (b0u P w) a vs
 | .dT kvs=>kvs.length ≤ sizeLine∧(a == sysModules) = false∧∃ xs:List (List Key × Addr × Value),
   Paired (fun (p:List Key × V) (q:List Key × Addr × Value)=>p.1 = q.1∧H q.2.1 = some (.tup (p.1.map kV))∧RelV p.2 q.2.2) kvs xs ∧
   ∃ o es ep,h.get? a = some o∧o.ExactDict∧o.data = .dict es ep∧es.toList = xs.map (entryOfKey (tupleKind (b0u P w)))∧(xs.map (·.1)).Nodup
 | .set S n=>h.SetOf (intKind P w) a S n
 | .ins C dx fs=>H dx = some (.own a)∧fs.length ≤ 1000∧dx ≠ a∧h.get? a = some (PySem.W.instObj C dx) ∧
   ∃ mA,h.Ns1 dx mA∧(∀ f,RelO (fs.lookup f) (mA f))∧PySem.Within mA (fs.map (·.1))
 | .own _=>∃ o,h.get? a = some o
 | .xd fs=>∃ mA,h.Ns1 a mA∧∀ f,RelO (fs.lookup f) (mA f)
 | .rng lo hi=>∃ t u v,h.get? a = some { cls:=.type "range",data:=.fields #[.int lo t,.int hi u,.int 1 v] }
 | .frz o u=>h.get? a = some o∧d0a H h a u
 | .tbl ps=>h.get? a = some { cls:=.none,data:=.fields ps }
 | .met f x=>h.get? a = some (PySem.W.methodObj (.ref f) (.ref x))
 | .ext φ=>φ h∧(∃ o,h.get? a = some o)∧∀ h1 h2:Heap,φ h1→(∀ o,h1.get? a = some o→h2.get? a = some o)→φ h2
def HOk (H:Hp) (h:Heap):Prop:=∀ a o,H a = some o→d0a P w H h a o
end
section
variable {P:Program} {w:World} {H H':Hp} {h h':Heap} {a:Addr} {o:HO}
theorem d0a.lt (x:d0a P w H h a o):a < h.objs.size:=by
 cases o with
 | lst xs=>obtain ⟨_,_,_,_,e⟩:=x; exact Heap.lt_size e
 | tup xs=>obtain ⟨_,_,_,p⟩:=x; exact p.lt
 | dK kvs=>obtain ⟨_,_,_,_,o,_,_,e,_⟩:=x; exact Heap.lt_size e
 | dT kvs=>obtain ⟨_,_,_,_,o,_,_,e,_⟩:=x; exact Heap.lt_size e
 | set S n=>obtain ⟨o,_,_,_,e,_⟩:=x; exact Heap.lt_size e
 | ins C dx fs=>obtain ⟨_,_,_,e,_⟩:=x; exact Heap.lt_size e
 | own y=>obtain ⟨_,e⟩:=x; exact Heap.lt_size e
 | xd fs=>obtain ⟨_,⟨_,_,_,e,_⟩,_⟩:=x; exact Heap.lt_size e
 | rng lo hi=>obtain ⟨_,_,_,e⟩:=x; exact Heap.lt_size e
 | frz ob u=>obtain ⟨e,_⟩:=x; exact Heap.lt_size e
 | tbl ps=>exact Heap.lt_size (show h.get? a = some _ from x)
 | met f y=>exact Heap.lt_size (show h.get? a = some _ from x)
 | ext φ=>obtain ⟨_,⟨_,e⟩,_⟩:=x; exact Heap.lt_size e
theorem Paired.mapP {α β:Type} {F G:α→β→Prop}:∀ {l₁:List α} {l₂:List β},Paired F l₁ l₂→(∀ a b,F a b→G a b)→Paired G l₁ l₂
 | _,_,.nil,_=>.nil
 | _,_,.cons r t,f=>.cons (f _ _ r) (Paired.mapP t f)
theorem d0a.stay (x:d0a P w H h a o) (k:∀ b u,(b = a ∨ H b = some (.own a))→h.get? b = some u→h'.get? b = some u)
  (ho:∀ b,H b = some (.own a)→H' b = some (.own a)) (ht:∀ b xs,H b = some (.tup xs)→H' b = some (.tup xs)):d0a P w H' h' a o:=by
 induction o with
 | lst xs=>obtain ⟨z,its,n,r,e⟩:=x; exact ⟨z,its,n,r,k _ _ (.inl rfl) e⟩
 | tup xs=>obtain ⟨z,its,r,ob,e,c⟩:=x; exact ⟨z,its,r,ob,k _ _ (.inl rfl) e,c⟩
 | dK kvs=>obtain ⟨z,y,vs,r,ob,es,ep,e,c⟩:=x; exact ⟨z,y,vs,r,ob,es,ep,k _ _ (.inl rfl) e,c⟩
 | dT kvs =>
  obtain ⟨z,y,xs,r,ob,es,ep,e,c⟩:=x
  exact ⟨z,y,xs,Paired.mapP r fun p q z=>⟨z.1,ht _ _ z.2.1,z.2.2⟩,ob,es,ep,k _ _ (.inl rfl) e,c⟩
 | set S n=>obtain ⟨ob,es,ep,t,e,c⟩:=x; exact ⟨ob,es,ep,t,k _ _ (.inl rfl) e,c⟩
 | ins C dx fs =>
  obtain ⟨d,z,ne,e,mA,⟨od,es,ep,e2,c⟩,r⟩:=x
  exact ⟨ho _ d,z,ne,k _ _ (.inl rfl) e,mA,⟨od,es,ep,k _ _ (.inr d) e2,c⟩,r⟩
 | own y=>obtain ⟨ob,e⟩:=x; exact ⟨ob,k _ _ (.inl rfl) e⟩
 | xd fs=>obtain ⟨mA,⟨od,es,ep,e,c⟩,r⟩:=x; exact ⟨mA,⟨od,es,ep,k _ _ (.inl rfl) e,c⟩,r⟩
 | rng lo hi=>obtain ⟨t,u,v,e⟩:=x; exact ⟨t,u,v,k _ _ (.inl rfl) e⟩
 | frz ob u ih=>obtain ⟨e,q⟩:=x; exact ⟨k _ _ (.inl rfl) e,ih q⟩
 | tbl ps =>
  have e:h.get? a = some { cls:=.none,data:=.fields ps }:=x
  show h'.get? a = some { cls:=.none,data:=.fields ps }
  exact k a _ (.inl rfl) e
 | met f y =>
  have e:h.get? a = some (PySem.W.methodObj (.ref f) (.ref y)):=x
  show h'.get? a = some (PySem.W.methodObj (.ref f) (.ref y))
  exact k a _ (.inl rfl) e
 | ext φ=>obtain ⟨p,⟨o,e⟩,st⟩:=x; exact ⟨st _ _ p fun o q=>k _ _ (.inl rfl) q,⟨o,k _ _ (.inl rfl) e⟩,st⟩
theorem HOk.lt (x:HOk P w H h) (e:H a = some o):a < h.objs.size:=(x a o e).lt
theorem HOk.fresh (x:HOk P w H h) (e:h.objs.size ≤ a):H a = none:=by
 cases q:H a with
 | none=>rfl
 | some u=>exact absurd (Nat.lt_of_lt_of_le (x.lt q) e) (Nat.lt_irrefl _)
theorem HOk.kept (x:HOk P w H h) (k:∀ b u,h.get? b = some u→h'.get? b = some u):HOk P w H h':=fun a o e =>
 (x a o e).stay (fun b u _ q=>k b u q) (fun _ q=>q) fun _ _ q=>q
theorem HOk.laid (x:HOk P w H h) (k:∀ b u,h.get? b = some u→h'.get? b = some u) (hp:h.objs.size ≤ a) (new:d0a P w (upd H a o) h' a o):HOk P w (upd H a o) h':=fun b u e=>by
 have hn:=x.fresh hp
 by_cases hb:b = a
 ·subst hb; rw [a0v] at e; cases e; exact new
 ·rw [a0l hb] at e
  exact (x b u e).stay (fun c v _ q=>k c v q) (fun c q=>by rw [a0l (b0c q hn)]; exact q) fun c xs q=>by rw [a0l (b0c q hn)]; exact q
end
def Rd (H:Hp) (a:Addr) (u:HO):Prop:=H a = some u ∨ ∃ o,H a = some (.frz o u)
theorem Rd.of {H:Hp} {a:Addr} {u:HO} (h:H a = some u):Rd H a u:=.inl h
theorem Rd.ok {P:Program} {w:World} {H:Hp} {h:Heap} {a:Addr} {u:HO} (r:Rd H a u) (x:HOk P w H h):d0a P w H h a u:=by
 rcases r with r | ⟨o,r⟩
 ·exact x a u r
 ·obtain ⟨_,q⟩:=x a _ r
  exact q
def Mut:Option HO→Prop
 | some (.lst _)=>True
 | some (.dK _)=>True
 | some (.dT _)=>True
 | some (.set _ _)=>True
 | some (.ins _ _ _)=>True
 | some (.ext _)=>True
 | _=>False
section
variable {P:Program} {w:World} {H:Hp} {h h':Heap} {x e:Addr} {o':HO}
theorem HOk.write (ok:HOk P w H h) (mu:Mut (H x)) (he:e = x ∨ H e = some (.own x)) (k:∀ b u,b ≠ e→h.get? b = some u→h'.get? b = some u) (heo:∃ u,h'.get? e = some u)
  (new:d0a P w (upd H x o') h' x o'):HOk P w (upd H x o') h':=fun b u q=>by
 have nown:∀ c y,H c = some (.own y)→c ≠ x:=fun c y r z=>by subst z; rw [r] at mu; exact mu
 have ntup:∀ c xs,H c = some (.tup xs)→c ≠ x:=fun c xs r z=>by subst z; rw [r] at mu; exact mu
 by_cases hb:b = x
 ·subst hb; rw [a0v] at q; cases q; exact new
 ·rw [a0l hb] at q
  by_cases hbe:b = e
  ·have q':H b = some (.own x):=by
    rcases he with z | z
    ·exact absurd (hbe.trans z) hb
    ·rw [hbe]; exact z
   rw [q] at q'; cases q'
   obtain ⟨v,hv⟩:=heo
   exact ⟨v,by rw [hbe]; exact hv⟩
  ·refine (ok b u q).stay (fun c v hc r=>k c v ?_ r) (fun c r=>by rw [a0l (nown c b r)]; exact r) fun c xs r=>by rw [a0l (ntup c xs r)]; exact r
   rcases hc with rfl | hc
   ·exact hbe
   ·rintro rfl
    rcases he with z | z
    ·exact nown c b hc z
    ·rw [hc] at z; cases z; exact hb rfl
end
structure Un (fs ex:List Addr) (H H':Hp) (h h':Heap):Prop where
 keep:∀ b o,h.get? b = some o→H b = none→b ∉ fs→b ∉ ex→h'.get? b = some o
 slot:∀ b o,h.get? b = some o→H b = none→b ∈ fs→b ∉ ex→∃ sl,h'.get? b = some { o with slots:=sl }
 free:∀ b o,h.get? b = some o→H b = none→b ∉ ex→H' b = none
 there:∀ b o,h.get? b = some o→b ∉ ex→∃ o',h'.get? b = some o'
 tups:∀ b xs,H b = some (.tup xs)→H' b = some (.tup xs)
 frzs:∀ b o u,H b = some (.frz o u)→H' b = some (.frz o u)
 tbls:∀ b ps,H b = some (.tbl ps)→∃ more,H' b = some (.tbl (ps ++ more))
section
variable {fs fs' ex ex':List Addr} {H H1 H2:Hp} {h h1 h2 h':Heap} {a x e:Addr} {o:HO}
theorem Un.any (u:Un fs ex H H1 h h1) {b:Addr} {ob:Obj} (q:h.get? b = some ob) (n:H b = none) (hx:b ∉ ex):∃ sl,h1.get? b = some { ob with slots:=sl }:=by
 by_cases hb:b ∈ fs
 ·exact u.slot b ob q n hb hx
 ·exact ⟨ob.slots,u.keep b ob q n hb hx⟩
theorem Un.trans (a:Un fs ex H H1 h h1) (b:Un fs ex H1 H2 h1 h2):Un fs ex H H2 h h2 where
 keep:=fun c ob q n hc hx=>b.keep c ob (a.keep c ob q n hc hx) (a.free c ob q n hx) hc hx
 slot:=fun c ob q n hc hx=>by
  obtain ⟨sl,e1⟩:=a.slot c ob q n hc hx
  obtain ⟨sl',e2⟩:=b.slot c _ e1 (a.free c ob q n hx) hc hx
  exact ⟨sl',e2⟩
 free:=fun c ob q n hx=>by
  obtain ⟨o',e1⟩:=a.there c ob q hx
  exact b.free c o' e1 (a.free c ob q n hx) hx
 there:=fun c ob q hx=>by
  obtain ⟨o',e1⟩:=a.there c ob q hx
  exact b.there c o' e1 hx
 tups:=fun c xs q=>b.tups c xs (a.tups c xs q)
 frzs:=fun c ob xs q=>b.frzs c ob xs (a.frzs c ob xs q)
 tbls:=fun c ps q=>by
  obtain ⟨m1,e1⟩:=a.tbls c ps q
  obtain ⟨m2,e2⟩:=b.tbls c _ e1
  exact ⟨m1 ++ m2,by rw [e2,Array.append_assoc]⟩
theorem Un.kept (k:∀ b u,h.get? b = some u→h'.get? b = some u):Un fs ex H H h h' :=
 ⟨fun b ob q _ _ _=>k b ob q,fun b ob q _ _ _=>⟨ob.slots,k b ob q⟩,fun _ _ _ n _=>n,fun b ob q _=>⟨ob,k b ob q⟩,fun _ _ q=>q,fun _ _ _ q=>q,fun _ ps q=>⟨#[],by rw [q]; simp⟩⟩
theorem Un.refl:Un fs ex H H h h:=Un.kept fun _ _ q=>q
theorem Un.laid (k:∀ b u,h.get? b = some u→h'.get? b = some u) (hp:h.objs.size ≤ a) (hn:H a = none):Un fs ex H (upd H a o) h h' where
 keep:=fun b u q _ _ _=>k b u q
 slot:=fun b u q _ _ _=>⟨u.slots,k b u q⟩
 free:=fun b u q n _=>by rw [a0l (Nat.ne_of_lt (Nat.lt_of_lt_of_le (Heap.lt_size q) hp))]; exact n
 there:=fun b u q _=>⟨u,k b u q⟩
 tups:=fun b xs q=>by rw [a0l (b0c q hn)]; exact q
 frzs:=fun b u xs q=>by rw [a0l (b0c q hn)]; exact q
 tbls:=fun b ps q=>⟨#[],by rw [a0l (b0c q hn),q]; simp⟩
theorem Un.write (mu:Mut (H x)) (he:e = x ∨ H e = some (.own x)) (k:∀ b u,b ≠ e→h.get? b = some u→h'.get? b = some u) (heo:∃ u,h'.get? e = some u):Un fs ex H (upd H x o) h h':=by
 have hx:∀ b,H b = none→b ≠ x:=fun b n z=>by subst z; rw [n] at mu; exact mu
 have hb:∀ b,H b = none→b ≠ e:=fun b n z=>by
  subst z
  rcases he with r | r
  ·exact hx b n r
  ·rw [n] at r; cases r
 have hm:∀ b u,H b = some u→¬ Mut (some u)→b ≠ x:=fun b u q nm z=>by subst z; rw [q] at mu; exact nm mu
 refine ⟨fun b u q n _ _=>k b u (hb b n) q,fun b u q n _ _=>⟨u.slots,k b u (hb b n) q⟩,fun b u q n _=>by rw [a0l (hx b n)]; exact n,fun b u q _=>?_,
  fun b xs q=>by rw [a0l (hm b _ q fun z=>z)]; exact q,fun b u xs q=>by rw [a0l (hm b _ q fun z=>z)]; exact q,fun b ps q=>⟨#[],by rw [a0l (hm b _ q fun z=>z),q]; simp⟩⟩
 by_cases hbe:b = e
 ·subst hbe; exact heo
 ·exact ⟨u,k b u hbe q⟩
theorem Un.mono (u:Un fs ex H H1 h h1) (hs:∀ b ∈ fs,b ∈ fs') (hx:∀ b ∈ ex,b ∈ ex'):Un fs' ex' H H1 h h1 :=
 ⟨fun b ob q n hb he=>u.keep b ob q n (fun z=>hb (hs b z)) fun z=>he (hx b z),fun _ _ q n _ he=>u.any q n fun z=>he (hx _ z),fun b ob q n he=>u.free b ob q n fun z=>he (hx b z),fun b ob q he=>u.there b ob q fun z=>he (hx b z),u.tups,u.frzs,u.tbls⟩
end
def trk (h:Heap) (H:Hp):List Addr:=(List.range h.objs.size).filter fun a=>(H a).isSome
def hidT (h:Heap) (H:Hp):Heap:=PySem.W.hideAll h (trk h H)
theorem z0d (h:Heap) (H:Hp):(hidT h H).objs.size = h.objs.size:=PySem.W.hideAll_size _ _
theorem c1b {h:Heap} {H:Hp} {b:Addr} {o:Obj} (e:h.get? b = some o) (n:H b = none):(hidT h H).get? b = some o :=
 PySem.W.hideAll_get _ e fun hm=>by
  have q:(H b).isSome = true:=(List.mem_filter.mp hm).2
  rw [n] at q; simp at q
theorem f1k {h:Heap} {H:Hp} {b:Addr} {o:Obj} (e:(hidT h H).get? b = some o):h.get? b = some o∧H b = none:=by
 have e':h.get? b = some o:=PySem.W.of_hideAll (trk h H) e
 refine ⟨e',?_⟩
 cases q:H b with
 | none=>rfl
 | some x =>
  have hm:b ∈ trk h H:=List.mem_filter.mpr ⟨List.mem_range.mpr (Heap.lt_size e'),by simp [q]⟩
  have z:(hidT h H).get? b = none:=PySem.W.hideAll_none (trk h H) hm
  rw [z] at e; cases e
def g1r (g h:Heap) (L:Addr):List (Addr × Obj):=(List.range h.objs.size).filterMap fun a=>if a = L ∨ (g.get? a).isSome = true then none else (h.get? a).map fun o=>(a,o)
def rest (g h:Heap) (L d:Addr):List (Addr × Obj):=(g1r g h L).filter fun p=>decide (p.1 ≠ d)
structure Mod (K:PySem.W.Frag) (mg:Str→Option Value) (base:Heap):Prop where
 kin:K.In base
 glob:base.Ns mainGlobals mg
 blt:∃ mb,base.Ns builtinsNs mb∧∀ x:Str,x ≠ "__name__" → mb x = bootBuiltins x
 nolimit:base.NoLimit
structure Cx where
 prog:Program
 w:World
 K:PySem.W.Frag
 mg:Str→Option Value
 base:Heap
 A:Around
 N:List Str
 s₀:Shared
 H₀:Hp
 env:Env
 outer:List Env
 stack:List Env
 ex:List Addr
 fn:Str→Bool
 calm:Bool
 pn:List (Addr × Obj)
 xe:Value→Shared→Prop
def frs (l:List Env):List Addr:=l.filterMap (·.frame)
abbrev Cx.fs (X:Cx):List Addr:=frs X.outer
def Vis (sc:Scope) (x:Str):Prop:=sc.names.lookup x = some .local ∨ sc.names.lookup x = some .cell ∨ sc.names.lookup x = some .free
def Loc (sc:Scope) (x:Str):Prop:=sc.names.lookup x = some .local ∨ sc.names.lookup x = some .cell
def Look (env:Env) (h:Heap) (m:Str→Option Value) (x:Str) (u:Value):Prop :=
 (env.kindOf x = some .local∧m x = some u) ∨ ((env.kindOf x = some .cell ∨ env.kindOf x = some .free)∧∃ c,env.cells.lookup x = some c∧h.IsCell c (some u))
structure Cx.Ok (X:Cx):Prop where
 mod:Mod X.K X.mg X.base
 kind:X.env.scope.kind = .function
 glob:X.env.globals = mainGlobals
 blt:X.env.builtins = builtinsNs
 above:X.s₀.heap.objs.size ≤ X.env.locals
 inj:∀ x y c,X.env.cells.lookup x = some c→X.env.cells.lookup y = some c→x = y
 has:∀ x,(X.env.kindOf x = some .cell ∨ X.env.kindOf x = some .free)→∃ c,X.env.cells.lookup x = some c
 cab:∀ x c,X.fn x = true→X.env.cells.lookup x = some c→X.s₀.heap.objs.size ≤ c
 hd:X.calm = true→X.A.handled = none
 frames:X.A.frames = some X.stack
 stk:X.stack = X.outer ∨ (X.stack = X.env :: X.outer∧X.env.frame = some X.env.locals)
 exf:∀ b ∈ X.ex,b ≠ X.env.locals∧∀ x c,X.env.cells.lookup x = some c→c ≠ b
 bs:∀ b o,X.base.get? b = some o→X.s₀.heap.get? b = some o∧X.H₀ b = none
 bsz:X.base.objs.size ≤ X.s₀.heap.objs.size
 noex:∀ b o,X.base.get? b = some o→b ∉ X.ex
 exfs:∀ b ∈ X.ex,b ∉ X.fs
 funs:X.s₀.heap.FunFrames X.base X.outer
 frf:∀ b ∈ X.fs,X.H₀ b = none
structure Inv (X:Cx) (pins:List (Addr × Obj)) (σ:List (Option V)) (H:Hp) (s:Shared):Prop where
 ok:X.Ok
 os:s.os = X.s₀.os
 bare:AllBare s.gens
 base:Un X.fs X.ex X.H₀ H X.s₀.heap s.heap
 loc:∃ m,s.heap.Ns X.env.locals m∧∀ (i:Nat) (x:Str) (v:V),X.N[i]? = some x→σ[i]? = some (some v)→Vis X.env.scope x→∃ u,RelV v u∧Look X.env s.heap m x u
 cell:∀ x c,X.env.cells.lookup x = some c→∃ v,s.heap.IsCell c v
 free:H X.env.locals = none
 freeC:∀ x c,X.env.cells.lookup x = some c→H c = none
 pin:∀ p ∈ X.pn ++ pins,s.heap.get? p.1 = some p.2∧H p.1 = none∧p.1 ≠ X.env.locals∧p.1 ∉ X.fs∧∀ v,p.2.data ≠ .cell v
 hok:HOk X.prog X.w H s.heap
 len:σ.length = X.N.length
section
variable {X:Cx} {pins:List (Addr × Obj)} {σ:List (Option V)} {H H':Hp} {s:Shared} {h':Heap}
theorem Cx.Ok.nofr (ok:X.Ok) {b:Addr} {o:Obj} (e:X.base.get? b = some o):b ∉ X.fs:=fun hb=>by
 have:=(ok.funs.mem hb).1
 rw [e] at this; cases this
theorem Inv.bs (I:Inv X pins σ H s):∀ b o,X.base.get? b = some o→s.heap.get? b = some o∧H b = none:=fun b o e =>
 ⟨I.base.keep b o (I.ok.bs b o e).1 (I.ok.bs b o e).2 (I.ok.nofr e) (I.ok.noex b o e),I.base.free b o (I.ok.bs b o e).1 (I.ok.bs b o e).2 (I.ok.noex b o e)⟩
theorem Inv.bk (I:Inv X pins σ H s):∀ b o,X.base.get? b = some o→s.heap.get? b = some o:=fun b o e=>(I.bs b o e).1
theorem Inv.mod (I:Inv X pins σ H s):Mod X.K X.mg X.base:=I.ok.mod
theorem Inv.kIn (I:Inv X pins σ H s):X.K.In s.heap:=I.ok.mod.kin.keeps I.bk
theorem Inv.nolimit (I:Inv X pins σ H s):s.heap.NoLimit:=I.ok.mod.nolimit.keeps I.bk
theorem Inv.fr (I:Inv X pins σ H s):∃ m,Fr X.base X.env.locals s.heap m :=
 let ⟨m,hn,_⟩:=I.loc
 ⟨m,hn,I.bk,Nat.le_trans I.ok.bsz I.ok.above⟩
theorem Inv.lt (I:Inv X pins σ H s):X.env.locals < s.heap.objs.size:=let ⟨_,hn,_⟩:=I.loc; hn.lt
theorem Inv.sz (I:Inv X pins σ H s):X.s₀.heap.objs.size ≤ s.heap.objs.size:=Nat.le_trans I.ok.above (Nat.le_of_lt I.lt)
theorem Inv.nofs (I:Inv X pins σ H s) {a:Addr} (h:s.heap.objs.size ≤ a):a ∉ X.fs:=fun hb=>by
 obtain ⟨_,o,ho,_⟩:=I.ok.funs.mem hb
 exact absurd (Nat.lt_of_lt_of_le (Heap.lt_size ho) (Nat.le_trans I.sz h)) (Nat.lt_irrefl _)
theorem Inv.cne (I:Inv X pins σ H s):∀ x c,X.env.cells.lookup x = some c→c ≠ X.env.locals:=fun x c e z=>by
 obtain ⟨v,o,ho,hd⟩:=I.cell x c e
 obtain ⟨m,⟨o',es,ep,ho',hd',_⟩,_⟩:=I.loc
 rw [z,ho'] at ho; cases ho; rw [hd'] at hd; cases hd
theorem Inv.funs (I:Inv X pins σ H s):s.heap.FunFrames X.base X.outer:=by
 have all:∀ (l:List Env),(∀ b ∈ frs l,b ∈ X.fs)→X.s₀.heap.FunFrames X.base l→s.heap.FunFrames X.base l:=by
  intro l
  induction l with
  | nil=>intro _ _; trivial
  | cons env r ih =>
   intro hs hl
   obtain ⟨hk,⟨L,o,hf,hn,ho,hd⟩,hr⟩:=hl
   have hL:L ∈ X.fs:=hs L (by unfold frs; rw [List.filterMap_cons,hf]; exact List.mem_cons_self)
   obtain ⟨sl,e⟩:=I.base.slot L o ho (I.ok.frf L hL) hL fun z=>I.ok.exfs L z hL
   exact ⟨hk,⟨L,_,hf,hn,e,hd⟩,ih (fun b hb=>hs b (by unfold frs; rw [List.filterMap_cons,hf]; exact List.mem_cons_of_mem _ hb)) hr⟩
 exact all X.outer (fun _ hb=>hb) I.ok.funs
theorem Inv.stack (I:Inv X pins σ H s):s.heap.FunFrames X.base X.stack:=by
 rcases I.ok.stk with e | ⟨e,hf⟩
 ·rw [e]; exact I.funs
 ·rw [e]
  obtain ⟨m,hn,_⟩:=I.loc
  refine .cons (by rw [I.ok.kind]; decide) hf hn ?_ I.funs
  exact Heap.get?_none_of_le (Nat.le_trans I.ok.bsz I.ok.above)
theorem Inv.stkSub (I:Inv X pins σ H s):∀ b ∈ frs X.stack,b ∈ X.env.locals :: X.fs:=fun b hb=>by
 rcases I.ok.stk with e | ⟨e,hf⟩
 ·rw [e] at hb; exact List.mem_cons_of_mem _ hb
 ·rw [e] at hb
  unfold frs at hb
  rw [List.filterMap_cons,hf] at hb
  exact hb
theorem Inv.stkFree (I:Inv X pins σ H s):∀ b ∈ frs X.stack,H b = none:=fun b hb=>by
 rcases List.mem_cons.mp (I.stkSub b hb) with e | hb
 ·rw [e]; exact I.free
 ·obtain ⟨_,o,ho,_⟩:=I.ok.funs.mem hb
  exact I.base.free b o ho (I.ok.frf b hb) fun z=>I.ok.exfs b z hb
theorem Inv.step {g':Array GenState} {t':Nat} {d':Drawn} {ch:List Addr} (I:Inv X pins σ H s)
  (hch:∀ b ∈ ch,(b ∈ X.ex ∨ X.s₀.heap.objs.size ≤ b)∧b ≠ X.env.locals∧(∀ x c,X.env.cells.lookup x = some c→c ≠ b)∧∀ p ∈ X.pn ++ pins,p.1 ≠ b)
  (keep:∀ b o,b ≠ X.env.locals→b ∉ X.fs→b ∉ ch→s.heap.get? b = some o→H b = none→h'.get? b = some o)
  (slot:∀ b o,b ≠ X.env.locals→b ∈ X.fs→b ∉ ch→s.heap.get? b = some o→H b = none→∃ sl,h'.get? b = some { o with slots:=sl }) (free:∀ b o,b ∉ ch→s.heap.get? b = some o→H b = none→H' b = none)
  (there:∀ b o,b ∉ ch→s.heap.get? b = some o→∃ o',h'.get? b = some o')
  (tups:∀ b xs,H b = some (.tup xs)→H' b = some (.tup xs)) (frzs:∀ b o u,H b = some (.frz o u)→H' b = some (.frz o u)) (tbls:∀ b ps,H b = some (.tbl ps)→∃ more,H' b = some (.tbl (ps ++ more)))
  (ns:∀ m,s.heap.Ns X.env.locals m→h'.Ns X.env.locals m) (hok:HOk X.prog X.w H' h') (hg:AllBare g') :
  Inv X pins σ H' { s with heap:=h',gens:=g',drawn:=d',toks:=t' }:=by
 have neL:∀ b o,X.s₀.heap.get? b = some o→b ≠ X.env.locals:=fun b o e=>Nat.ne_of_lt (Nat.lt_of_lt_of_le (Heap.lt_size e) I.ok.above)
 have neC:∀ b o,X.s₀.heap.get? b = some o→b ∉ X.ex→b ∉ ch:=fun b o e hx hb=>by
  rcases (hch b hb).1 with z | z
  ·exact hx z
  ·exact absurd (Nat.lt_of_lt_of_le (Heap.lt_size e) z) (Nat.lt_irrefl _)
 have cellK:∀ x c,X.env.cells.lookup x = some c→∀ v,s.heap.IsCell c v→h'.IsCell c v:=fun x c e v ⟨o,ho,hd⟩=>by
  have nch:c ∉ ch:=fun z=>(hch c z).2.2.1 x c e rfl
  by_cases hc:c ∈ X.fs
  ·obtain ⟨sl,q⟩:=slot c o (I.cne x c e) hc nch ho (I.freeC x c e)
   exact ⟨_,q,hd⟩
  ·exact ⟨o,keep c o (I.cne x c e) hc nch ho (I.freeC x c e),hd⟩
 refine ⟨I.ok,I.os,hg,⟨fun b o e n hb hx=>?_,fun b o e n hb hx=>?_,fun b o e n hx=>?_,fun b o e hx=>?_,fun b xs e=>tups b xs (I.base.tups b xs e),fun b o xs e=>frzs b o xs (I.base.frzs b o xs e),fun b ps e=>?_⟩,?_,fun x c e=>?_,?_,fun x c e=>?_,fun p hp=>?_,hok,I.len⟩
 ·exact keep b o (neL b o e) hb (neC b o e hx) (I.base.keep b o e n hb hx) (I.base.free b o e n hx)
 ·obtain ⟨sl,e1⟩:=I.base.slot b o e n hb hx
  obtain ⟨sl',e2⟩:=slot b _ (neL b o e) hb (neC b o e hx) e1 (I.base.free b o e n hx)
  exact ⟨sl',e2⟩
 ·obtain ⟨o',e1⟩:=I.base.there b o e hx
  exact free b o' (neC b o e hx) e1 (I.base.free b o e n hx)
 ·obtain ⟨o',e1⟩:=I.base.there b o e hx
  exact there b o' (neC b o e hx) e1
 ·obtain ⟨m1,e1⟩:=I.base.tbls b ps e
  obtain ⟨m2,e2⟩:=tbls b _ e1
  exact ⟨m1 ++ m2,by rw [e2,Array.append_assoc]⟩
 ·obtain ⟨m,hn,hl⟩:=I.loc
  refine ⟨m,ns m hn,fun i x v e1 e2 e3=>?_⟩
  obtain ⟨u,r,l⟩:=hl i x v e1 e2 e3
  refine ⟨u,r,?_⟩
  rcases l with l | ⟨k,c,e,z⟩
  ·exact .inl l
  ·exact .inr ⟨k,c,e,cellK x c e _ z⟩
 ·obtain ⟨v,z⟩:=I.cell x c e
  exact ⟨v,cellK x c e v z⟩
 ·obtain ⟨m,⟨o,_,_,ho,_⟩,_⟩:=I.loc
  exact free _ o (fun z=>(hch _ z).2.1 rfl) ho I.free
 ·obtain ⟨v,o,ho,hd⟩:=I.cell x c e
  exact free c o (fun z=>(hch c z).2.2.1 x c e rfl) ho (I.freeC x c e)
 ·obtain ⟨e,n,ne,nf,d⟩:=I.pin p hp
  have nch:p.1 ∉ ch:=fun z=>(hch p.1 z).2.2.2 p hp rfl
  exact ⟨keep p.1 p.2 ne nf nch e n,free p.1 p.2 nch e n,ne,nf,d⟩
theorem Inv.un {t':Nat} (I:Inv X pins σ H s) (u:Un X.fs [] H H' s.heap h') (hok:HOk X.prog X.w H' h'):Inv X pins σ H' { s with heap:=h',toks:=t' }:=by
 obtain ⟨m,⟨o,es,ep,ho,r⟩,_⟩:=id I.loc
 obtain ⟨sl,hL⟩:=u.any ho I.free (by simp)
 exact I.step (g':=s.gens) (d':=s.drawn) (ch:=[]) (fun _ z=>nomatch z) (fun b o _ hb _ e n=>u.keep b o e n hb (by simp)) (fun b o _ hb _ e n=>u.slot b o e n hb (by simp)) (fun b o _ e n=>u.free b o e n (by simp)) (fun b o _ e=>u.there b o e (by simp)) u.tups u.frzs u.tbls (fun m' hm=>by
  obtain ⟨o',es',ep',ho',r'⟩:=hm
  rw [ho] at ho'; cases ho'
  exact ⟨_,es',ep',hL,r'⟩) hok I.bare
theorem Inv.call {g':Array GenState} {t':Nat} {d':Drawn} {ch:List Addr} (I:Inv X pins σ H s) (u:Un (frs X.stack) ch H H' s.heap h') (hok:HOk X.prog X.w H' h') (hg:AllBare g')
  (hch:∀ b ∈ ch,(b ∈ X.ex ∨ X.s₀.heap.objs.size ≤ b)∧b ≠ X.env.locals∧(∀ x c,X.env.cells.lookup x = some c→c ≠ b)∧∀ p ∈ X.pn ++ pins,p.1 ≠ b) :
  Inv X pins σ H' { s with heap:=h',gens:=g',drawn:=d',toks:=t' }:=by
 obtain ⟨m,⟨o,es,ep,ho,r⟩,_⟩:=id I.loc
 obtain ⟨sl,hL⟩:=u.any ho I.free fun z=>(hch _ z).2.1 rfl
 exact I.step (ch:=ch) hch (fun b o hL hb hc e n=>u.keep b o e n (fun z=>(List.mem_cons.mp (I.stkSub b z)).elim hL hb) hc) (fun b o _ _ hc e n=>u.any e n hc) (fun b o hc e n=>u.free b o e n hc) (fun b o hc e=>u.there b o e hc) u.tups u.frzs u.tbls (fun m' hm=>by
  obtain ⟨o',es',ep',ho',r'⟩:=hm
  rw [ho] at ho'; cases ho'
  exact ⟨_,es',ep',hL,r'⟩) hok hg
theorem Inv.turned {t':Nat} {it:Addr} (I:Inv X pins σ H s) (k:∀ b o,b ≠ it→s.heap.get? b = some o→h'.get? b = some o) (hn:H it = none) (hL:it ≠ X.env.locals)
  (h1:it ∈ X.ex ∨ X.s₀.heap.objs.size ≤ it) (h2:∀ x c,X.env.cells.lookup x = some c→c ≠ it) (h3:∀ p ∈ X.pn ++ pins,p.1 ≠ it):Inv X pins σ H { s with heap:=h',toks:=t' }:=by
 have nit:∀ b u,H b = some u→b ≠ it:=fun b u e z=>by rw [z,hn] at e; cases e
 refine I.step (g':=s.gens) (d':=s.drawn) (ch:=[it]) (fun b hb=>?_) (fun b o _ _ hc e _=>k b o (fun z=>hc (by simp [z])) e) (fun b o _ _ hc e _=>⟨o.slots,k b o (fun z=>hc (by simp [z])) e⟩) (fun _ _ _ _ n=>n)
  (fun b o hc e=>⟨o,k b o (fun z=>hc (by simp [z])) e⟩) (fun _ _ e=>e) (fun _ _ _ e=>e) (fun b ps e=>⟨#[],by rw [e]; simp⟩) (fun m hm=>?_) (fun b u e=>?_) I.bare
 ·have e:b = it:=by simpa using hb
  subst e
  exact ⟨h1,hL,h2,h3⟩
 ·obtain ⟨o,es,ep,ho,r⟩:=hm
  exact ⟨o,es,ep,k _ o (Ne.symm hL) ho,r⟩
 ·refine (I.hok b u e).stay (fun c v hc q=>k c v ?_ q) (fun _ q=>q) fun _ _ q=>q
  rcases hc with z | z
  ·rw [z]; exact nit b u e
  ·exact nit c _ z
theorem Inv.tok (I:Inv X pins σ H s) (t:Nat):Inv X pins σ H { s with toks:=t }:=I.un (h':=s.heap) (t':=t) Un.refl I.hok
theorem Inv.kept {t':Nat} (I:Inv X pins σ H s) (k:∀ b u,s.heap.get? b = some u→h'.get? b = some u):Inv X pins σ H { s with heap:=h',toks:=t' }:=I.un (Un.kept k) (I.hok.kept k)
theorem Inv.laid {a:Addr} {o:HO} {t':Nat} (I:Inv X pins σ H s) (k:∀ b u,s.heap.get? b = some u→h'.get? b = some u) (hp:s.heap.objs.size ≤ a) (new:d0a X.prog X.w (upd H a o) h' a o) :
  Inv X pins σ (upd H a o) { s with heap:=h',toks:=t' }:=I.un (Un.laid k hp (I.hok.fresh hp)) (I.hok.laid k hp new)
theorem Inv.write {x e:Addr} {o:HO} {t':Nat} (I:Inv X pins σ H s) (mu:Mut (H x)) (he:e = x ∨ H e = some (.own x)) (k:∀ b u,b ≠ e→s.heap.get? b = some u→h'.get? b = some u) (heo:∃ u,h'.get? e = some u)
  (new:d0a X.prog X.w (upd H x o) h' x o):Inv X pins σ (upd H x o) { s with heap:=h',toks:=t' }:=I.un (Un.write mu he k heo) (I.hok.write mu he k heo new)
theorem Inv.weak {σ':List (Option V)} (I:Inv X pins σ H s) (hl:σ'.length = σ.length) (w:∀ (i:Nat) v,σ'[i]? = some (some v)→σ[i]? = some (some v)):Inv X pins σ' H s :=
 ⟨I.ok,I.os,I.bare,I.base,let ⟨m,hn,hl'⟩:=I.loc; ⟨m,hn,fun i x v e1 e2 e3=>hl' i x v e1 (w i v e2) e3⟩,I.cell,I.free,I.freeC,I.pin,I.hok,hl.trans I.len⟩
theorem Inv.pins_of {pins':List (Addr × Obj)} (I:Inv X pins σ H s) (h:∀ p ∈ pins',s.heap.get? p.1 = some p.2∧H p.1 = none∧p.1 ≠ X.env.locals∧p.1 ∉ X.fs∧∀ v,p.2.data ≠ .cell v):Inv X pins' σ H s :=
 ⟨I.ok,I.os,I.bare,I.base,I.loc,I.cell,I.free,I.freeC,fun p hp=>(List.mem_append.mp hp).elim (fun z=>I.pin p (List.mem_append_left _ z)) (h p),I.hok,I.len⟩
theorem t0r {N:List Str} (hN:N.Nodup) {i j:Nat} {x:Str} (a:N[i]? = some x) (b:N[j]? = some x):i = j:=by
 obtain ⟨h1,e1⟩:=List.getElem?_eq_some_iff.mp a
 obtain ⟨h2,e2⟩:=List.getElem?_eq_some_iff.mp b
 exact (List.getElem_inj hN).mp (e1.trans e2.symm)
theorem k0g {M:Model} {A:Around} {E:Value→Shared→Prop} {i:Nat} {x:Str} {v:V} {u:Value} {Q:Unit→Shared→Prop} (I:Inv X pins σ H s) (hN:X.N.Nodup) (hi:X.N[i]? = some x) (hx:Loc X.env.scope x) (r:RelV v u)
  (h:∀ s',Inv X pins (σ.set i (some v)) H s'→(∃ a,Heap.SameBut a s.heap s'.heap∧(a = X.env.locals ∨ X.env.cells.lookup x = some a))→Q () s') (hf:X.fn x = true ∨ X.env.scope.names.lookup x = some .local:=by first | exact .inl rfl | exact .inr rfl | assumption):wpAny M A (storeName X.env x u) Q E s:=by
 obtain ⟨m,hn,hl⟩:=id I.loc
 have hcls:(X.env.scope.kind == .class || (X.env.scope.kind == .module && X.env.locals != X.env.globals)) = false:=by rw [I.ok.kind]; rfl
 have hiσ:i < σ.length:=by rw [I.len]; exact (List.getElem?_eq_some_iff.mp hi).1
 have cne:=I.cne
 have tracked:∀ {a:Addr} {h':Heap},(∃ o,s.heap.get? a = some o∧H a = none)→Heap.SameBut a s.heap h'→HOk X.prog X.w H h':=fun {a h'} ha hs b ob e=>by
  obtain ⟨_,_,hfree⟩:=ha
  refine (I.hok b ob e).stay (fun c w' hc q=>(hs.2 c ?_).trans q) (fun _ q=>q) fun _ _ q=>q
  rintro rfl
  rcases hc with rfl | hc
  ·rw [hfree] at e; cases e
  ·rw [hfree] at hc; cases hc
 rcases hx with hk | hk
 ·refine wpAny_storeName_local hk hn (fun h' hn' hs=>?_) hcls
  obtain ⟨oL,_,_,hoL,_⟩:=id hn
  refine h _ ⟨I.ok,I.os,I.bare,⟨fun b o e n hb hx=>?_,fun b o e n hb hx=>?_,I.base.free,fun b o e hx=>?_,I.base.tups,I.base.frzs,I.base.tbls⟩,⟨_,hn',fun j y v' e1 e2 e3=>?_⟩,fun y c e=>?_,I.free,I.freeC,fun p hp=>?_,tracked ⟨oL,hoL,I.free⟩ hs,by simpa using I.len⟩ ⟨_,hs,.inl rfl⟩
  ·exact (hs.2 b (Nat.ne_of_lt (Nat.lt_of_lt_of_le (Heap.lt_size e) I.ok.above))).trans (I.base.keep b o e n hb hx)
  ·obtain ⟨sl,e1⟩:=I.base.slot b o e n hb hx
   exact ⟨sl,(hs.2 b (Nat.ne_of_lt (Nat.lt_of_lt_of_le (Heap.lt_size e) I.ok.above))).trans e1⟩
  ·obtain ⟨o',e1⟩:=I.base.there b o e hx
   exact ⟨o',(hs.2 b (Nat.ne_of_lt (Nat.lt_of_lt_of_le (Heap.lt_size e) I.ok.above))).trans e1⟩
  ·by_cases hj:j = i
   ·subst hj
    rw [hi] at e1; cases e1
    rw [List.getElem?_set_self hiσ] at e2
    cases e2
    exact ⟨u,r,.inl ⟨hk,by simp⟩⟩
   ·rw [List.getElem?_set_ne (Ne.symm hj)] at e2
    obtain ⟨u',r',q⟩:=hl j y v' e1 e2 e3
    refine ⟨u',r',?_⟩
    rcases q with ⟨k,e⟩ | ⟨k,c,e,z⟩
    ·refine .inl ⟨k,?_⟩
     have:y ≠ x:=fun e=>hj (t0r hN e1 (e ▸ hi))
     simp [this,e]
    ·exact .inr ⟨k,c,e,z.sameBut hs (cne y c e)⟩
  ·obtain ⟨w',z⟩:=I.cell y c e
   exact ⟨w',z.sameBut hs (cne y c e)⟩
  ·obtain ⟨e,n,ne,nf,d⟩:=I.pin p hp
   exact ⟨(hs.2 p.1 ne).trans e,n,ne,nf,d⟩
 ·have hfn:X.fn x = true:=by
   rcases hf with z | z
   ·exact z
   ·rw [z] at hk; cases hk
  obtain ⟨c,hc⟩:=I.ok.has x (.inl hk)
  obtain ⟨w',z⟩:=I.cell x c hc
  refine wpAny_storeName_cell I.ok.kind hk hc z (fun h' hc' hs=>?_)
  obtain ⟨oc,hoc,hocd⟩:=id z
  refine h { s with heap:=h' } ⟨I.ok,I.os,I.bare,⟨fun b o e n hb hx=>?_,fun b o e n hb hx=>?_,I.base.free,fun b o e hx=>?_,I.base.tups,I.base.frzs,I.base.tbls⟩,⟨m,hn.sameBut hs (Ne.symm (cne x c hc)),fun j y v' e1 e2 e3=>?_⟩,fun y c' e=>?_,I.free,I.freeC,fun p hp=>?_,tracked ⟨oc,hoc,I.freeC x c hc⟩ hs,by simpa using I.len⟩ ⟨c,hs,.inr hc⟩
  ·exact (hs.2 b (Nat.ne_of_lt (Nat.lt_of_lt_of_le (Heap.lt_size e) (I.ok.cab x c hfn hc)))).trans (I.base.keep b o e n hb hx)
  ·obtain ⟨sl,e1⟩:=I.base.slot b o e n hb hx
   exact ⟨sl,(hs.2 b (Nat.ne_of_lt (Nat.lt_of_lt_of_le (Heap.lt_size e) (I.ok.cab x c hfn hc)))).trans e1⟩
  ·obtain ⟨o',e1⟩:=I.base.there b o e hx
   exact ⟨o',(hs.2 b (Nat.ne_of_lt (Nat.lt_of_lt_of_le (Heap.lt_size e) (I.ok.cab x c hfn hc)))).trans e1⟩
  ·by_cases hj:j = i
   ·subst hj
    rw [hi] at e1; cases e1
    rw [List.getElem?_set_self hiσ] at e2
    cases e2
    exact ⟨u,r,.inr ⟨.inl hk,c,hc,hc'⟩⟩
   ·rw [List.getElem?_set_ne (Ne.symm hj)] at e2
    obtain ⟨u',r',q⟩:=hl j y v' e1 e2 e3
    refine ⟨u',r',?_⟩
    rcases q with q | ⟨k,c',e,z'⟩
    ·exact .inl q
    ·refine .inr ⟨k,c',e,z'.sameBut hs ?_⟩
     rintro rfl
     exact hj (t0r hN e1 (I.ok.inj _ _ _ e hc ▸ hi))
  ·by_cases hcc:c' = c
   ·subst hcc; exact ⟨_,hc'⟩
   ·obtain ⟨w2,z2⟩:=I.cell y c' e
    exact ⟨w2,z2.sameBut hs hcc⟩
  ·obtain ⟨e,n,ne,nf,d⟩:=I.pin p hp
   refine ⟨(hs.2 p.1 ?_).trans e,n,ne,nf,d⟩
   intro q
   rw [q,hoc] at e
   have q':oc = p.2:=Option.some.inj e
   exact d w' (by rw [← q']; exact hocd)
theorem n0d {M:Model} {A:Around} {E:Value→Shared→Prop} {i:Nat} {x:Str} {v:V} {u:Value} {Q:Unit→Shared→Prop} (I:Inv X pins σ H s) (hN:X.N.Nodup) (hi:X.N[i]? = some x) (hx:Loc X.env.scope x) (r:RelV v u)
  (h:∀ s',Inv X pins (σ.set i (some v)) H s'→Q () s') (hf:X.fn x = true ∨ X.env.scope.names.lookup x = some .local:=by first | exact .inl rfl | exact .inr rfl | assumption):wpAny M A (storeName X.env x u) Q E s :=
 k0g I hN hi hx r (fun s' I' _=>h s' I') hf
theorem Inv.call' {s':Shared} {ch:List Addr} (I:Inv X pins σ H s) (ho:s'.os = s.os) (u:Un (frs X.stack) ch H H' s.heap s'.heap) (hok:HOk X.prog X.w H' s'.heap) (hg:AllBare s'.gens)
  (hch:∀ b ∈ ch,(b ∈ X.ex ∨ X.s₀.heap.objs.size ≤ b)∧b ≠ X.env.locals∧(∀ x c,X.env.cells.lookup x = some c→c ≠ b)∧∀ p ∈ X.pn ++ pins,p.1 ≠ b):Inv X pins σ H' s':=by
 obtain ⟨h',g',d',t',o'⟩:=s'
 have e:o' = s.os:=ho
 subst e
 exact I.call (g':=g') (t':=t') (d':=d') u hok hg hch
end
abbrev XK:=Value→Option Addr→Hp→Prop
abbrev St:=List (Option V)
abbrev VK:=V→Hp→Prop
abbrev TE:=St→Hp→VK→Prop
abbrev TT:=St→Hp→(Bool→Hp→Prop)→Prop
abbrev TA:=St→Hp→(List V→Hp→Prop)→Prop
structure Ends where
 nx:St→Hp→Prop
 rt:VK
 bk:St→Hp→Prop:=fun _ _=>False
 ct:St→Hp→Prop:=fun _ _=>False
abbrev TS:=Ends→St→Hp→Prop
def EP (X:Cx) (pins:List (Addr × Obj)) (σ:St) (Q:VK) (u:Value) (s':Shared):Prop:=∃ v H',Inv X pins σ H' s'∧RelV v u∧Q v H'
def TP (X:Cx) (pins:List (Addr × Obj)) (σ:St) (Q:Bool→Hp→Prop) (b:Bool) (s':Shared):Prop:=∃ H',Inv X pins σ H' s'∧Q b H'
def AP (X:Cx) (pins:List (Addr × Obj)) (σ:St) (Q:List V→Hp→Prop) (us:List Value) (s':Shared):Prop:=∃ vs H',Inv X pins σ H' s'∧Vals vs us∧Q vs H'
def SP (X:Cx) (pins:List (Addr × Obj)) (D:Ends) (f:Flow) (s':Shared):Prop :=
 match f with
 | .next=>∃ σ' H',Inv X pins σ' H' s'∧D.nx σ' H'
 | .brk=>∃ σ' H',Inv X pins σ' H' s'∧D.bk σ' H'
 | .cont=>∃ σ' H',Inv X pins σ' H' s'∧D.ct σ' H'
 | .ret u=>∃ v σ' H',Inv X pins σ' H' s'∧RelV v u∧D.rt v H'
def PE (X:Cx) (e:Expr) (t:TE):Prop :=
 ∀ (pins:List (Addr × Obj)) (s:Shared) (σ:St) (H:Hp) (Q:VK),Inv X pins σ H s→t σ H Q→wpAny (model X.prog X.w) X.A (eval e X.env) (EP X pins σ Q) X.xe s
def PT (X:Cx) (e:Expr) (t:TT):Prop :=
 ∀ (pins:List (Addr × Obj)) (s:Shared) (σ:St) (H:Hp) (Q:Bool→Hp→Prop),Inv X pins σ H s→t σ H Q→wpAny (model X.prog X.w) X.A (isTrue e X.env (eval e X.env)) (TP X pins σ Q) X.xe s
def PW (X:Cx) (e:Expr) (t:TT):Prop :=
 ∀ (whole:Sem Value) (pins:List (Addr × Obj)) (s:Shared) (σ:St) (H:Hp) (Q:Bool→Hp→Prop),Inv X pins σ H s→t σ H Q→wpAny (model X.prog X.w) X.A (isTrue e X.env whole) (TP X pins σ Q) X.xe s
theorem PW.pt {X:Cx} {e:Expr} {t:TT} (h:PW X e t):PT X e t:=h _
def PA (X:Cx) (es:List Expr) (t:TA):Prop :=
 ∀ (pos:Pos) (pins:List (Addr × Obj)) (s:Shared) (σ:St) (H:Hp) (Q:List V→Hp→Prop),Inv X pins σ H s→t σ H Q→wpAny (model X.prog X.w) X.A (spliced (backTo pos (starEach es X.env))) (AP X pins σ Q) X.xe s
def PS (X:Cx) (st:Stmt) (t:TS):Prop :=
 ∀ (pins:List (Addr × Obj)) (s:Shared) (σ:St) (H:Hp) (D:Ends),Inv X pins σ H s→t D σ H→wpAny (model X.prog X.w) X.A (exec st X.env) (SP X pins D) X.xe s
def PSs (X:Cx) (st:List Stmt) (t:TS):Prop :=
 ∀ (pins:List (Addr × Obj)) (s:Shared) (σ:St) (H:Hp) (D:Ends),Inv X pins σ H s→t D σ H→wpAny (model X.prog X.w) X.A (execs st X.env) (SP X pins D) X.xe s
theorem thn {α:Type} {t:Sem α} {Q Q':α→Shared→Prop} {M:Model} {A:Around} {E:Value→Shared→Prop} {s:Shared} (h:wpAny M A t Q E s) (hQ:∀ a s,Q a s→Q' a s):wpAny M A t Q' E s:=wpAny_mono h hQ fun _ _ x=>x
section
variable {X:Cx}
def tVar (i:Nat):TE:=fun σ H Q=>∃ v,σ[i]? = some (some v)∧Q v H
def tC (v:V):TE:=fun _ H Q=>Q v H
theorem i1j {i:Nat} {x:Str} {pos:Pos} (hN:X.N[i]? = some x) (hv:Vis X.env.scope x) (hd:(x == ("__debug__" : Str)) = false:=by decide) (hcd:(x == ("__classdict__" : Str)) = false:=by decide):PE X (.Name x pos) (tVar i):=by
 intro pins s σ H Q I h
 obtain ⟨v,e,h⟩:=h
 obtain ⟨m,hn,hl⟩:=I.loc
 obtain ⟨u,r,l⟩:=hl i x v hN e hv
 have fin:EP X pins σ Q u s:=⟨v,H,I,r,h⟩
 rcases l with ⟨hk,hm⟩ | ⟨hk,c,hc,hcell⟩
 ·exact wpAny_Name (wpAny_loadName_local I.ok.kind hk hn hm fin) hd
 ·rcases hk with hk | hk
  ·exact wpAny_Name (wpAny_loadName_cell I.ok.kind hk hc hcell fin) hd
  ·exact wpAny_Name (wpAny_loadName_free I.ok.kind hk hc hcell fin hcd) hd
theorem a0q {i j pos}:PE X (.Constant (.int i) j pos) (tC (.int i)):=fun _ _ _ H _ I h=>wpAny_Constant_int ⟨.int i,H,I.tok _,⟨_,rfl⟩,h⟩
theorem m0c {b j pos}:PE X (.Constant (.bool b) j pos) (tC (.bl b)):=fun _ _ _ H _ I h=>Constant_bool ⟨.bl b,H,I,rfl,h⟩
theorem h0g {j pos}:PE X (.Constant .none j pos) (tC .non):=fun _ _ _ H _ I h=>Constant_none ⟨.non,H,I,rfl,h⟩
theorem e0f {x j pos}:PE X (.Constant (.str x) j pos) (tC (.str x)):=fun _ _ _ H _ I h=>Calls.Constant_str ⟨.str x,H,I.tok _,⟨_,rfl⟩,h⟩
def Gl (X:Cx) (x:Str):Prop:=X.env.kindOf x = some .globalImplicit
theorem g0m {E:Value→Shared→Prop} {pins:List (Addr × Obj)} {s:Shared} {σ:St} {H:Hp} {x:Str} {u:Value} {pos:Pos} {Q:Value→Shared→Prop} (I:Inv X pins σ H s) (hg:Gl X x) (hm:X.mg x = some u) (h:Q u s)
  (hd:(x == ("__debug__" : Str)) = false:=by decide):wpAny (model X.prog X.w) X.A (eval (.Name x pos) X.env) Q E s :=
 Calls.Name_function_global I.ok.kind hg (Calls.loadGlobal_global (by rw [I.ok.glob]; exact I.mod.glob.keeps I.bk) hm h) hd
theorem l0g {E:Value→Shared→Prop} {pins:List (Addr × Obj)} {s:Shared} {σ:St} {H:Hp} {x:Str} {u:Value} {pos:Pos} {Q:Value→Shared→Prop} (I:Inv X pins σ H s) (hg:Gl X x) (hm:X.mg x = none) (hv:bootBuiltins x = some u) (h:Q u s)
  (hn:x ≠ "__name__" := by decide) (hd:(x == ("__debug__" : Str)) = false:=by decide):wpAny (model X.prog X.w) X.A (eval (.Name x pos) X.env) Q E s:=by
 obtain ⟨mb,h1,h2⟩:=I.mod.blt
 exact Calls.Name_function_global I.ok.kind hg (Calls.loadGlobal_builtin (by rw [I.ok.glob]; exact I.mod.glob.keeps I.bk) hm (by rw [I.ok.blt]; exact h1.keeps I.bk) ((h2 x hn).trans hv) h) hd
theorem e0b {x:Str} {v:V} {u:Value} {pos:Pos} (hg:Gl X x) (hm:X.mg x = some u) (r:RelV v u) (hd:(x == ("__debug__" : Str)) = false:=by decide):PE X (.Name x pos) (tC v) :=
 fun _ _ _ H _ I h=>g0m I hg hm ⟨v,H,I,r,h⟩ hd
theorem f1i {x:Str} {v:V} {u:Value} {pos:Pos} (hg:Gl X x) (hm:X.mg x = none) (hv:bootBuiltins x = some u) (r:RelV v u) (hn:x ≠ "__name__" := by decide) (hd:(x == ("__debug__" : Str)) = false:=by decide):PE X (.Name x pos) (tC v) :=
 fun _ _ _ H _ I h=>l0g I hg hm hv ⟨v,H,I,r,h⟩ hn hd
variable {a b:Expr} {ta tb:TE} {pos:Pos}
def PC (X:Cx) (op:CmpOp) (a b:Expr) (t:TE):Prop :=
 ∀ (pins:List (Addr × Obj)) (s:Shared) (σ:St) (H:Hp) (Q:VK),Inv X pins σ H s→t σ H Q →
  wpAny (model X.prog X.w) X.A (eval a X.env) (fun v s₁=>wpAny (model X.prog X.w) X.A (eval b X.env) (fun u s₂=>wpAny (model X.prog X.w) X.A (compareOp op v u) (EP X pins σ Q) X.xe s₂) X.xe s₁) X.xe s
theorem b1p (b:Expr) {op:CmpOp} (h:op ≠ .In) (h2:op ≠ .NotIn):behindInMarks op b = false:=by
 have e1:(op == CmpOp.In) = false:=by cases op <;> first | rfl | exact absurd rfl h
 have e2:(op == CmpOp.NotIn) = false:=by cases op <;> first | rfl | exact absurd rfl h2
 cases b <;> simp [behindInMarks,e1,e2]
def tB (t:TE):TT:=fun σ H Q=>t σ H fun x H1=>∃ c,x = .bl c∧Q c H1
theorem t0g {op:CmpOp} {t:TE} (h:PC X op a b t) (h1:behindInMarks op b = false:=by first | exact b1p _ (by decide) (by decide) | rfl):PT X (.Compare a [op] [b] pos) (tB t):=by
 intro pins s σ H Q I hw
 refine wpAny_isTrue_Compare1 (thn (h pins s σ H _ I hw) fun v s1 h1=>thn h1 fun u s2 h2=>thn h2 fun c s3 ⟨x,H1,I1,r1,q1⟩=>?_) h1
 obtain ⟨d,rfl,q⟩:=q1
 cases r1
 exact wpAny_truthy_bool ⟨H1,I1,q⟩
theorem t0e {e:Expr} {t:TE} (h:PE X e t) (he:∀ whole,isTrue e X.env whole = (do let v ← whole; standAt e.pos; holding [v] (truthy v)):=by intro _; rfl):PT X e (tB t):=by
 intro pins s σ H Q I hw
 refine isTrue_plain (thn (h pins s σ H _ I hw) fun v s1 ⟨x,H1,I1,r1,q1⟩=>?_) (he _)
 obtain ⟨d,rfl,q⟩:=q1
 cases r1
 exact wpAny_truthy_bool ⟨H1,I1,q⟩
variable {tA tB':TT} {rest:List Expr}
def tAnd (t u:TT):TT:=fun σ H Q=>t σ H fun c H1=>if c = true then u σ H1 Q else Q false H1
def tOr (t u:TT):TT:=fun σ H Q=>t σ H fun c H1=>if c = true then Q true H1 else u σ H1 Q
def tNot (t:TT):TT:=fun σ H Q=>t σ H fun c H1=>Q (!c) H1
theorem x0q (ha:PT X a tA):PW X (.BoolOp .And [a] pos) tA:=by
 intro wh pins s σ H Q I h
 refine isTrue_and (thn (ha pins s σ H Q I h) fun c s1 e=>?_)
 cases c with
 | true=>exact isTrue_and_nil e
 | false=>exact e
theorem i1f (ha:PT X a tA):PW X (.BoolOp .Or [a] pos) tA:=by
 intro wh pins s σ H Q I h
 refine isTrue_or (thn (ha pins s σ H Q I h) fun c s1 e=>?_)
 cases c with
 | false=>exact isTrue_or_nil e
 | true=>exact e
theorem d1e (ha:PT X a tA) (hb:PW X (.BoolOp .And (b :: rest) pos) tB'):PW X (.BoolOp .And (a :: b :: rest) pos) (tAnd tA tB'):=by
 intro wh pins s σ H Q I h
 refine isTrue_and (thn (ha pins s σ H _ I h) fun c s1 ⟨H1,I1,q1⟩=>?_)
 cases c with
 | true=>exact hb wh pins s1 σ H1 Q I1 q1
 | false=>exact ⟨H1,I1,q1⟩
theorem k1m (ha:PT X a tA) (hb:PW X (.BoolOp .Or (b :: rest) pos) tB'):PW X (.BoolOp .Or (a :: b :: rest) pos) (tOr tA tB'):=by
 intro wh pins s σ H Q I h
 refine isTrue_or (thn (ha pins s σ H _ I h) fun c s1 ⟨H1,I1,q1⟩=>?_)
 cases c with
 | true=>exact ⟨H1,I1,q1⟩
 | false=>exact hb wh pins s1 σ H1 Q I1 q1
theorem x0s (ha:PT X a tA):PT X (.UnaryOp .Not a pos) (tNot tA):=by
 intro pins s σ H Q I h
 exact isTrue_not (ha pins s σ H (fun c H1=>Q (!c) H1) I h)
def h1w (ta tb:TE):TE:=fun σ H Q=>ta σ H fun x H1=>∃ c,x = .bl c∧if c = true then tb σ H1 Q else Q (.bl false) H1
def h1u (ta:TE):TE:=fun σ H Q=>ta σ H fun x H1=>∃ c,x = .bl c∧Q (.bl (!c)) H1
theorem t0k {op} {t:TE} (h:PE X a t):PE X (.BoolOp op [a] pos) t:=fun pins s σ H Q I hw=>BoolOp_one (h pins s σ H Q I hw)
theorem m0k (ha:PE X a ta) (hb:PE X (.BoolOp .And (b :: rest) pos) tb):PE X (.BoolOp .And (a :: b :: rest) pos) (h1w ta tb):=by
 intro pins s σ H Q I h
 refine BoolOp_and (thn (ha pins s σ H _ I h) fun v s1 ⟨x,H1,I1,r1,q1⟩=>?_)
 obtain ⟨c,rfl,q1⟩:=q1
 cases r1
 refine wpAny_truthy_bool ?_
 cases c with
 | true=>exact hb pins s1 σ H1 Q I1 q1
 | false=>exact ⟨.bl false,H1,I1,rfl,q1⟩
theorem i1k (ha:PE X a ta):PE X (.UnaryOp .Not a pos) (h1u ta):=by
 intro pins s σ H Q I h
 refine UnaryOp_ (thn (ha pins s σ H _ I h) fun v s1 ⟨x,H1,I1,r1,q1⟩=>?_)
 obtain ⟨c,rfl,q1⟩:=q1
 cases r1
 exact not_of (wpAny_truthy_bool ⟨.bl (!c),H1,I1,rfl,q1⟩)
def tIf (t:TT) (ta tb:TE):TE:=fun σ H Q=>t σ H fun c H1=>if c = true then ta σ H1 Q else tb σ H1 Q
theorem t0l {c:Expr} (hc:PT X c tA) (ha:PE X a ta) (hb:PE X b tb):PE X (.IfExp c a b pos) (tIf tA ta tb):=by
 intro pins s σ H Q I h
 refine wpAny_IfExp (thn (hc pins s σ H _ I h) fun d s1 ⟨H1,I1,q1⟩=>?_)
 cases d with
 | true=>exact ha pins s1 σ H1 Q I1 q1
 | false=>exact hb pins s1 σ H1 Q I1 q1
end
def SqL (K:PySem.W.Frag) (H:Hp) (a:Addr) (xs:List V):Prop :=
 Rd H a (.lst xs) ∨
  ∃ (o:Obj) (its:Array Value) (n:Nat),K.lookup a = some o∧o.cls = .type "list" ∧ o.dict = none∧o.data = .seq its n∧its.size ≤ sizeLine∧Vals xs its.toList
def SqT (K:PySem.W.Frag) (H:Hp) (a:Addr) (xs:List V):Prop :=
 Rd H a (.tup xs) ∨
  ∃ (o:Obj) (its:Array Value) (n:Nat),K.lookup a = some o∧o.cls = .type "tuple" ∧ o.data = .seq its n∧its.size ≤ sizeLine∧Vals xs its.toList
def absV:Value→Option V
 | .none=>some .non
 | .bool b=>some (.bl b)
 | .int i _=>some (.int i)
 | .str x _=>some (.str x)
 | .bytes b _=>some (.byt b)
 | .float b _=>some (.flt b)
 | .ref a=>some (.ref a)
 | .type n=>some (.ty n)
 | _=>none
theorem RelV.abs {x:V} {u:Value} (r:RelV x u):absV u = some x:=by
 cases x with
 | non=>cases r; rfl
 | bl _=>cases r; rfl
 | int _=>obtain ⟨t,rfl⟩:=r; rfl
 | str _=>obtain ⟨t,rfl⟩:=r; rfl
 | byt _=>obtain ⟨t,rfl⟩:=r; rfl
 | flt _=>obtain ⟨t,rfl⟩:=r; rfl
 | ref _=>cases r; rfl
 | ty _=>cases r; rfl
theorem RelV.inj {x y:V} {u:Value} (r:RelV x u) (q:RelV y u):x = y:=Option.some.inj (r.abs.symm.trans q.abs)
theorem Vals.inj:∀ {xs ys:List V} {us:List Value},Vals xs us→Vals ys us→xs = ys
 | _,_,_,.nil,.nil=>rfl
 | _,_,_,.cons r t,.cons r' t'=>by rw [r.inj r',Vals.inj t t']
section
variable {X:Cx} {pins:List (Addr × Obj)} {σ:St} {H:Hp} {s:Shared} {a:Addr} {xs ys:List V}
theorem SqL.of {K:PySem.W.Frag} (h:H a = some (.lst xs)):SqL K H a xs:=.inl (.inl h)
theorem SqT.of {K:PySem.W.Frag} (h:H a = some (.tup xs)):SqT K H a xs:=.inl (.inl h)
theorem Inv.list (I:Inv X pins σ H s) (h:SqL X.K H a xs):∃ its:List Value,Vals xs its∧PlainL s.heap a its.toArray∧xs.length ≤ sizeLine:=by
 rcases h with h | ⟨o,its,n,hk,hc,hd,hs,hz,r⟩
 ·obtain ⟨z,its,n,r,e⟩:=h.ok I.hok
  exact ⟨its,r,⟨_,n,e,rfl,rfl,rfl⟩,z⟩
 ·refine ⟨its.toList,r,⟨o,n,I.kIn a o hk,hc,hd,by simpa using hs⟩,?_⟩
  have e:=r.length
  simp only [Array.length_toList] at e
  omega
theorem Inv.tuple (I:Inv X pins σ H s) (h:SqT X.K H a xs):∃ its:List Value,Vals xs its∧IsTup s.heap a its.toArray∧xs.length ≤ sizeLine:=by
 rcases h with h | ⟨o,its,n,hk,hc,hs,hz,r⟩
 ·obtain ⟨z,its,r,p⟩:=h.ok I.hok
  exact ⟨its,r,p,z⟩
 ·refine ⟨its.toList,r,⟨o,I.kIn a o hk,hc,n,by simpa using hs⟩,?_⟩
  have e:=r.length
  simp only [Array.length_toList] at e
  omega
theorem Inv.list_inj (I:Inv X pins σ H s) (h:SqL X.K H a xs) (h':SqL X.K H a ys):xs = ys:=by
 obtain ⟨its,r,⟨o,n,e,_,_,d⟩,_⟩:=I.list h
 obtain ⟨its',r',⟨o',n',e',_,_,d'⟩,_⟩:=I.list h'
 rw [e] at e'; cases e'
 rw [d] at d'
 injection d' with d1 _
 have:its = its':=by simpa using congrArg Array.toList d1
 subst this
 exact r.inj r'
theorem Inv.tuple_inj (I:Inv X pins σ H s) (h:SqT X.K H a xs) (h':SqT X.K H a ys):xs = ys:=by
 obtain ⟨its,r,⟨o,e,_,n,d⟩,_⟩:=I.tuple h
 obtain ⟨its',r',⟨o',e',_,n',d'⟩,_⟩:=I.tuple h'
 rw [e] at e'; cases e'
 rw [d] at d'
 injection d' with d1 _
 have:its = its':=by simpa using congrArg Array.toList d1
 subst this
 exact r.inj r'
end
abbrev Cx.wish (X:Cx) (E:Value→Shared→Prop):Cx:={ X with xe:=E }
abbrev Cx.nox (X:Cx):Cx:=X.wish fun _ _=>False
theorem Cx.Ok.wish {X:Cx} (ok:X.Ok) (E:Value→Shared→Prop):(X.wish E).Ok :=
 ⟨ok.mod,ok.kind,ok.glob,ok.blt,ok.above,ok.inj,ok.has,ok.cab,ok.hd,ok.frames,ok.stk,ok.exf,ok.bs,ok.bsz,ok.noex,ok.exfs,ok.funs,ok.frf⟩
theorem Cx.Ok.unwish {X:Cx} {E:Value→Shared→Prop} (ok:(X.wish E).Ok):X.Ok :=
 ⟨ok.mod,ok.kind,ok.glob,ok.blt,ok.above,ok.inj,ok.has,ok.cab,ok.hd,ok.frames,ok.stk,ok.exf,ok.bs,ok.bsz,ok.noex,ok.exfs,ok.funs,ok.frf⟩
section
variable {X:Cx} {pins:List (Addr × Obj)} {σ:St} {H:Hp} {s:Shared} {E:Value→Shared→Prop}
theorem Inv.wish (I:Inv X pins σ H s) (E:Value→Shared→Prop):Inv (X.wish E) pins σ H s:=⟨I.ok.wish E,I.os,I.bare,I.base,I.loc,I.cell,I.free,I.freeC,I.pin,I.hok,I.len⟩
theorem Inv.unwish (I:Inv (X.wish E) pins σ H s):Inv X pins σ H s:=⟨I.ok.unwish,I.os,I.bare,I.base,I.loc,I.cell,I.free,I.freeC,I.pin,I.hok,I.len⟩
theorem SP.unwish {D:Ends} {f:Flow} {s':Shared} (h:SP (X.wish E) pins D f s'):SP X pins D f s':=by
 cases f with
 | next=>obtain ⟨σ',H',I,q⟩:=h; exact ⟨σ',H',I.unwish,q⟩
 | brk=>obtain ⟨σ',H',I,q⟩:=h; exact ⟨σ',H',I.unwish,q⟩
 | cont=>obtain ⟨σ',H',I,q⟩:=h; exact ⟨σ',H',I.unwish,q⟩
 | ret u=>obtain ⟨v,σ',H',I,r,q⟩:=h; exact ⟨v,σ',H',I.unwish,r,q⟩
theorem PE.nox {e:Expr} {t:TE} (h:PE X.nox e t):PE X e t:=fun pins s σ H Q I hw =>
 wpAny_mono (h pins s σ H Q (I.wish _) hw) (fun _ _ ⟨v,H',I',r,q⟩=>⟨v,H',I'.unwish,r,q⟩) fun _ _ z=>False.elim z
theorem PT.nox {e:Expr} {t:TT} (h:PT X.nox e t):PT X e t:=fun pins s σ H Q I hw =>
 wpAny_mono (h pins s σ H Q (I.wish _) hw) (fun _ _ ⟨H',I',q⟩=>⟨H',I'.unwish,q⟩) fun _ _ z=>False.elim z
theorem PSs.nox {st:List Stmt} {t:TS} (h:PSs X.nox st t):PSs X st t:=fun pins s σ H D I hw =>
 wpAny_mono (h pins s σ H D (I.wish _) hw) (fun _ _ q=>q.unwish) fun _ _ z=>False.elim z
end
section
variable {X:Cx} {st:Stmt} {rest:List Stmt} {t u:TS} {e:Expr} {te:TE} {pos:Pos}
def tNext:TS:=fun D σ H=>D.nx σ H
def tSeq (t u:TS):TS:=fun D σ H=>t { D with nx:=u D } σ H
theorem b0x:PSs X [] tNext:=fun _ _ σ H _ I h=>wpAny_execs_nil ⟨σ,H,I,h⟩
theorem a0f (h1:PS X st t) (h2:PSs X rest u):PSs X (st :: rest) (tSeq t u):=by
 intro pins s σ H D I h
 refine wpAny_execs_cons (thn (h1 pins s σ H { D with nx:=u D } I h) fun f s1 q=>?_)
 cases f with
 | next =>
  obtain ⟨σ',H',I',q⟩:=q
  exact h2 pins s1 σ' H' D I' q
 | ret v=>exact q
 | brk=>exact q
 | cont=>exact q
theorem a0k (h1:PS X st t):PSs X [st] t:=by
 intro pins s σ H D I h
 refine wpAny_execs_cons (thn (h1 pins s σ H D I h) fun f s1 q=>?_)
 cases f with
 | next=>exact wpAny_execs_nil q
 | ret v=>exact q
 | brk=>exact q
 | cont=>exact q
theorem Inv.quiet {pins:List (Addr × Obj)} {σ:St} {H:Hp} {s:Shared} (I:Inv X pins σ H s):interactive X.env = false:=by simp [interactive,I.ok.kind]
def h1v (te:TE):TS:=fun D σ H=>te σ H fun _ H1=>D.nx σ H1
theorem e0a (he:PE X e te) (hs:swapsWith e none pos.line X.env = pure false:=by rfl):PS X (.Expr e pos) (h1v te):=by
 intro pins s σ H D I h
 exact wpAny_Expr_any (thn (he pins s σ H _ I h) fun v s1 ⟨x,H1,I1,r1,q1⟩=>⟨σ,H1,I1,q1⟩) I.quiet hs
def tRet (te:TE):TS:=fun D σ H=>te σ H D.rt
theorem b0s (he:PE X e te):PS X (.Return (some e) pos) (tRet te):=by
 intro pins s σ H D I h
 exact wpAny_Return_some (thn (he pins s σ H _ I h) fun v s1 ⟨x,H1,I1,r1,q1⟩=>⟨x,σ,H1,I1,r1,q1⟩)
def tIfS (c:TT) (t u:TS):TS:=fun D σ H=>c σ H fun b H1=>if b = true then t D σ H1 else u D σ H1
theorem e0s {c:Expr} {a b:List Stmt} {tc:TT} (hc:PT X c tc) (ha:PSs X a t) (hb:PSs X b u):PS X (.If c a b pos) (tIfS tc t u):=by
 intro pins s σ H D I h
 refine wpAny_If (thn (hc pins s σ H _ I h) fun d s1 ⟨H1,I1,q1⟩=>?_)
 cases d with
 | true=>exact ha pins s1 σ H1 D I1 q1
 | false=>exact hb pins s1 σ H1 D I1 q1
def tNever:TS:=fun _ _ _=>False
theorem n0j:PS X st tNever:=fun _ _ _ _ _ _ h=>h.elim
end
abbrev TG:=V→St→Hp→(St→Hp→Prop)→Prop
abbrev TGs:=List V→St→Hp→(St→Hp→Prop)→Prop
def PG (X:Cx) (target:Expr) (t:TG):Prop :=
 ∀ (pins:List (Addr × Obj)) (s:Shared) (σ:St) (H:Hp) (v:V) (u:Value) (Q:St→Hp→Prop),Inv X pins σ H s→RelV v u→t v σ H Q →
  wpAny (model X.prog X.w) X.A (assign target X.env u) (fun _ s'=>∃ σ' H',Inv X pins σ' H' s'∧Q σ' H') X.xe s
def PGs (X:Cx) (ts:List Expr) (t:TGs):Prop :=
 ∀ (pins:List (Addr × Obj)) (s:Shared) (σ:St) (H:Hp) (vs:List V) (us:List Value) (Q:St→Hp→Prop),Inv X pins σ H s→Vals vs us→t vs σ H Q →
  wpAny (model X.prog X.w) X.A (assignInOrder ((assignEach ts X.env).map (·.2)) us) (fun _ s'=>∃ σ' H',Inv X pins σ' H' s'∧Q σ' H') X.xe s
abbrev TSet:=V→V→V→Hp→(Hp→Prop)→Prop
def PSet (X:Cx) (t:TSet):Prop :=
 ∀ (pins:List (Addr × Obj)) (s:Shared) (σ:St) (H:Hp) (o i v:V) (ov iv u:Value) (Q:Hp→Prop),Inv X pins σ H s→RelV o ov→RelV i iv→RelV v u→t o i v H Q →
  wpAny (model X.prog X.w) X.A (setItem ov iv u) (fun _ s'=>∃ H',Inv X pins σ H' s'∧Q H') X.xe s
abbrev TIp:=V→V→Hp→VK→Prop
def PIp (X:Cx) (op:Operator) (t:TIp):Prop :=
 ∀ (pins:List (Addr × Obj)) (s:Shared) (σ:St) (H:Hp) (x y:V) (v u:Value) (Q:VK),Inv X pins σ H s→RelV x v→RelV y u→t x y H Q →
  wpAny (model X.prog X.w) X.A (inplaceOp op v u) (EP X pins σ Q) X.xe s
section
variable {X:Cx} {pos:Pos}
def v0q (i:Nat):TG:=fun v σ H Q=>Q (σ.set i (some v)) H
theorem a0r {i:Nat} {x:Str} (hN:X.N.Nodup) (hi:X.N[i]? = some x) (hx:Loc X.env.scope x) (hf:X.fn x = true ∨ X.env.scope.names.lookup x = some .local:=by first | exact .inl rfl | exact .inr rfl | assumption):PG X (.Name x pos) (v0q i):=by
 intro pins s σ H v u Q I r h
 exact wpAny_assign_Name (n0d I hN hi hx r (fun s' I'=>⟨_,H,I',h⟩) hf)
def gNil:TGs:=fun vs σ H Q=>vs = []∧Q σ H
def c1f (t:TG) (u:TGs):TGs:=fun vs σ H Q=>∃ v r,vs = v :: r∧t v σ H fun σ' H'=>u r σ' H' Q
theorem c0t:PGs X [] gNil:=by
 intro pins s σ H vs us Q I r h
 obtain ⟨e,h⟩:=h
 subst e
 cases r
 exact assignInOrder_nil ⟨σ,H,I,h⟩
theorem a0x {e:Expr} {es:List Expr} {t:TG} {u:TGs} (h1:PG X e t) (h2:PGs X es u)
  (hs:(assignEach (e :: es) X.env).map (·.2) = assign e X.env :: (assignEach es X.env).map (·.2):=by rfl):PGs X (e :: es) (c1f t u):=by
 intro pins s σ H vs us Q I r h
 obtain ⟨v,vr,e1,h⟩:=h
 subst e1
 cases r with
 | cons r rr =>
  rw [hs]
  refine assignInOrder_cons (thn (h1 pins s σ H _ _ _ I r h) fun _ s1 ⟨σ1,H1,I1,q1⟩=>?_)
  exact h2 pins s1 σ1 H1 _ _ Q I1 rr q1
def gTup (K:PySem.W.Frag) (n:Nat) (t:TGs):TG:=fun v σ H Q=>∃ a xs,v = .ref a∧SqT K H a xs∧xs.length = n∧t xs σ H Q
theorem i1i {es:List Expr} {k:Nat} {t:TGs} {n:Nat} (hc:X.calm = true) (h:PGs X es t)
  (hn:(assignEach es X.env).length = n:=by rfl) (hst:(assignEach es X.env).findIdx? (·.1) = none:=by rfl):PG X (.Tuple es k pos) (gTup X.K n t):=by
 intro pins s σ H v u Q I r hw
 obtain ⟨a,xs,e1,hq,hl,hw⟩:=hw
 subst e1
 cases r
 obtain ⟨its,rv,ht,hz⟩:=I.tuple hq
 refine assign_Tuple_tuple (I.ok.hd hc) ht (by simp [hn,← hl,rv.length]) hst fun h' hx=>?_
 have I1:Inv X pins σ H { s with heap:=h' }:=I.kept (t':=s.toks) fun b o e=>hx b o (Nat.ne_of_lt (Heap.lt_size e)) e
 exact h pins _ σ H xs _ Q I1 (by simpa using rv) hw
def gSub (to ti:TE) (t:TSet):TG:=fun v σ H Q=>to σ H fun o H1=>ti σ H1 fun i H2=>t o i v H2 fun H3=>Q σ H3
theorem t0i {o i:Expr} {to ti:TE} {t:TSet} (ho:PE X o to) (hi:PE X i ti) (hs:PSet X t)
  (ha:∀ v,assign (.Subscript o i pos) X.env v = (do
   let ov ← holding [v] (eval o X.env)
   let iv ← holding [v,ov] (eval i X.env)
   standAt pos
   holding [v,ov,iv] (setItem ov iv v)
   release [v,ov,iv] []):=by intro _; rfl):PG X (.Subscript o i pos) (gSub to ti t):=by
 intro pins s σ H v u Q I r h
 rw [ha]
 refine wpAny_bind (wpAny_holding (thn (ho pins s σ H _ I h) fun ov s1 ⟨x,H1,I1,r1,q1⟩=>?_))
 refine wpAny_bind (wpAny_holding (thn (hi pins s1 σ H1 _ I1 q1) fun iv s2 ⟨y,H2,I2,r2,q2⟩=>?_))
 refine wpAny_bind (wpAny_standAt (wpAny_bind (wpAny_holding (thn (hs pins s2 σ H2 x y v ov iv u _ I2 r1 r2 r q2) fun _ s3 ⟨H3,I3,q3⟩=>?_))))
 exact wpAny_release ⟨σ,H3,I3,q3⟩
def tAsg (te:TE) (g:TG):TS:=fun D σ H=>te σ H fun x H1=>g x σ H1 D.nx
theorem e0d {tg e:Expr} {te:TE} {g:TG} (he:PE X e te) (hg:PG X tg g) (hs:swapsWithSole [tg] e pos.line X.env = pure false:=by rfl) (hw:swappedStores [tg] e X.env = pure none:=by rfl)
  (h1:(assignEach [tg] X.env).map (·.2) = [assign tg X.env]:=by rfl):PS X (.Assign [tg] e pos) (tAsg te g):=by
 intro pins s σ H D I h
 refine wpAny_Assign_stores (thn (he pins s σ H _ I h) fun v s1 ⟨x,H1,I1,r1,q1⟩=>?_) hs hw
 rw [h1]
 exact thn (hg pins s1 σ H1 x v _ I1 r1 q1) fun _ s2 q=>q
theorem b0f {i:Nat} {x:Str} {e:Expr} {te:TE} {pos':Pos} (hN:X.N.Nodup) (hi:X.N[i]? = some x) (hx:Loc X.env.scope x) (he:PE X e te) (hs:swapsWith e (some (.Name x pos')) pos.line X.env = pure false:=by rfl) (hf:X.fn x = true ∨ X.env.scope.names.lookup x = some .local:=by first | exact .inl rfl | exact .inr rfl | assumption) :
  PS X (.Assign [.Name x pos'] e pos) (tAsg te (v0q i)):=by
 intro pins s σ H D I h
 refine wpAny_Assign_Name (thn (he pins s σ H _ I h) fun v s1 ⟨y,H1,I1,r1,q1⟩=>?_) hs
 exact n0d I1 hN hi hx r1 (fun s2 I2=>⟨_,H1,I2,q1⟩) hf
def tAug (i:Nat) (te:TE) (ti:TIp):TS:=fun D σ H=>∃ x,σ[i]? = some (some x)∧te σ H fun y H1=>ti x y H1 fun z H2=>D.nx (σ.set i (some z)) H2
theorem d1g {i:Nat} {x:Str} {e:Expr} {te:TE} {op:Operator} {ti:TIp} {pos':Pos} (hN:X.N.Nodup) (hi:X.N[i]? = some x) (hx:Loc X.env.scope x) (he:PE X e te) (ho:PIp X op ti) (hf:X.fn x = true ∨ X.env.scope.names.lookup x = some .local:=by first | exact .inl rfl | exact .inr rfl | assumption) :
  PS X (.AugAssign (.Name x pos') op e pos) (tAug i te ti):=by
 intro pins s σ H D I h
 obtain ⟨v,e1,h⟩:=h
 obtain ⟨m,hn,hl⟩:=I.loc
 have vis:Vis X.env.scope x:=by rcases hx with k | k; exact .inl k; exact .inr (.inl k)
 obtain ⟨u,r,l⟩:=hl i x v hi e1 vis
 refine wpAny_AugAssign_Name ?_
 have go:wpAny (model X.prog X.w) X.A (eval e X.env) (fun w s₂=>wpAny (model X.prog X.w) X.A (inplaceOp op u w) (fun r s₃=>wpAny (model X.prog X.w) X.A (storeName X.env x r) (fun _=>SP X pins D .next) X.xe s₃) X.xe s₂) X.xe s:=by
  refine thn (he pins s σ H _ I h) fun w s1 ⟨y,H1,I1,r1,q1⟩=>?_
  refine thn (ho pins s1 σ H1 v y u w _ I1 r r1 q1) fun z s2 ⟨zv,H2,I2,r2,q2⟩=>?_
  exact n0d I2 hN hi hx r2 (fun s3 I3=>⟨_,H2,I3,q2⟩) hf
 rcases l with ⟨hk,hm⟩ | ⟨hk,c,hc,hcell⟩
 ·exact wpAny_loadName_local I.ok.kind hk hn hm go
 ·rcases hk with hk | hk
  ·exact wpAny_loadName_cell I.ok.kind hk hc hcell go
  ·rcases hx with k | k
   ·have:X.env.scope.names.lookup x = some .free:=hk
    rw [k] at this; cases this
   ·have:X.env.scope.names.lookup x = some .free:=hk
    rw [k] at this; cases this
def ipI (f:Int→Int→Int):TIp:=fun x y H Q=>∃ i j,x = .int i∧y = .int j∧Q (.int (f i j)) H
end
section
variable {X:Cx} {pos:Pos}
def c1y (c:TT) (tb:TS):TS:=fun D σ H=>∃ W:Nat→St→Hp→Prop,(∃ m,W m σ H)∧∀ m σ H,W m σ H →
 c σ H fun b H1=>if b = true then ∃ N:St→Hp→Prop,(∀ σ' H',N σ' H'→∃ m',m' < m∧W m' σ' H')∧tb { D with nx:=N,ct:=N,bk:=D.nx } σ H1 else D.nx σ H1
theorem t0h {c:Expr} {body:List Stmt} {tc:TT} {tb:TS} (hp:PassesOwn (model X.prog X.w) X.A X.env X.xe) (hc:PT X c tc) (hb:PSs X body tb):PS X (.While c body [] pos) (c1y tc tb):=by
 intro pins s σ H D I h
 obtain ⟨W,⟨m0,w0⟩,turn⟩:=h
 refine wpAny_While (codeAny_whileLoop (fun n s'=>∃ σ' H',Inv X pins σ' H' s'∧W n σ' H') ?_ m0 ⟨σ,H,I,w0⟩)
 rintro n s1 ⟨σ1,H1,I1,w1⟩
 refine wpAny_passesOwn hp (thn (hc pins s1 σ1 H1 _ I1 (turn n σ1 H1 w1)) fun b s2 ⟨H2,I2,q2⟩=>?_)
 cases b with
 | true =>
  obtain ⟨N,hN,q2⟩:=q2
  rw [if_pos rfl]
  refine wpAny_passesOwn hp (thn (hb pins s2 σ1 H2 _ I2 q2) fun f s3 q3=>?_)
  cases f with
  | next =>
   obtain ⟨σ3,H3,I3,n3⟩:=q3
   obtain ⟨m',hm,w3⟩:=hN σ3 H3 n3
   exact ⟨m',hm,σ3,H3,I3,w3⟩
  | cont =>
   obtain ⟨σ3,H3,I3,n3⟩:=q3
   obtain ⟨m',hm,w3⟩:=hN σ3 H3 n3
   exact ⟨m',hm,σ3,H3,I3,w3⟩
  | brk=>exact q3
  | ret v=>exact q3
 | false =>
  rw [if_neg Bool.false_ne_true]
  exact wpAny_execs_nil ⟨σ1,H2,I2,q2⟩
end
structure It where
 go:Nat→Hp→Prop
 yld:Nat→Hp→V→Hp→Prop
 stop:Nat→Hp→Prop
def FpOk (X:Cx) (pins:List (Addr × Obj)) (H:Hp) (b:Addr):Prop :=
 H b = none∧b ≠ X.env.locals∧b ∉ X.fs∧(b ∈ X.ex ∨ X.s₀.heap.objs.size ≤ b)∧(∀ x c,X.env.cells.lookup x = some c→c ≠ b)∧∀ p ∈ X.pn ++ pins,p.1 ≠ b
theorem Inv.fpOk {X:Cx} {pins:List (Addr × Obj)} {σ:St} {H H':Hp} {s:Shared} {b:Addr} (I:Inv X pins σ H s) (hb:s.heap.objs.size ≤ b) (hn:H' b = none):FpOk X pins H' b:=by
 refine ⟨hn,Nat.ne_of_gt (Nat.lt_of_lt_of_le I.lt hb),I.nofs hb,.inr (Nat.le_trans I.sz hb),fun x c e z=>?_,fun p hp z=>?_⟩
 ·obtain ⟨v,q⟩:=I.cell x c e
  exact absurd (Nat.lt_of_lt_of_le q.lt (by rw [z]; exact hb)) (Nat.lt_irrefl _)
 ·exact absurd (Nat.lt_of_lt_of_le (Heap.lt_size (I.pin p hp).1) (by rw [z]; exact hb)) (Nat.lt_irrefl _)
structure Turn (P:Program) (w:World) (K:PySem.W.Frag) (tg:Expr) (J:It) (fp:List Addr) (it:Addr) (tn:Nat→Heap→Prop):Prop where
 mem:it ∈ fp
 obj:∀ i h,tn i h→∀ b ∈ fp,∃ o,h.get? b = some o∧∀ v,o.data ≠ .cell v
 keep:∀ i h h',tn i h→(∀ b ∈ fp,∀ o,h.get? b = some o→h'.get? b = some o)→tn i h'
 item:∀ (X:Cx),X.prog = P→X.w = w→X.K = K→X.calm = true→∀ (i:Nat) (pins:List (Addr × Obj)) (s:Shared) (σ:St) (H:Hp) (E:Value→Shared→Prop),Inv X pins σ H s→(∀ b ∈ fp,FpOk X pins H b)→tn i s.heap→J.go i H →
  wpAny (model P w) X.A (pyNext (.ref it)) (fun r s1=>∃ u,r = some u ∧
   wpAny (model P w) X.A (letOwnedTupleGo tg (.ref it) u) (fun _ s2=>∃ x H',Inv X pins σ H' s2∧RelV x u∧J.yld i H x H'∧tn (i + 1) s2.heap∧∀ b ∈ fp,H' b = none) E s1) E s
 done:∀ (X:Cx),X.prog = P→X.w = w→X.K = K→X.calm = true→∀ (i:Nat) (pins:List (Addr × Obj)) (s:Shared) (σ:St) (H:Hp) (E:Value→Shared→Prop),Inv X pins σ H s→(∀ b ∈ fp,FpOk X pins H b)→tn i s.heap→J.stop i H →
  wpAny (model P w) X.A (pyNext (.ref it)) (fun r s1=>r = none∧Inv X pins σ H s1) E s
 self:∀ (A:Around) (i:Nat) (s:Shared) (Q:Value→Shared→Prop) (E:Value→Shared→Prop),tn i s.heap→Q (.ref it) s→wpAny (model P w) A (pyIter (.ref it)) Q E s
abbrev TI:=St→Hp→(It→Hp→Prop)→Prop
def PIE (X:Cx) (pins:List (Addr × Obj)) (σ:St) (tg:Expr) (R:It→Hp→Prop) (itv:Value) (s2:Shared):Prop :=
 ∃ (it:Addr) (fp:List Addr) (tn:Nat→Heap→Prop) (J:It) (H':Hp),itv = .ref it∧Inv X pins σ H' s2∧Turn X.prog X.w X.K tg J fp it tn∧tn 0 s2.heap∧(∀ b ∈ fp,FpOk X pins H' b)∧R J H'
def PI (X:Cx) (tg iter:Expr) (wi:TI):Prop :=
 ∀ (pins:List (Addr × Obj)) (s:Shared) (σ:St) (H:Hp) (R:It→Hp→Prop),Inv X pins σ H s→wi σ H R →
  wpAny (model X.prog X.w) X.A (eval iter X.env) (fun v s1=>wpAny (model X.prog X.w) X.A (pyIter v) (PIE X pins σ tg R) X.xe s1) X.xe s
theorem z0f {M:Model} {A:Around} {E:Value→Shared→Prop} {s:Shared} {tg:Expr} {it:Addr} {u:Value} {o:Obj} {n:String} {vs:Array Value} {Q:Unit→Shared→Prop} (ho:s.heap.get? it = some o) (hc:o.cls = .type n) (hd:o.data = .fields vs)
  (hn:["enumerate", "zip", "dict_itemiterator", "dict_reverseitemiterator", "odict_iterator", "itertools.zip_longest", "itertools.pairwise"].contains n = false) (hQ:Q () s):wpAny M A (letOwnedTupleGo tg (.ref it) u) Q E s:=by
 unfold letOwnedTupleGo
 cases tg <;> first
  | exact wpAny_pure hQ
  | (cases u <;> first
    | exact wpAny_pure hQ
    | (refine wpAny_bind (wpAny_load ho ?_); rw [hc,hd]; show wpAny M A (if (["enumerate", "zip", "dict_itemiterator", "dict_reverseitemiterator", "odict_iterator", "itertools.zip_longest", "itertools.pairwise"].contains n && vs[0]? == some (rawInt _)) = true then _ else _) Q E s; rw [if_neg (by intro h; rw [hn,Bool.false_and] at h; cases h)]; exact wpAny_pure hQ))
def Itl (K:PySem.W.Frag) (a:Addr):It :=
 ⟨fun i H=>∃ xs x,SqL K H a xs∧xs[i]? = some x,fun i H x H'=>H' = H∧∀ xs,SqL K H a xs→xs[i]? = some x,fun i H=>∃ xs,SqL K H a xs∧xs.length ≤ i⟩
def Itt (K:PySem.W.Frag) (a:Addr):It :=
 ⟨fun i H=>∃ xs x,SqT K H a xs∧xs[i]? = some x,fun i H x H'=>H' = H∧∀ xs,SqT K H a xs→xs[i]? = some x,fun i H=>∃ xs,SqT K H a xs∧xs.length ≤ i⟩
def Itr (lo:Int) (n:Nat):It:=⟨fun i _=>i < n,fun i H x H'=>H' = H∧x = .int (lo + i),fun i _=>n ≤ i⟩
theorem w0h {P:Program} {w:World} {K:PySem.W.Frag} {tg:Expr} (a it:Addr):Turn P w K tg (Itl K a) [it] it (fun i h=>h.IsListIter it a i) where
 mem:=by simp
 obj:=fun i h st b hb=>by
  have e:b = it:=by simpa using hb
  subst e
  obtain ⟨o,e,c,d⟩:=st
  exact ⟨o,e,fun v z=>by rw [d] at z; cases z⟩
 keep:=fun i h h' st k=>st.at fun o e=>k it (by simp) o e
 item:=by
  intro X hP hw hK hc i pins s σ H E I hf st hg
  subst hP hw hK
  obtain ⟨xs,x,hq,hx⟩:=hg
  obtain ⟨its,rv,p,hz⟩:=I.list hq
  obtain ⟨u,hu,ru⟩:=rv.get hx
  obtain ⟨f0,f1,f2,f3,f4,f5⟩:=hf it (by simp)
  refine wpAny_pyNext_list_item st p.isList (x:=u) (by simpa using hu) fun h' st' sb=>?_
  have I1:Inv X pins σ H { s with heap:=h' }:=I.turned (t':=s.toks) (fun b o hb e=>(sb.2 b hb).trans e) f0 f1 f3 f4 f5
  obtain ⟨o,e,c,d⟩:=id st'
  exact ⟨u,rfl,z0f (s:={ s with heap:=h' }) e c d (by decide) ⟨x,H,I1,ru,⟨rfl,fun ys hy=>by rw [I.list_inj hy hq]; exact hx⟩,st',fun b hb=>(hf b hb).1⟩⟩
 done:=by
  intro X hP hw hK hc i pins s σ H E I hf st hg
  subst hP hw hK
  obtain ⟨xs,hq,hx⟩:=hg
  obtain ⟨its,rv,p,hz⟩:=I.list hq
  obtain ⟨f0,f1,f2,f3,f4,f5⟩:=hf it (by simp)
  have hl:=rv.length
  exact wpAny_pyNext_list_end (I.ok.hd hc) st p.isList (by simp; omega) fun h' eb=>⟨rfl,I.turned (t':=s.toks) (fun b o hb e=>eb b o hb e) f0 f1 f3 f4 f5⟩
 self:=fun _ _ _ _ _ st h=>wpAny_pyIter_listiter st h
theorem u0q {P:Program} {w:World} {K:PySem.W.Frag} {tg:Expr} (a it:Addr):Turn P w K tg (Itt K a) [it] it (fun i h=>h.IsTupleIter it a i) where
 mem:=by simp
 obj:=fun i h st b hb=>by
  have e:b = it:=by simpa using hb
  subst e
  obtain ⟨o,e,c,d⟩:=st
  exact ⟨o,e,fun v z=>by rw [d] at z; cases z⟩
 keep:=fun i h h' st k=>st.at fun o e=>k it (by simp) o e
 item:=by
  intro X hP hw hK hc i pins s σ H E I hf st hg
  subst hP hw hK
  obtain ⟨xs,x,hq,hx⟩:=hg
  obtain ⟨its,rv,p,hz⟩:=I.tuple hq
  obtain ⟨u,hu,ru⟩:=rv.get hx
  obtain ⟨f0,f1,f2,f3,f4,f5⟩:=hf it (by simp)
  refine wpAny_pyNext_tuple_item st (show s.heap.IsTuple a its.toArray from p) (x:=u) (by simpa using hu) fun h' st' sb=>?_
  have I1:Inv X pins σ H { s with heap:=h' }:=I.turned (t':=s.toks) (fun b o hb e=>(sb.2 b hb).trans e) f0 f1 f3 f4 f5
  obtain ⟨o,e,c,d⟩:=id st'
  exact ⟨u,rfl,z0f (s:={ s with heap:=h' }) e c d (by decide) ⟨x,H,I1,ru,⟨rfl,fun ys hy=>by rw [I.tuple_inj hy hq]; exact hx⟩,st',fun b hb=>(hf b hb).1⟩⟩
 done:=by
  intro X hP hw hK hc i pins s σ H E I hf st hg
  subst hP hw hK
  obtain ⟨xs,hq,hx⟩:=hg
  obtain ⟨its,rv,p,hz⟩:=I.tuple hq
  obtain ⟨f0,f1,f2,f3,f4,f5⟩:=hf it (by simp)
  have hl:=rv.length
  exact wpAny_pyNext_tuple_end (I.ok.hd hc) st (show s.heap.IsTuple a its.toArray from p) (by simp; omega) fun h' eb=>⟨rfl,I.turned (t':=s.toks) (fun b o hb e=>eb b o hb e) f0 f1 f3 f4 f5⟩
 self:=fun _ _ _ _ _ st h=>wpAny_pyIter_tupleiter st h
theorem u0r {P:Program} {w:World} {K:PySem.W.Frag} {tg:Expr} (it:Addr) (lo:Int) (n:Nat):Turn P w K tg (Itr lo n) [it] it (fun i h=>IsRangeIter h it (lo + (i:Nat) * 1) ((n:Int) - (i:Nat)) 1) where
 mem:=by simp
 obj:=fun i h st b hb=>by
  have e:b = it:=by simpa using hb
  subst e
  exact ⟨_,st,fun v z=>by
   have z':Data.fields _ = Data.cell v:=z
   cases z'⟩
 keep:=fun i h h' st k=>k it (by simp) _ st
 item:=by
  intro X hP hw hK hc i pins s σ H E I hf st hg
  subst hP hw hK
  obtain ⟨f0,f1,f2,f3,f4,f5⟩:=hf it (by simp)
  have W:=Walks.range (prog:=X.prog) (w:=X.w) (I.ok.hd hc) it lo 1 n
  refine W.item i s _ _ hg st fun v h' tk hv st' kk=>?_
  obtain ⟨t,rfl⟩:=hv
  have I1:Inv X pins σ H { s with heap:=h',toks:=tk }:=I.turned (fun b o hb e=>kk b o (by simpa using hb) e) f0 f1 f3 f4 f5
  refine ⟨_,rfl,z0f (s:={ s with heap:=h',toks:=tk }) (n := "range_iterator") st' rfl rfl (by decide) ⟨.int (lo + i),H,I1,⟨t,?_⟩,⟨rfl,rfl⟩,st',fun b hb=>(hf b hb).1⟩⟩
  rw [Int.mul_one]
 done:=by
  intro X hP hw hK hc i pins s σ H E I hf st hg
  subst hP hw hK
  obtain ⟨f0,f1,f2,f3,f4,f5⟩:=hf it (by simp)
  exact wpAny_pyNext_range_end (I.ok.hd hc) st (by have:n ≤ i:=hg; omega) fun h' eb=>⟨rfl,I.turned (t':=s.toks) (fun b o hb e=>eb b o hb e) f0 f1 f3 f4 f5⟩
 self:=fun _ _ _ _ _ st h=>wpAny_pyIter_rangeiter st h
section
variable {X:Cx} {tg:Expr}
theorem b1e {pins:List (Addr × Obj)} {σ:St} {H:Hp} {s:Shared} {R:It→Hp→Prop} {E:Value→Shared→Prop} {lo hi:Int} {t u v:Tok} {tk:Nat} (I:Inv X pins σ H s) (h1:-(2 ^ 62) ≤ lo) (h2:lo < 2 ^ 62) (h3:-(2 ^ 62) ≤ hi) (h4:hi < 2 ^ 62)
  (q:R (Itr lo (hi - lo).toNat) H):wpAny (model X.prog X.w) X.A (pyIter (.ref s.heap.objs.size)) (PIE X pins σ tg R) E { s with heap:=s.heap.push { cls:=.type "range",data:=.fields #[.int lo t,.int hi u,.int 1 v] },toks:=tk }:=by
 refine wpAny_pyIter_range (IsRange.new ..) (small_one h1 h2 h3 h4) ?_
 have I1:Inv X pins σ H { s with heap:=s.heap.push { cls:=.type "range",data:=.fields #[.int lo t,.int hi u,.int 1 v] },toks:=tk }:=I.kept fun b o e=>Heap.get?_push_of_some _ e
 refine ⟨(s.heap.push { cls:=.type "range",data:=.fields #[.int lo t,.int hi u,.int 1 v] }).objs.size,[(s.heap.push { cls:=.type "range",data:=.fields #[.int lo t,.int hi u,.int 1 v] }).objs.size],_,_,H,rfl,
  I1.kept (t':=tk) fun b o e=>Heap.get?_push_of_some _ e,u0r _ lo (hi - lo).toNat,?_,fun b hb=>?_,q⟩
 ·have e1:lo + ((0:Nat):Int) * 1 = lo:=by simp
  have e2:(((hi - lo).toNat:Nat):Int) - ((0:Nat):Int) = Builtin.Range.rangeSize lo hi 1:=by rw [rangeSize_one]; split <;> omega
  show IsRangeIter _ _ (lo + ((0:Nat):Int) * 1) ((((hi - lo).toNat:Nat):Int) - ((0:Nat):Int)) 1
  rw [e1,e2]
  exact Heap.get?_push_size _ rfl
 ·have e:b = (s.heap.push { cls:=.type "range",data:=.fields #[.int lo t,.int hi u,.int 1 v] }).objs.size:=by simpa using hb
  subst e
  exact I1.fpOk (Nat.le_refl _) (I1.hok.fresh (Nat.le_refl _))
def j1j (ta:TA):TI:=fun σ H R=>ta σ H fun vs H1=>∃ j:Int,vs = [.int j]∧-(2 ^ 62) ≤ j∧j < 2 ^ 62∧R (Itr 0 j.toNat) H1
theorem c0g {a:Expr} {ta:TA} {p pos:Pos} (hg:Gl X "range") (hm:X.mg "range" = none) (ha:PA X [a] ta) (hs:starEach [a] X.env = [(false,eval a X.env)]:=by rfl):PI X tg (.Call (.Name "range" p) [a] [] pos) (j1j ta):=by
 intro pins s σ H R I h
 refine Call_ (l0g I hg hm boot_range (PyProof.Rows.callWith_type1 (thn (ha pos pins s σ H _ I h) fun us s1 ⟨vs,H1,I1,r1,q1⟩=>?_) hs rfl))
 obtain ⟨j,e,q1,q2,q⟩:=q1
 subst e
 cases r1 with
 | cons r rr =>
  cases rr
  obtain ⟨t,rfl⟩:=r
  exact call_range_1 (b1e I1 (by omega) (by omega) q1 q2 (by simpa using q))
def tFor (wi:TI) (g:TG) (tb:TS):TS:=fun D σ H=>wi σ H fun J H1=>∃ W:Nat→Nat→St→Hp→Prop,(∃ m,W 0 m σ H1)∧∀ i m σ H,W i m σ H →
 (J.stop i H∧D.nx σ H) ∨ (J.go i H∧∃ N:St→Hp→Prop,(∀ σ' H',N σ' H'→∃ m',m' < m∧W (i + 1) m' σ' H')∧∀ x H',J.yld i H x H'→g x σ H' fun σ2 H2=>tb { D with nx:=N,ct:=N,bk:=D.nx } σ2 H2)
def g0h (fp:List Addr) (h:Heap):List (Addr × Obj):=fp.filterMap fun b=>(h.get? b).map fun o=>(b,o)
theorem c0p {fp:List Addr} {h:Heap} {b:Addr} {o:Obj} (hb:b ∈ fp) (e:h.get? b = some o):(b,o) ∈ g0h fp h:=List.mem_filterMap.mpr ⟨b,hb,by rw [e]; rfl⟩
theorem p0j {fp:List Addr} {h:Heap} {p:Addr × Obj} (hp:p ∈ g0h fp h):p.1 ∈ fp∧h.get? p.1 = some p.2:=by
 obtain ⟨b,hb,e⟩:=List.mem_filterMap.mp hp
 cases q:h.get? b with
 | none=>rw [q] at e; cases e
 | some o =>
  rw [q] at e
  have e':(b,o) = p:=Option.some.inj e
  subst e'
  exact ⟨hb,q⟩
theorem Inv.pinned {pins:List (Addr × Obj)} {σ:St} {H:Hp} {s:Shared} {fp:List Addr} (I:Inv X pins σ H s) (hf:∀ b ∈ fp,FpOk X pins H b) (ho:∀ b ∈ fp,∃ o,s.heap.get? b = some o∧∀ v,o.data ≠ .cell v):Inv X (pins ++ g0h fp s.heap) σ H s :=
 I.pins_of fun p hp=>(List.mem_append.mp hp).elim (fun z=>I.pin p (List.mem_append_right _ z)) fun z=>by
  obtain ⟨hb,e⟩:=p0j z
  obtain ⟨f0,f1,f2,_⟩:=hf p.1 hb
  obtain ⟨o,e',d⟩:=ho p.1 hb
  rw [e] at e'; cases e'
  exact ⟨e,f0,f1,f2,d⟩
theorem Inv.unpinned {pins pl:List (Addr × Obj)} {σ:St} {H:Hp} {s:Shared} (I:Inv X (pins ++ pl) σ H s):Inv X pins σ H s:=I.pins_of fun p hp=>I.pin p (List.mem_append_right _ (List.mem_append_left _ hp))
theorem e0v {iter:Expr} {body:List Stmt} {wi:TI} {g:TG} {tb:TS} {pos:Pos} (hp:PassesOwn (model X.prog X.w) X.A X.env X.xe) (hc:X.calm = true) (hi:PI X tg iter wi) (hg:PG X tg g) (hb:PSs X body tb)
  (hs:∀ x,foldedSetIterable iter X.env x = pure x:=by intro _; rfl):PS X (.For tg iter body [] pos) (tFor wi g tb):=by
 intro pins s σ H D I h
 refine wpAny_For (thn (hi pins s σ H _ I h) fun v s1 h1=>thn h1 fun itv s2 h2=>?_) hs
 obtain ⟨it,fp,tn,J,H2,e,I2,T,st2,f2,W,⟨m0,w0⟩,turn⟩:=h2
 subst e
 have stat:∀ {H':Hp},(∀ b ∈ fp,H' b = none)→∀ b ∈ fp,FpOk X pins H' b:=fun hn b hb=>⟨hn b hb,(f2 b hb).2⟩
 refine codeAny_forLoop_any (fun n s'=>∃ i σ' H',Inv X pins σ' H' s'∧tn i s'.heap∧(∀ b ∈ fp,H' b = none)∧W i n σ' H') ?_ m0 ⟨0,σ,H2,I2,st2,fun b hb=>(f2 b hb).1,w0⟩
 rintro n s3 ⟨i,σ3,H3,I3,st3,fr3,w3⟩
 rcases turn i n σ3 H3 w3 with ⟨stop,qn⟩ | ⟨go,N,hN,step⟩
 ·refine wpAny_passesOwn hp (thn (T.done X rfl rfl rfl hc i pins s3 σ3 H3 X.xe I3 (stat fr3) st3 stop) fun r s4 ⟨hr,I4⟩=>?_)
  subst hr
  exact wpAny_execs_nil ⟨σ3,H3,I4,qn⟩
 ·refine wpAny_passesOwn hp (thn (T.item X rfl rfl rfl hc i pins s3 σ3 H3 X.xe I3 (stat fr3) st3 go) fun r s4 ⟨u,hr,h4⟩=>?_)
  subst hr
  refine wpAny_passesOwn hp (thn h4 fun _ s5 ⟨x,H5,I5,r5,y5,st5,fr5⟩=>?_)
  have I5':=I5.pinned (stat fr5) (T.obj _ _ st5)
  refine wpAny_passesOwn hp (thn (hg _ s5 σ3 H5 x u _ I5' r5 (step x H5 y5)) fun _ s6 ⟨σ6,H6,I6,q6⟩=>?_)
  refine wpAny_passesOwn hp (thn (hb _ s6 σ6 H6 _ I6 q6) fun f s7 q7=>?_)
  have again:∀ {σ7:St} {H7:Hp},Inv X (pins ++ g0h fp s5.heap) σ7 H7 s7→N σ7 H7→∃ m,m < n∧∃ i σ' H',Inv X pins σ' H' s7∧tn i s7.heap∧(∀ b ∈ fp,H' b = none)∧W i m σ' H':=fun {σ7 H7} I7 n7=>by
   obtain ⟨m',hm,w7⟩:=hN σ7 H7 n7
   refine ⟨m',hm,i + 1,σ7,H7,I7.unpinned,T.keep _ _ _ st5 fun b hb o e=>(I7.pin (b,o) (List.mem_append_right _ (List.mem_append_right _ (c0p hb e)))).1,fun b hb=>?_,w7⟩
   obtain ⟨o,e,d⟩:=T.obj _ _ st5 b hb
   exact (I7.pin (b,o) (List.mem_append_right _ (List.mem_append_right _ (c0p hb e)))).2.1
  cases f with
  | next=>obtain ⟨σ7,H7,I7,n7⟩:=q7; exact again I7 n7
  | cont=>obtain ⟨σ7,H7,I7,n7⟩:=q7; exact again I7 n7
  | brk=>obtain ⟨σ7,H7,I7,q7⟩:=q7; exact ⟨σ7,H7,I7.unpinned,q7⟩
  | ret v=>obtain ⟨x7,σ7,H7,I7,r7,q7⟩:=q7; exact ⟨x7,σ7,H7,I7.unpinned,r7,q7⟩
end
abbrev R2:=V→V→Hp→VK→Prop
def OpR (X:Cx) (f:Value→Value→Sem Value) (r:R2):Prop :=
 ∀ (pins:List (Addr × Obj)) (s:Shared) (σ:St) (H:Hp) (x y:V) (v u:Value) (Q:VK),Inv X pins σ H s→RelV x v→RelV y u→r x y H Q →
  wpAny (model X.prog X.w) X.A (f v u) (EP X pins σ Q) X.xe s
def h0c (X:Cx) (f:Value) (r:List V→Hp→VK→Prop):Prop :=
 ∀ (pins:List (Addr × Obj)) (s:Shared) (σ:St) (H:Hp) (xs:List V) (us:List Value) (Q:VK),Inv X pins σ H s→Vals xs us→r xs H Q →
  wpAny (model X.prog X.w) X.A (call f us) (EP X pins σ Q) X.xe s
def TruR (X:Cx) (r:V→Hp→(Bool→Hp→Prop)→Prop):Prop :=
 ∀ (pins:List (Addr × Obj)) (s:Shared) (σ:St) (H:Hp) (x:V) (v:Value) (Q:Bool→Hp→Prop),Inv X pins σ H s→RelV x v→r x H Q →
  wpAny (model X.prog X.w) X.A (truthy v) (TP X pins σ Q) X.xe s
def tOp (r:R2) (ta tb:TE):TE:=fun σ H Q=>ta σ H fun x H1=>tb σ H1 fun y H2=>r x y H2 Q
def rI (C:Int→Int→Prop) (g:Int→Int→V):R2:=fun x y H Q=>∃ i j,x = .int i∧y = .int j∧C i j∧Q (g i j) H
def rI0 (g:Int→Int→V):R2:=fun x y H Q=>∃ i j,x = .int i∧y = .int j∧Q (g i j) H
section
variable {X:Cx} {a b c:Expr} {ta tb tc:TE} {pos:Pos}
theorem binT (ha:PE X a ta) (hb:PE X b tb) {pins:List (Addr × Obj)} {s:Shared} {σ:St} {H:Hp} {R:V→V→Hp→Prop} (I:Inv X pins σ H s)
  (h:ta σ H fun x H1=>tb σ H1 fun y H2=>R x y H2) {Q:Value→Shared→Prop} {f:Value→Value→Sem Value}
  (hf:∀ v u s2 x y H2,Inv X pins σ H2 s2→RelV x v→RelV y u→R x y H2→wpAny (model X.prog X.w) X.A (f v u) Q X.xe s2) :
  wpAny (model X.prog X.w) X.A (eval a X.env) (fun v s₁=>wpAny (model X.prog X.w) X.A (eval b X.env) (fun u s₂=>wpAny (model X.prog X.w) X.A (f v u) Q X.xe s₂) X.xe s₁) X.xe s:=by
 refine thn (ha pins s σ H _ I h) fun v s1 ⟨x,H1,I1,r1,q1⟩=>?_
 refine thn (hb pins s1 σ H1 _ I1 q1) fun u s2 ⟨y,H2,I2,r2,q2⟩=>?_
 exact hf v u s2 x y H2 I2 r1 r2 q2
theorem b0o {op:Operator} {r:R2} (ho:OpR X (binaryOp op) r) (ha:PE X a ta) (hb:PE X b tb):PE X (.BinOp a op b pos) (tOp r ta tb):=by
 intro pins s σ H Q I h
 exact wpAny_BinOp (binT ha hb I h fun v u s2 x y H2 I2 rx ry q=>ho pins s2 σ H2 x y v u Q I2 rx ry q)
theorem opI {f:Value→Value→Sem Value} {C:Int→Int→Prop} {g:Int→Int→Int}
  (rule:∀ (i j:Int) (t u:Tok) (s:Shared) (Q:Value→Shared→Prop) (E:Value→Shared→Prop),C i j→Q (.int (g i j) s.toks) { s with toks:=s.toks + 1 }→wpAny (model X.prog X.w) X.A (f (.int i t) (.int j u)) Q E s) :
  OpR X f (rI C fun i j=>.int (g i j)):=by
 intro pins s σ H x y v u Q I rx ry h
 obtain ⟨i,j,rfl,rfl,hc,q⟩:=h
 obtain ⟨t,rfl⟩:=rx
 obtain ⟨t',rfl⟩:=ry
 exact rule i j t t' s _ _ hc ⟨.int (g i j),H,I.tok _,⟨_,rfl⟩,q⟩
theorem opI0 {f:Value→Value→Sem Value} {g:Int→Int→Int}
  (rule:∀ (i j:Int) (t u:Tok) (s:Shared) (Q:Value→Shared→Prop) (E:Value→Shared→Prop),Q (.int (g i j) s.toks) { s with toks:=s.toks + 1 }→wpAny (model X.prog X.w) X.A (f (.int i t) (.int j u)) Q E s) :
  OpR X f (rI0 fun i j=>.int (g i j)):=by
 intro pins s σ H x y v u Q I rx ry h
 obtain ⟨i,j,rfl,rfl,q⟩:=h
 obtain ⟨t,rfl⟩:=rx
 obtain ⟨t',rfl⟩:=ry
 exact rule i j t t' s _ _ ⟨.int (g i j),H,I.tok _,⟨_,rfl⟩,q⟩
theorem opB0 {f:Value→Value→Sem Value} {g:Int→Int→Bool}
  (rule:∀ (i j:Int) (t u:Tok) (s:Shared) (Q:Value→Shared→Prop) (E:Value→Shared→Prop),Q (.bool (g i j)) s→wpAny (model X.prog X.w) X.A (f (.int i t) (.int j u)) Q E s) :
  OpR X f (rI0 fun i j=>.bl (g i j)):=by
 intro pins s σ H x y v u Q I rx ry h
 obtain ⟨i,j,rfl,rfl,q⟩:=h
 obtain ⟨t,rfl⟩:=rx
 obtain ⟨t',rfl⟩:=ry
 exact rule i j t t' s _ _ ⟨.bl (g i j),H,I,rfl,q⟩
def CPow (i j:Int):Prop:=0 ≤ j∧j ≤ 1000000∧i.natAbs < 2 ^ 64
def CMul (i j:Int):Prop:=(-(2 ^ 64) < i∧i < 2 ^ 64) ∨ (-(2 ^ 64) < j∧j < 2 ^ 64)
theorem CMul.ok {i j:Int} (h:CMul i j):IntMulOk i j:=by
 rcases h with ⟨h1,h2⟩ | ⟨h1,h2⟩
 ·exact .of_left (intBits_le_64 h1 h2)
 ·exact .of_right (intBits_le_64 h1 h2)
theorem u0p (k:Nat):(0:Int) ≤ 2 ^ k:=by
 rw [two_pow_cast]
 exact Int.natCast_nonneg _
theorem g0j:OpR X (binaryOp .Add) (rI0 fun i j=>.int (i + j)):=opI0 fun _ _ _ _ _ _ _ q=>add_int q
theorem t0p:OpR X (binaryOp .Sub) (rI0 fun i j=>.int (i - j)):=opI0 fun _ _ _ _ _ _ _ q=>sub_int q
theorem j0c:OpR X (binaryOp .Mult) (rI CMul fun i j=>.int (i * j)):=opI fun _ _ _ _ _ _ _ hc q=>mul_int q hc.ok
theorem j0d:OpR X (binaryOp .Mod) (rI (fun _ j=>0 < j) fun i j=>.int (i % j)):=opI fun i j _ _ _ _ _ hc q=>by
 have h1:(0:Int) < j:=hc
 exact mod_int' (by omega) (by rw [Int.fmod_eq_emod_of_nonneg i (by omega)]; exact q)
theorem y0g:OpR X (binaryOp .Pow) (rI CPow fun i j=>.int (i ^ j.toNat)):=opI fun _ _ _ _ _ _ _ hc q=>pow_int_small hc.1 hc.2.1 hc.2.2 q
theorem t0q:OpR X (binaryOp .LShift) (rI CPow fun i j=>.int (i * 2 ^ j.toNat)):=opI fun _ _ _ _ _ _ _ hc q=>lshift_int_small hc.1 hc.2.1 hc.2.2 q
theorem i1p:OpR X (binaryOp .RShift) (rI (fun _ j=>0 ≤ j) fun i j=>.int (i / 2 ^ j.toNat)):=opI fun i j _ _ _ _ _ hc q =>
 rshift_int hc (by rw [Int.fdiv_eq_ediv_of_nonneg i (u0p _)]; exact q)
theorem i1q:OpR X (binaryOp .BitAnd) (rI0 fun i j=>.int (Builtin.bitAnd i j)):=opI0 fun _ _ _ _ _ _ _ q=>and_int q
theorem p0c:OpR X (binaryOp .BitXor) (rI0 fun i j=>.int (Builtin.bitXor i j)):=opI0 fun _ _ _ _ _ _ _ q=>xor_int q
theorem y0z:OpR X (inplaceOp .BitXor) (rI0 fun i j=>.int (Builtin.bitXor i j)):=opI0 fun _ _ _ _ _ _ _ q=>ixor_int q
end
section
variable {X:Cx} {a b c:Expr} {ta tb tc:TE} {pos:Pos}
theorem j1o {pins:List (Addr × Obj)} {σ:St} {H:Hp} {s:Shared} {Q:VK} {k k':Bool} (I:Inv X pins σ H s) (q:Q (.bl k) H) (e:k = k'):EP X pins σ Q (.bool k') s:=by
 subst e
 exact ⟨.bl k,H,I,rfl,q⟩
theorem k1q:OpR X (compareOp .Lt) (rI0 fun i j=>.bl (decide (i < j))):=opB0 fun _ _ _ _ _ _ _ q=>lt_int q
theorem m0d:OpR X (compareOp .Gt) (rI0 fun i j=>.bl (decide (j < i))):=opB0 fun _ _ _ _ _ _ _ q=>gt_int q
theorem k1r:OpR X (compareOp .GtE) (rI0 fun i j=>.bl (decide (j ≤ i))):=opB0 fun _ _ _ _ _ _ _ q=>ge_int q
theorem d1j:OpR X (compareOp .Is) (fun x y H Q=>y = .non∧Q (.bl (decide (x = .non))) H):=by
 intro pins s σ H x y v u Q I rx ry h
 obtain ⟨rfl,q⟩:=h
 cases ry
 refine is_none_gen (j1o I q ?_)
 cases x <;> first
  | (cases rx; rfl)
  | (obtain ⟨t,rfl⟩:=rx; rfl)
theorem OpR.or {f:Value→Value→Sem Value} {r r':R2} (h:OpR X f r) (h':OpR X f r'):OpR X f (fun x y H Q=>r x y H Q ∨ r' x y H Q):=by
 intro pins s σ H x y v u Q I rx ry q
 rcases q with q | q
 ·exact h pins s σ H x y v u Q I rx ry q
 ·exact h' pins s σ H x y v u Q I rx ry q
theorem c0a (b:Expr) {op:CmpOp} (h:op ≠ .In:=by decide) (h2:op ≠ .NotIn:=by decide):behindInMarks op b = false:=by
 have e1:(op == CmpOp.In) = false:=by cases op <;> first | rfl | exact absurd rfl h
 have e2:(op == CmpOp.NotIn) = false:=by cases op <;> first | rfl | exact absurd rfl h2
 cases b <;> simp [behindInMarks,e1,e2]
theorem k0n {op:CmpOp} {r:R2} (ho:OpR X (compareOp op) r) (ha:PE X a ta) (hb:PE X b tb) (hm:behindInMarks op b = false):PE X (.Compare a [op] [b] pos) (tOp r ta tb):=by
 intro pins s σ H Q I h
 exact wpAny_Compare1 (binT ha hb I h fun v u s2 x y H2 I2 rx ry q=>ho pins s2 σ H2 x y v u Q I2 rx ry q) hm
def h1s (t:TE):TT:=fun σ H Q=>t σ H fun x H'=>∃ k,x = .bl k∧Q k H'
theorem b0n {op:CmpOp} {r:R2} (ho:OpR X (compareOp op) r) (ha:PE X a ta) (hb:PE X b tb) (hm:behindInMarks op b = false):PT X (.Compare a [op] [b] pos) (h1s (tOp r ta tb)):=by
 intro pins s σ H Q I h
 refine wpAny_isTrue_Compare1 (thn (ha pins s σ H _ I h) fun v s1 ⟨x,H1,I1,r1,q1⟩=>thn (hb pins s1 σ H1 _ I1 q1) fun u s2 ⟨y,H2,I2,r2,q2⟩ =>
  thn (ho pins s2 σ H2 x y v u _ I2 r1 r2 q2) fun c s3 ⟨z,H3,I3,r3,k,e,q3⟩=>?_) hm
 subst e
 cases r3
 exact wpAny_truthy_bool ⟨H3,I3,q3⟩
def TruV (K:PySem.W.Frag) (x:V) (H:Hp) (k:Bool):Prop :=
 match x with
 | .non=>k = false
 | .bl b=>k = b
 | .int i=>k = (i != 0)
 | .str y=>y.length ≤ sizeLine∧k = ((y.length:Int) != 0)
 | .byt y=>y.size ≤ sizeLine∧k = ((y.size:Int) != 0)
 | .ref p=>(∃ xs,SqL K H p xs∧k = !xs.isEmpty) ∨ (∃ xs,SqT K H p xs∧k = !xs.isEmpty) ∨ ∃ kvs,H p = some (.dK kvs)∧k = !kvs.isEmpty
 | _=>False
theorem v0m {κ:Type} {kvs:List (κ × V)} {vs:List (κ × Value)} (r:KV kvs vs):(!vs.isEmpty) = !kvs.isEmpty:=by
 cases r <;> rfl
theorem m0s {xs:List V} {its:List Value} (r:Vals xs its):(!its.toArray.isEmpty) = !xs.isEmpty:=by
 cases r <;> simp
theorem m0n:(sizeLine:Nat) < 2 ^ 63:=by rw [sizeLine_eq]; decide
theorem h1n:TruR X (fun x H Q=>∃ k,TruV X.K x H k∧Q k H):=by
 intro pins s σ H x v Q I rx h
 obtain ⟨k,e,q⟩:=h
 have hl:=m0n
 have hs:sizeLine = 16777216:=sizeLine_eq
 cases x with
 | non =>
  cases rx
  have e':k = false:=e
  subst e'
  exact truthy_none ⟨H,I,q⟩
 | bl b =>
  cases rx
  have e':k = b:=e
  subst e'
  exact wpAny_truthy_bool ⟨H,I,q⟩
 | int i =>
  obtain ⟨t,rfl⟩:=rx
  have e':k = (i != 0):=e
  subst e'
  exact PySem.P.truthy_int ⟨H,I,q⟩
 | str y =>
  obtain ⟨t,rfl⟩:=rx
  obtain ⟨hy,e'⟩:y.length ≤ sizeLine∧k = ((y.length:Int) != 0):=e
  subst e'
  exact PySem.P.truthy_str (by omega) ⟨H,I.tok _,q⟩
 | byt y =>
  obtain ⟨t,rfl⟩:=rx
  obtain ⟨hy,e'⟩:y.size ≤ sizeLine∧k = ((y.size:Int) != 0):=e
  subst e'
  exact PySem.W.truthy_bytes (by omega) ⟨H,I.tok _,q⟩
 | ref p =>
  cases rx
  have e':(∃ xs,SqL X.K H p xs∧k = !xs.isEmpty) ∨ (∃ xs,SqT X.K H p xs∧k = !xs.isEmpty) ∨ ∃ kvs,H p = some (.dK kvs)∧k = !kvs.isEmpty:=e
  rcases e' with ⟨xs,hx,e'⟩ | ⟨xs,hx,e'⟩ | ⟨kvs,hx,e'⟩
  ·subst e'
   obtain ⟨its,r,pl,hz⟩:=I.list hx
   have hlen:=r.length
   exact wpAny_truthy_list pl.isList (by simp only [List.size_toArray]; omega) ⟨H,I.tok _,by rw [m0s r]; exact q⟩
  ·subst e'
   obtain ⟨its,r,pl,hz⟩:=I.tuple hx
   have hlen:=r.length
   exact truthy_tuple pl (by simp only [List.size_toArray]; omega) ⟨H,I.tok _,by rw [m0s r]; exact q⟩
  ·subst e'
   obtain ⟨hz,hS,vs,r,m⟩:kvs.length ≤ sizeLine∧(p == sysModules) = false∧∃ vs,KV kvs vs∧s.heap.DictOf (b0u X.prog X.w) p vs:=I.hok p _ hx
   have hlen:kvs.length = vs.length:=Paired.length r
   exact wpAny_truthy_dict hS m (by omega) ⟨H,I.tok _,by rw [v0m r]; exact q⟩
 | _=>exact (show False from e).elim
theorem b1g (ha:PE X a ta) (he:∀ whole,isTrue a X.env whole = (do let v ← whole; standAt a.pos; holding [v] (truthy v))) :
  PT X a (fun σ H Q=>ta σ H fun x H'=>∃ k,TruV X.K x H' k∧Q k H'):=by
 intro pins s σ H Q I h
 exact isTrue_plain (thn (ha pins s σ H _ I h) fun v s1 ⟨x,H1,I1,r1,q1⟩=>h1n pins s1 σ H1 x v Q I1 r1 q1) (he _)
theorem o0p {x:V} {us:List Value} (r:Vals [x] us):∃ u,us = [u]∧RelV x u:=by
 cases r with
 | cons r1 r2=>cases r2; exact ⟨_,rfl,r1⟩
theorem h1k {x y:V} {us:List Value} (r:Vals [x,y] us):∃ u w',us = [u,w']∧RelV x u∧RelV y w':=by
 cases r with
 | cons r1 r2 =>
  cases r2 with
  | cons r3 r4=>cases r4; exact ⟨_,_,rfl,r1,r3⟩
theorem z0z (hc:X.calm = true):h0c X (.builtin "min") (fun xs H Q=>∃ i j,xs = [.int i,.int j]∧Q (.int (if j < i then j else i)) H):=by
 intro pins s σ H xs us Q I r h
 obtain ⟨i,j,rfl,q⟩:=h
 obtain ⟨u,w',rfl,⟨t,rfl⟩,⟨t',rfl⟩⟩:=h1k r
 refine min_two_ints (I.ok.hd hc) fun h' tk k=>⟨_,H,I.kept k,?_,q⟩
 by_cases hj:j < i
 ·rw [if_pos hj,if_pos hj]; exact ⟨_,rfl⟩
 ·rw [if_neg hj,if_neg hj]; exact ⟨_,rfl⟩
theorem q0m:h0c X (.type "int") (fun xs H Q=>(∃ i,xs = [.int i]∧Q (.int i) H) ∨ ∃ k,xs = [.bl k]∧Q (.int (if k then 1 else 0)) H):=by
 intro pins s σ H xs us Q I r h
 rcases h with ⟨i,rfl,q⟩ | ⟨k,rfl,q⟩
 ·obtain ⟨u,rfl,t,rfl⟩:=o0p r
  exact call_int_int ⟨.int i,H,I,⟨_,rfl⟩,q⟩
 ·obtain ⟨u,rfl,r1⟩:=o0p r
  cases r1
  exact call_int_bool ⟨.int (if k then 1 else 0),H,I.tok _,⟨_,rfl⟩,q⟩
end
structure ObjM (h:Heap) (x dx C:Addr) (mA:Str→Option Value):Prop where
 obj:h.get? x = some (PySem.W.instObj C dx)
 ns:h.Ns1 dx mA
 ne:dx ≠ x
theorem y0p {h:Heap} {dx:Addr} {mA:Str→Option Value} (n:h.Ns1 dx mA):∃ od,h.get? dx = some od∧∀ name,PySem.W.lookIn name od = some (mA name):=by
 obtain ⟨o,es,ep,ho,hd,hk,_,hm⟩:=n
 refine ⟨o,ho,fun name=>?_⟩
 have e:=hm name
 unfold nsFind findBy at e
 rw [← Array.find?_toList] at e
 unfold PySem.W.lookIn
 rw [hd]
 dsimp only
 split
 ·rename_i y q
  rw [q] at e
  exact congrArg some e
 ·rename_i q
  rw [q] at e
  have a:es.toList.any (·.refKey) = false:=by
   rw [List.any_eq_false]
   intro y hy
   obtain ⟨z,t,hkey⟩:=hk y (Array.mem_toList_iff.mp hy)
   simp [DictEntry.refKey,hkey]
  have a':¬ es.toList.any (·.refKey) = true:=by rw [a]; exact Bool.false_ne_true
  rw [if_neg a']
  exact congrArg some e
theorem ObjM.look {h:Heap} {x dx C:Addr} {mA:Str→Option Value} (I:ObjM h x dx C mA):∃ od,PySem.W.InstAt h x (PySem.W.instObj C dx) C (some od)∧∀ name,PySem.W.lookIn name od = some (mA name) :=
 let ⟨od,ho,hl⟩:=y0p I.ns
 ⟨od,⟨I.obj,rfl,rfl,ho⟩,hl⟩
theorem RelO.some_of {v:V} {o:Option Value} (r:RelO (some v) o):∃ u,o = some u∧RelV v u:=by
 cases o with
 | none=>exact (show False from r).elim
 | some u=>exact ⟨u,rfl,r⟩
theorem z0e {v:V} {u:Value} (r:RelV v u):PySem.W.handedIn u = true:=by
 cases v with
 | non=>cases (show u = Value.none from r); rfl
 | bl b=>cases (show u = Value.bool b from r); rfl
 | int i=>obtain ⟨t,e⟩:=(show ∃ t,u = Value.int i t from r); cases e; rfl
 | str x=>obtain ⟨t,e⟩:=(show ∃ t,u = Value.str x t from r); cases e; rfl
 | byt b=>obtain ⟨t,e⟩:=(show ∃ t,u = Value.bytes b t from r); cases e; rfl
 | flt b=>obtain ⟨t,e⟩:=(show ∃ t,u = Value.float b t from r); cases e; rfl
 | ref a=>cases (show u = Value.ref a from r); rfl
 | ty n=>cases (show u = Value.type n from r); rfl
section
variable {P:Program} {w:World} {H H':Hp} {h h':Heap} {a C dx:Addr} {fs fs':List (Str × V)}
theorem f1x (hok:HOk P w H h) (e:H a = some (.ins C dx fs)):∃ mA,ObjM h a dx C mA∧(∀ f,RelO (fs.lookup f) (mA f))∧PySem.Within mA (fs.map (·.1))∧fs.length ≤ 1000∧H dx = some (.own a):=by
 obtain ⟨d,z,ne,ob,mA,n,r,q⟩:=(show d0a P w H h a (.ins C dx fs) from hok a _ e)
 exact ⟨mA,⟨ob,n,ne⟩,r,q,z,d⟩
end
structure Cls (K:PySem.W.Frag) (C:Addr):Prop where
 pg:PySem.W.plainGet K C Str.empty = true
 hd:PySem.W.hasDictIn K C = true
 po:PySem.W.plainOver K C = true
 sa:PySem.W.findIn K (.ref C) "__setattr__" = some (some (.builtin "object.__setattr__"))
theorem Cls.get {K:PySem.W.Frag} {C:Addr} (c:Cls K C) (f:Str):PySem.W.plainGet K C f = true:=c.pg
section
variable {X:Cx} {pins:List (Addr × Obj)} {σ:St} {H:Hp} {s:Shared} {a C dx:Addr} {fs:List (Str × V)} {f:Str} {v:V} {A:Around} {E:Value→Shared→Prop}
theorem g1p {prog:Program} {w:World} {env:Env} {e:Expr} {f:Str} {pos:Pos} {s:Shared} {Q:Value→Shared→Prop} (hb:attributeBase e f env (eval e env) = eval e env)
  (h:wpAny (model prog w) A (eval e env) (fun o s₁=>wpAny (model prog w) A (getAttr o f true) Q E s₁) E s):wpAny (model prog w) A (eval (.Attribute e f pos) env) Q E s :=
 Attribute_any_ h (by rw [arm_eval_Attribute,hb])
end
section
variable {X:Cx} {pins:List (Addr × Obj)} {σ:St} {H:Hp} {s:Shared} {A:Around} {E:Value→Shared→Prop} {Q:Value→Shared→Prop} {c:Value} {b:Bool}
inductive TyOf (K:PySem.W.Frag) (H:Hp):V→Value→Prop where
 | non:TyOf K H .non (.type "NoneType")
 | bl (x:Bool):TyOf K H (.bl x) (.type "bool")
 | int (i:Int):TyOf K H (.int i) (.type "int")
 | str (x:Str):TyOf K H (.str x) (.type "str")
 | flt (x:UInt64):TyOf K H (.flt x) (.type "float")
 | lst {a:Addr} {xs:List V} (e:H a = some (.lst xs)):TyOf K H (.ref a) (.type "list")
 | frz {a:Addr} {o:Obj} {xs:List V} (e:H a = some (.frz o (.lst xs))):TyOf K H (.ref a) (.type "list")
 | tup {a:Addr} {xs:List V} (e:H a = some (.tup xs)):TyOf K H (.ref a) (.type "tuple")
 | dK {a:Addr} {kvs:List (Key × V)} (e:H a = some (.dK kvs)):TyOf K H (.ref a) (.type "dict")
 | dT {a:Addr} {kvs:List (List Key × V)} (e:H a = some (.dT kvs)):TyOf K H (.ref a) (.type "dict")
 | ins {a C dx:Addr} {fs:List (Str × V)} (e:H a = some (.ins C dx fs)) (cl:Cls K C) (ha:PySem.W.findIn K (.ref C) "__class__" = some (some (.builtin "object.__class__")))
   (hn:PySem.W.specialIn K (.builtin "object.__class__") "__get__" = some (some (.builtin "getset_descriptor.__get__"))) (htk:PySem.W.takesIn K (.builtin "object.__class__") = some true)
   (hm:PySem.W.mroIn K C (.type "object") = some true):TyOf K H (.ref a) (.ref C)
theorem i0h {x:V} {u t:Value} (I:Inv X pins σ H s) (rx:RelV x u) (ty:TyOf X.K H x t) (e:PySem.W.kitOne X.K t c = some b) (h:∀ tk,Q (.bool b) { s with toks:=tk }) :
  wpAny (model X.prog X.w) A (call (.builtin "isinstance") [u,c]) Q E s:=by
 cases ty with
 | non=>cases (show u = Value.none from rx); exact PySem.W.kia_one PySem.W.kitx_none I.kIn True.intro e (fun z=>nomatch z) h
 | bl y=>cases (show u = Value.bool y from rx); exact PySem.W.kia_one PySem.W.kitx_bool I.kIn True.intro e (fun z=>nomatch z) h
 | int i=>obtain ⟨t,q⟩:=(show ∃ t,u = Value.int i t from rx); cases q; exact PySem.W.kia_one PySem.W.kitx_int I.kIn True.intro e (fun z=>nomatch z) h
 | str y=>obtain ⟨t,q⟩:=(show ∃ t,u = Value.str y t from rx); cases q; exact PySem.W.kia_one PySem.W.kitx_str I.kIn True.intro e (fun z=>nomatch z) h
 | flt y=>obtain ⟨t,q⟩:=(show ∃ t,u = Value.float y t from rx); cases q; exact PySem.W.kia_one PySem.W.kitx_float I.kIn True.intro e (fun z=>nomatch z) h
 | @lst a xs ea =>
  cases (show u = Value.ref a from rx)
  obtain ⟨_,_,n,_,h1⟩:=(show d0a X.prog X.w H s.heap a (.lst xs) from I.hok a _ ea)
  exact PySem.W.kia_one PySem.W.kitx_list I.kIn ⟨_,h1,rfl⟩ e (fun z=>nomatch z) h
 | @frz a ob xs ea =>
  cases (show u = Value.ref a from rx)
  obtain ⟨_,_,_,n,_,h1⟩:=(show d0a X.prog X.w H s.heap a (.frz ob (.lst xs)) from I.hok a _ ea)
  exact PySem.W.kia_one PySem.W.kitx_list I.kIn ⟨_,h1,rfl⟩ e (fun z=>nomatch z) h
 | @tup a xs ea =>
  cases (show u = Value.ref a from rx)
  obtain ⟨_,_,_,p⟩:=(show d0a X.prog X.w H s.heap a (.tup xs) from I.hok a _ ea)
  obtain ⟨o,h1,h2,_⟩:=p
  exact PySem.W.kia_one PySem.W.kitx_tuple I.kIn ⟨o,h1,h2⟩ e (fun z=>nomatch z) h
 | @dK a kvs ea =>
  cases (show u = Value.ref a from rx)
  obtain ⟨_,_,vs,_,p⟩:=(show d0a X.prog X.w H s.heap a (.dK kvs) from I.hok a _ ea)
  obtain ⟨o,es,ep,h1,h2,_⟩:=p
  exact PySem.W.kia_one PySem.W.kitx_dict I.kIn ⟨o,h1,h2.1⟩ e (fun z=>nomatch z) h
 | @dT a kvs ea =>
  cases (show u = Value.ref a from rx)
  obtain ⟨_,_,xs,_,o,es,ep,h1,h2,_⟩:=(show d0a X.prog X.w H s.heap a (.dT kvs) from I.hok a _ ea)
  exact PySem.W.kia_one PySem.W.kitx_dict I.kIn ⟨o,h1,h2.1⟩ e (fun z=>nomatch z) h
 | @ins a C dx fs ea cl ha hn htk hm =>
  cases (show u = Value.ref a from rx)
  obtain ⟨mA,O,_⟩:=f1x I.hok ea
  obtain ⟨od,J,_⟩:=O.look
  exact PySem.W.kia_one (PySem.W.kitx_own (cl.get _) cl.hd ha hn htk hm) I.kIn J e (fun z=>nomatch z) h
end
structure Room (k:Nat) (A:Around):Prop where
 hd:A.handled = none
 dp:A.depth + 3 * k + 5 < recursionLimit
 un:A.units + 16 * k + 200 < cLine
theorem Room.mono {j k:Nat} {A:Around} (r:Room k A) (h:j ≤ k):Room j A:=⟨r.hd,by have:=r.dp; omega,by have:=r.un; omega⟩
theorem Room.deeper {k:Nat} {A:Around} (r:Room (k + 1) A) (env:Env):Room k (A.deeper env) :=
 ⟨r.hd,by have:=r.dp; show A.depth + 1 + 3 * k + 5 < _; omega,by have:=r.un; show A.units + 3 + 16 * k + 200 < _; omega⟩
theorem Room.in1 {k:Nat} {A:Around} (r:Room (k + 1) A):Room k A.in1 :=
 ⟨r.hd,by have:=r.dp; show A.depth + 3 * k + 5 < _; omega,by have:=r.un; show A.units + 1 + 16 * k + 200 < _; omega⟩
theorem v0j {A:Around} {C:Addr} {us:List Value} {kw:List (Str × Value)}:(A.under (.builtin "type.__call__" ⟨.ref C :: us,kw⟩)).depth = A.depth + 1:=by
 first | rfl | simp [Around.under,Code.weight,Code.isCreation,Code.isGuard,Code.isCaller,Code.frames,Code.isFrame,guardIds]
theorem v0i {A:Around} {C:Addr} {us:List Value} {kw:List (Str × Value)}:(A.under (.builtin "type.__call__" ⟨.ref C :: us,kw⟩)).units = A.units + 1:=by
 first | rfl | simp [Around.under,Code.cUnits,Code.frames,Code.isFrame]
theorem Room.make {k:Nat} {A:Around} (r:Room (k + 1) A) (C:Addr) (us:List Value) (kw:List (Str × Value)):Room k (A.under (.builtin "type.__call__" ⟨.ref C :: us,kw⟩)) :=
 ⟨r.hd,by have:=r.dp; rw [v0j]; omega,by have:=r.un; rw [v0i]; omega⟩
theorem Room.depth {k:Nat} {A:Around} (r:Room k A):A.depth < recursionLimit:=by have:=r.dp; omega
theorem Room.units {k:Nat} {A:Around} (r:Room k A):A.units + 64 < cLine:=by have:=r.un; omega
def tNil:TA:=fun _ H Q=>Q [] H
def u0w (ta:TE) (tr:TA):TA:=fun σ H Q=>ta σ H fun x H1=>tr σ H1 fun xs H2=>Q (x :: xs) H2
section
variable {X:Cx} {e:Expr} {es:List Expr} {te:TE} {t:TA} {pos:Pos}
theorem a0e:PA X [] tNil:=fun _ _ _ _ H Q I h=>Calls.spliced_nil ⟨[],H,I,.nil,h⟩
theorem a0c (ha:PE X e te) (hr:PA X es t) (hs:starEach (e :: es) X.env = (false,eval e X.env) :: starEach es X.env:=by rfl):PA X (e :: es) (u0w te t):=by
 intro pos pins s σ H Q I h
 rw [hs]
 show wpAny _ _ (spliced ((false,eval e X.env) :: backTo pos (starEach es X.env))) _ _ s
 refine Calls.spliced_cons (thn (ha pins s σ H _ I h) fun u s1 ⟨x,H1,I1,r1,q1⟩=>?_)
 exact thn (hr pos pins s1 σ H1 _ I1 q1) fun us s2 ⟨xs,H2,I2,r2,q2⟩=>⟨x :: xs,H2,I2,.cons r1 r2,q2⟩
def tTup (t:TA):TE:=fun σ H Q=>t σ H fun xs H1=>xs.length ≤ sizeLine∧∀ p,H1 p = none→Q (.ref p) (upd H1 p (.tup xs))
def tLst (t:TA):TE:=fun σ H Q=>t σ H fun xs H1=>xs.length ≤ sizeLine∧∀ p,H1 p = none→Q (.ref p) (upd H1 p (.lst xs))
theorem e0e {x1} (h:PA X es t):PE X (.Tuple es x1 pos) (tTup t):=by
 intro pins s σ H Q I hq
 refine wpAny_Tuple_spliced (thn (h pos pins s σ H _ I hq) fun us s1 ⟨xs,H1,I1,r,z,q⟩=>⟨by rw [← r.length]; exact z,?_⟩)
 have hf:H1 s1.heap.objs.size = none:=I1.hok.fresh (Nat.le_refl _)
 refine ⟨.ref s1.heap.objs.size,upd H1 s1.heap.objs.size (.tup xs),I1.laid (t':=s1.toks) (fun b u e=>Heap.get?_push_of_some _ e) (Nat.le_refl _) ?_,rfl,q _ hf⟩
 exact ⟨z,us,r,⟨_,Heap.get?_push_size _ rfl,rfl,_,rfl⟩⟩
theorem e0g (h:PA X es t):PE X (.List es pos) (tLst t):=by
 intro pins s σ H Q I hq
 refine wpAny_List_spliced (thn (h pos pins s σ H _ I hq) fun us s1 ⟨xs,H1,I1,r,z,q⟩=>⟨by rw [← r.length]; exact z,?_⟩)
 have hf:H1 s1.heap.objs.size = none:=I1.hok.fresh (Nat.le_refl _)
 refine ⟨.ref s1.heap.objs.size,upd H1 s1.heap.objs.size (.lst xs),I1.laid (t':=s1.toks) (fun b u e=>Heap.get?_push_of_some _ e) (Nat.le_refl _) ?_,rfl,q _ hf⟩
 exact ⟨z,us,0,r,Heap.get?_push_size _ rfl⟩
end
abbrev Sp:=List V→Hp→VK→XK→Prop
abbrev CXT:=List Env→Hp→Shared→XK→Value→Shared→Prop
structure Env0 (P:Program) (w:World) (K:PySem.W.Frag) (mg:Str→Option Value) (base:Heap) (A:Around) (outer:List Env) (s:Shared) (H:Hp):Prop where
 frames:A.frames = some outer
 mod:Mod K mg base
 bs:∀ b o,base.get? b = some o→s.heap.get? b = some o∧H b = none
 bsz:base.objs.size ≤ s.heap.objs.size
 funs:s.heap.FunFrames base outer
 frf:∀ b ∈ frs outer,H b = none
 hok:HOk P w H s.heap
 bare:AllBare s.gens
def CE (outer:List Env) (P:Program) (w:World) (H:Hp) (s:Shared) (Q:VK) (u:Value) (s':Shared):Prop :=
 ∃ v H',s'.os = s.os∧AllBare s'.gens∧Un (frs outer) [] H H' s.heap s'.heap∧HOk P w H' s'.heap∧RelV v u∧Q v H'
def CR (CX:CXT) (outer:List Env) (P:Program) (w:World) (H:Hp) (s:Shared) (Q:VK) (E:XK) (r:Result) (s':Shared):Prop :=
 match r with
 | .ok (.ret u)=>CE outer P w H s Q u s'
 | .ok _=>False
 | .error e=>CX outer H s E e s'
structure FnOk (P:Program) (w:World) (K:PySem.W.Frag) (mg:Str→Option Value) (base:Heap) (CX:CXT) (k:Nat) (f:Addr) (fd:FuncData) (ps:List Str) (sp:Sp):Prop where
 len:∀ vs H Q E,sp vs H Q E→vs.length = ps.length
 run:∀ (A:Around) (outer:List Env) (s:Shared) (H:Hp) (args:Args) (us:List Value) (vs:List V) (Q:VK) (E:XK),Room k A→Env0 P w K mg base A outer s H→BindsTo s fd args (ps.zip us)→Vals vs us→sp vs H Q E →
  codeAny (model P w) A (.call (.ref f) args) (CR CX outer P w H s Q E) s
theorem FnOk.mono {P:Program} {w:World} {K:PySem.W.Frag} {mg:Str→Option Value} {base:Heap} {CX:CXT} {j k:Nat} {f:Addr} {fd:FuncData} {ps:List Str} {sp:Sp} (F:FnOk P w K mg base CX j f fd ps sp) (h:j ≤ k) :
  FnOk P w K mg base CX k f fd ps sp:=⟨F.len,fun A outer s H args us vs Q E hr=>F.run A outer s H args us vs Q E (hr.mono h)⟩
theorem FnOk.imp {P:Program} {w:World} {K:PySem.W.Frag} {mg:Str→Option Value} {base:Heap} {CX:CXT} {k:Nat} {f:Addr} {fd:FuncData} {ps:List Str} {sp sp':Sp} (F:FnOk P w K mg base CX k f fd ps sp)
  (h:∀ vs H Q E,sp' vs H Q E→sp vs H Q E):FnOk P w K mg base CX k f fd ps sp' :=
 ⟨fun vs H Q E q=>F.len vs H Q E (h _ _ _ _ q),fun A outer s H args us vs Q E hr he hb hv hs=>F.run A outer s H args us vs Q E hr he hb hv (h _ _ _ _ hs)⟩
theorem Env0.make {P:Program} {w:World} {K:PySem.W.Frag} {mg:Str→Option Value} {base:Heap} {A:Around} {outer:List Env} {s:Shared} {H:Hp} (e:Env0 P w K mg base A outer s H) (C:Addr) (us:List Value) (kw:List (Str × Value)) :
  Env0 P w K mg base (A.under (.builtin "type.__call__" ⟨.ref C :: us,kw⟩)) outer s H:=⟨by first | exact e.frames | (simpa [Around.under,Code.envs,Code.isFrame,pushEnvs] using e.frames),e.mod,e.bs,e.bsz,e.funs,e.frf,e.hok,e.bare⟩
theorem Env0.in1 {P:Program} {w:World} {K:PySem.W.Frag} {mg:Str→Option Value} {base:Heap} {A:Around} {outer:List Env} {s:Shared} {H:Hp} (e:Env0 P w K mg base A outer s H) :
  Env0 P w K mg base A.in1 outer s H:=⟨e.frames,e.mod,e.bs,e.bsz,e.funs,e.frf,e.hok,e.bare⟩
section
variable {X:Cx} {pins:List (Addr × Obj)} {σ:St} {H:Hp} {s s':Shared}
theorem Inv.env0 (I:Inv X pins σ H s):Env0 X.prog X.w X.K X.mg X.base X.A X.stack s H :=
 ⟨I.ok.frames,I.ok.mod,I.bs,Nat.le_trans I.ok.bsz I.sz,I.stack,I.stkFree,I.hok,I.bare⟩
theorem Inv.after {Q:VK} {u:Value} (I:Inv X pins σ H s) (h:CE X.stack X.prog X.w H s Q u s'):EP X pins σ Q u s':=by
 obtain ⟨v,H',os,bare,un,hok,r,q⟩:=h
 obtain ⟨hh,g,d,t,os'⟩:=s'
 obtain rfl:os' = s.os:=os
 exact ⟨v,H',I.call (h':=hh) (g':=g) (d':=d) (t':=t) (ch:=[]) un hok bare (fun b z=>absurd z (by simp)),r,q⟩
end
def w0z (sp:Sp) (dvs:List V) (E:XK) (t:TA):TE:=fun σ H Q=>t σ H fun vs H1=>sp (vs ++ dvs) H1 Q E
def o0m (K:PySem.W.Frag) (fd:FuncData) (ps:List Str) (ds:List Value):Prop :=
 ∀ (s:Shared) (us:List Value),K.In s.heap→(us ++ ds).length = ps.length→BindsTo s fd ⟨us,[]⟩ (ps.zip (us ++ ds))
theorem o0m.all {K:PySem.W.Frag} {fd:FuncData} {ps:List Str} (h:∀ us:List Value,us.length = ps.length→bindArgs fd ⟨us,[]⟩ = pure (ps.zip us)):o0m K fd ps []:=fun s us _ hl=>by
 rw [List.append_nil] at hl ⊢
 exact .of_eq (h us hl)
def q0u (CX:CXT) (X:Cx) (E:XK):Prop:=∀ (pins:List (Addr × Obj)) (σ:St) (H:Hp) (s:Shared) (e:Value) (s':Shared),Inv X pins σ H s→CX X.stack H s E e s'→X.xe e s'
section
variable {X:Cx} {CX:CXT} {k:Nat} {f C:Addr} {fd:FuncData} {ps:List Str} {sp:Sp} {dvs:List V} {ds:List Value} {E:XK} {x m:Str} {p pos apos:Pos} {e o:Expr} {es:List Expr} {ta:TE} {t:TA}
theorem h1z {pins:List (Addr × Obj)} {σ:St} {H:Hp} {s:Shared} {Q:VK} {us:List Value} {vs:List V} (F:FnOk X.prog X.w X.K X.mg X.base CX k f fd ps sp) (hr:Room k X.A) (hb:o0m X.K fd ps ds) (hd:Vals dvs ds) (hx:q0u CX X E)
  (I:Inv X pins σ H s) (r:Vals vs us) (h:sp (vs ++ dvs) H Q E):wpAny (model X.prog X.w) X.A (call (.ref f) us) (EP X pins σ Q) X.xe s:=by
 have r2:Vals (vs ++ dvs) (us ++ ds):=r.append hd
 have hl:(us ++ ds).length = ps.length:=by rw [← r2.length]; exact F.len _ _ _ _ h
 refine wpAny_call (codeAny_mono (F.run X.A X.stack s H ⟨us,[]⟩ (us ++ ds) (vs ++ dvs) Q E hr I.env0 (hb s us I.kIn hl) r2 h) fun r s' hq=>?_)
 cases r with
 | error e=>exact hx pins σ H s e s' I hq
 | ok fl =>
  cases fl with
  | ret u=>exact I.after hq
  | next=>exact False.elim hq
  | brk=>exact False.elim hq
  | cont=>exact False.elim hq
theorem y0c (F:FnOk X.prog X.w X.K X.mg X.base CX k f fd ps sp) (hr:Room k X.A) (hg:Gl X x) (hm:X.mg x = some (.ref f)) (hk:PySem.W.keepIn X.K (.ref f) = true) (hb:o0m X.K fd ps ds) (hd:Vals dvs ds) (hx:q0u CX X E)
  (ha:PA X (e :: es) t) (hdb:(x == ("__debug__" : Str)) = false:=by decide) (he:starEach (e :: es) X.env = (false,eval e X.env) :: starEach es X.env:=by rfl) (hpl:(backTo pos (starEach es X.env)).any (·.1) = false:=by rfl) :
  PE X (.Call (.Name x p) (e :: es) [] pos) (w0z sp dvs E t):=by
 intro pins s σ H Q I h
 refine wpAny_Call_Name_kw (g0m I hg hm ?_ hdb)
 refine PySem.W.callWith_K (h₀:=X.base) I.ok.mod.kin hk (thn (ha pos pins s σ H _ I h) fun us s1 ⟨vs,H1,I1,r,q⟩=>⟨I1.kIn,?_⟩) he hpl
 exact h1z F hr hb hd hx I1 r q
end
structure b0i (N P:List Str) (sc:Scope):Prop where
 kind:sc.kind = .function
 co:sc.isCoroutine = false
 gen:sc.isGenerator = false
 nd:N.Nodup
 pre:N.take P.length = P
 par:∀ x ∈ P,sc.names.lookup x = some .local ∨ sc.names.lookup x = some .cell
 nofree:∀ y ∈ sc.names,y.2 ≠ .free
theorem q0q {kindOf:Str→Option NameKind} {x:Str}:∀ {binds:List (Str × Value)} {m:Str→Option Value},(∀ v,(x,v) ∉ binds)→bindL kindOf binds m x = m x
 | [],_,_=>rfl
 | (n,v) :: r,m,h=>by
  unfold bindL
  rw [q0q fun w hw=>h w (List.mem_cons_of_mem _ hw)]
  split
  ·have:x ≠ n:=by rintro rfl; exact h v List.mem_cons_self
   simp [this]
  ·rfl
theorem q0s {kindOf:Str→Option NameKind} {x:Str}:∀ {binds:List (Str × Value)} {m:Str→Option Value},(∀ v,(x,v) ∉ binds)→bindC kindOf binds m x = m x
 | [],_,_=>rfl
 | (n,v) :: r,m,h=>by
  unfold bindC
  rw [q0s fun w hw=>h w (List.mem_cons_of_mem _ hw)]
  split
  ·rfl
  ·have:x ≠ n:=by rintro rfl; exact h v List.mem_cons_self
   simp [this]
theorem q0r {kindOf:Str→Option NameKind} {x:Str} {v:Value}:∀ {P:List Str} {vs:List Value} {i:Nat} {m:Str→Option Value},P.Nodup→P[i]? = some x→vs[i]? = some v→kindOf x = some .local →
  bindL kindOf (P.zip vs) m x = some v
 | [],_,_,_,_,h,_,_=>by simp at h
 | _ :: _,[],_,_,_,_,h,_=>by simp at h
 | p :: P,w :: vs,0,m,nd,h1,h2,hk=>by
  simp at h1 h2; subst h1; subst h2
  show bindL kindOf ((p,w) :: P.zip vs) m p = _
  unfold bindL
  rw [q0q fun v hv=>(List.nodup_cons.mp nd).1 (List.of_mem_zip hv).1,if_pos hk]
  simp
 | p :: P,w :: vs,i + 1,m,nd,h1,h2,hk=>by
  show bindL kindOf ((p,w) :: P.zip vs) m x = _
  unfold bindL
  exact q0r (i:=i) (List.nodup_cons.mp nd).2 (by simpa using h1) (by simpa using h2) hk
theorem q0t {kindOf:Str→Option NameKind} {x:Str} {v:Value}:∀ {P:List Str} {vs:List Value} {i:Nat} {m:Str→Option Value},P.Nodup→P[i]? = some x→vs[i]? = some v→kindOf x ≠ some .local →
  bindC kindOf (P.zip vs) m x = some v
 | [],_,_,_,_,h,_,_=>by simp at h
 | _ :: _,[],_,_,_,_,h,_=>by simp at h
 | p :: P,w :: vs,0,m,nd,h1,h2,hk=>by
  simp at h1 h2; subst h1; subst h2
  show bindC kindOf ((p,w) :: P.zip vs) m p = _
  unfold bindC
  rw [q0s fun v hv=>(List.nodup_cons.mp nd).1 (List.of_mem_zip hv).1,if_neg hk]
  simp
 | p :: P,w :: vs,i + 1,m,nd,h1,h2,hk=>by
  show bindC kindOf ((p,w) :: P.zip vs) m x = _
  unfold bindC
  exact q0t (i:=i) (List.nodup_cons.mp nd).2 (by simpa using h1) (by simpa using h2) hk
def k0h (N:List Str) (vs:List V):St:=vs.map some ++ List.replicate (N.length - vs.length) none
def cxOf (CX:CXT) (P:Program) (w:World) (K:PySem.W.Frag) (mg:Str→Option Value) (base:Heap) (N:List Str) (qual:Str) (scope:Scope) (f:Addr) (cd:Value) (A:Around) (outer:List Env) (s:Shared) (H:Hp) (E:XK):Cx where
 prog:=P
 w:=w
 K:=K
 mg:=mg
 base:=base
 A:=A.deeper (envOfC qual scope s.heap.objs.size f cd)
 N:=N
 s₀:=s
 H₀:=H
 env:=envOfC qual scope s.heap.objs.size f cd
 outer:=outer
 stack:=envOfC qual scope s.heap.objs.size f cd :: outer
 ex:=[]
 calm:=true
 fn:=fun _=>true
 pn:=[]
 xe:=fun e s'=>wpAny (model P w) (A.deeper (envOfC qual scope s.heap.objs.size f cd)) (leaving (envOfC qual scope s.heap.objs.size f cd) e) (fun _ s''=>CX outer H s E e s'') (fun e' s''=>CX outer H s E e' s'') s'
theorem u0h {sc:Scope} {n:Nat} {x:Str} (h:sc.names.lookup x = some .cell):∃ c,(cellsFrom n sc.names []).lookup x = some c:=by
 have q:=PySem.W.cellsFrom_some sc.names n [] (.inl h)
 exact Option.isSome_iff_exists.mp q
theorem z0a {CX:CXT} {P:Program} {w:World} {K:PySem.W.Frag} {mg:Str→Option Value} {base:Heap} {N ps:List Str} {qual:Str} {scope:Scope} {f:Addr} {cd:Value} {A:Around} {outer:List Env} {s s1:Shared} {H:Hp} {E:XK} {us:List Value} {vs:List V}
  (S:b0i N ps scope) (hd:A.handled = none) (e0:Env0 P w K mg base A outer s H) (hl:vs.length = ps.length) (r:Vals vs us)
  (x:InCallC s s.heap.objs.size (bindL (envOfC qual scope s.heap.objs.size f cd).kindOf (ps.zip us) fun _=>none) (cellsFrom (s.heap.objs.size + 1) scope.names []) (bindC (envOfC qual scope s.heap.objs.size f cd).kindOf (ps.zip us) fun _=>none) s1) :
  Inv (cxOf CX P w K mg base N qual scope f cd A outer s H E) [] (k0h N vs) H s1:=by
 have hpl:ps.length ≤ N.length:=by have:=congrArg List.length S.pre; rw [List.length_take] at this; omega
 obtain ⟨h1,tk,rfl,hk⟩:=x.done
 have noA:∀ b:Addr,b ∉ (cxOf CX P w K mg base N qual scope f cd A outer s H E).ex:=fun b z=>absurd (show b ∈ ([]:List Addr) from z) (by simp)
 refine ⟨⟨e0.mod,S.kind,rfl,rfl,Nat.le_refl _,fun y z c h1 h2=>?_,fun y hy=>?_,fun y c _ h=>?_,fun _=>hd,Around.frames_deeper e0.frames,.inr ⟨rfl,rfl⟩,fun b z=>absurd z (noA b),e0.bs,e0.bsz,fun b _ _=>noA b,fun b z=>absurd z (noA b),e0.funs,e0.frf⟩,
  rfl,e0.bare,Un.kept hk,⟨_,x.toInCall.ns,fun i y v h1 h2 h3=>?_⟩,fun y c h=>⟨_,x.cell y c h⟩,e0.hok.fresh (Nat.le_refl _),fun y c h=>?_,fun p hp=>absurd (show p ∈ ([]:List (Addr × Obj)) from hp) (by simp),e0.hok.kept hk,?_⟩
 ·exact name_of_addr x.apart (PySem.mem_of_lookup h1) (PySem.mem_of_lookup h2)
 ·have hy:scope.names.lookup y = some .cell ∨ scope.names.lookup y = some .free:=hy
  rcases hy with hy | hy
  ·exact u0h hy
  ·exact absurd rfl (S.nofree _ (PySem.mem_of_lookup hy))
 ·exact Nat.le_of_lt (x.above y c (PySem.mem_of_lookup h))
 ·have hi:i < vs.length:=by
   unfold k0h at h2
   by_cases hi:i < vs.length
   ·exact hi
   ·rw [List.getElem?_append_right (by simpa using hi)] at h2
    rw [List.getElem?_replicate] at h2
    split at h2 <;> cases h2
  have ha:vs[i]? = some v:=by
   unfold k0h at h2
   rw [List.getElem?_append_left (by simpa using hi),List.getElem?_map] at h2
   cases e:vs[i]? with
   | none=>rw [e] at h2; cases h2
   | some a=>rw [e] at h2; cases h2; rfl
  obtain ⟨u,hu,rv⟩:=r.get ha
  have hp:ps[i]? = some y:=by
   rw [← S.pre,List.getElem?_take_of_lt (by omega)]; exact h1
  have ndP:ps.Nodup:=by rw [← S.pre]; exact S.nd.sublist (List.take_sublist _ _)
  refine ⟨u,rv,?_⟩
  rcases S.par y (List.mem_of_getElem? hp) with k | k
  ·exact .inl ⟨k,q0r ndP hp hu k⟩
  ·obtain ⟨c,e⟩:=u0h (n:=s.heap.objs.size + 1) k
   refine .inr ⟨.inl k,c,e,?_⟩
   have q:=x.cell y c e
   rw [q0t ndP hp hu (by show scope.names.lookup y ≠ _; rw [k]; decide)] at q
   exact q
 ·exact e0.hok.fresh (Nat.le_of_lt (x.above y c (PySem.mem_of_lookup h)))
 ·unfold k0h
  show _ = N.length
  rw [List.length_append,List.length_map,List.length_replicate]
  omega
theorem j1n {CX:CXT} {P:Program} {w:World} {K:PySem.W.Frag} {mg:Str→Option Value} {base:Heap} {k:Nat} {f:Addr} {name qual:Str} {params:Arguments} {body:List Stmt} {scope:Scope} {dV kV doc pm cdv ct oc:Value} {an od:Option Addr}
  {osl:Array (Option Value)} {N ps:List Str} {sp:Sp} (lk:K.lookup f = some ⟨oc,od,.func (PySem.W.fnOf name qual params body scope dV kV doc pm an cdv ct),osl⟩) (hcd:PySem.W.codeIn K cdv qual = true) (S:b0i N ps scope)
  (len:∀ vs H Q E,sp vs H Q E→vs.length = ps.length)
  (hbody:∀ (A:Around) (outer:List Env) (s:Shared) (H:Hp) (vs:List V) (Q:VK) (E:XK),Room k (A.deeper (envOfC qual scope s.heap.objs.size f cdv))→sp vs H Q E →
   ∃ t,PSs (cxOf CX P w K mg base N qual scope f cdv A outer s H E) body t∧t { nx:=fun _ H'=>Q .non H',rt:=Q } (k0h N vs) H) :
  FnOk P w K mg base CX (k + 1) f (PySem.W.fnOf name qual params body scope dV kV doc pm an cdv ct) ps sp:=by
 refine ⟨len,fun A outer s H args us vs Q E hr e0 hb r hsp=>?_⟩
 have hl:=len _ _ _ _ hsp
 have KX:K.In s.heap:=e0.mod.kin.keeps fun b o e=>(e0.bs b o e).1
 have lim:s.heap.NoLimit:=e0.mod.nolimit.keeps fun b o e=>(e0.bs b o e).1
 have hkind:∀ y ∈ ps.zip us,scope.names.lookup y.1 = some .local ∨ (scope.names.lookup y.1 = some .cell∧((cellsFrom (s.heap.objs.size + 1) scope.names []).lookup y.1).isSome = true):=fun ⟨n,v⟩ hy=>by
  rcases S.par n (List.of_mem_zip hy).1 with q | q
  ·exact .inl q
  ·exact .inr ⟨q,PySem.W.cellsFrom_some _ _ _ (.inl q)⟩
 refine codeAny_call_function hr.depth (KX _ _ lk) rfl S.co S.gen rfl (PySem.W.codeRec_of KX hcd) (hb _ _ _ _ ?_)
 refine wpAny_newFunctionEnv_cells S.kind hkind fun env he s1 x=>?_
 subst he
 refine ⟨lim.keeps x.toInCall.keep,codeAny_func ?_⟩
 obtain ⟨t,ht,hq⟩:=hbody A outer s H vs Q E (hr.deeper _) hsp
 have I:Inv (cxOf CX P w K mg base N qual scope f cdv A outer s H E) [] (k0h N vs) H s1:=z0a S hr.hd e0 hl r x
 refine wpAny_mono (ht [] s1 (k0h N vs) H _ I hq) (fun fl s' hs=>?_) fun e s' hs=>hs
 have fin:∀ {σ':St} {H':Hp} {v:V} {u:Value},Inv (cxOf CX P w K mg base N qual scope f cdv A outer s H E) [] σ' H' s'→RelV v u→Q v H'→CE outer P w H s Q u s' :=
  fun {σ' H' v u} J rv q=>⟨v,H',J.os,J.bare,J.base,J.hok,rv,q⟩
 cases fl with
 | ret u =>
  obtain ⟨v,σ',H',J,rv,q⟩:=hs
  exact fin J rv q
 | next =>
  obtain ⟨σ',H',J,q⟩:=hs
  exact fin (v:=V.non) (u:=Value.none) J rfl q
 | brk =>
  obtain ⟨_,_,_,q⟩:=hs
  exact False.elim q
 | cont =>
  obtain ⟨_,_,_,q⟩:=hs
  exact False.elim q
section
variable {X:Cx} {x:Str} {p pos:Pos} {e:Expr} {es:List Expr} {t:TA} {id T:String} {r:List V→Hp→VK→Prop}
def tCB (r:List V→Hp→VK→Prop) (t:TA):TE:=fun σ H Q=>t σ H fun vs H1=>r vs H1 Q
theorem b0d (hc:h0c X (.builtin id) r) (hg:Gl X x) (hm:X.mg x = none) (hv:bootBuiltins x = some (.builtin id)) (ha:PA X (e :: es) t) (hn:x ≠ "__name__" := by decide) (hdb:(x == ("__debug__" : Str)) = false:=by decide)
  (he:starEach (e :: es) X.env = (false,eval e X.env) :: starEach es X.env:=by rfl) (hpl:(backTo pos (starEach es X.env)).any (·.1) = false:=by rfl):PE X (.Call (.Name x p) (e :: es) [] pos) (tCB r t):=by
 intro pins s σ H Q I h
 refine wpAny_Call_Name_kw (l0g I hg hm hv ?_ hn hdb)
 exact PyProof.Rows.callWith_builtin1 (thn (ha pos pins s σ H _ I h) fun us s1 ⟨vs,H1,I1,r1,q1⟩=>hc pins s1 σ H1 vs us Q I1 r1 q1) he hpl
theorem d0x (hc:h0c X (.type T) r) (hg:Gl X x) (hm:X.mg x = none) (hv:bootBuiltins x = some (.type T)) (ha:PA X (e :: es) t) (hn:x ≠ "__name__" := by decide) (hdb:(x == ("__debug__" : Str)) = false:=by decide)
  (he:starEach (e :: es) X.env = (false,eval e X.env) :: starEach es X.env:=by rfl) (hpl:(backTo pos (starEach es X.env)).any (·.1) = false:=by rfl):PE X (.Call (.Name x p) (e :: es) [] pos) (tCB r t):=by
 intro pins s σ H Q I h
 refine wpAny_Call_Name_kw (l0g I hg hm hv ?_ hn hdb)
 exact PyProof.Rows.callWith_type1 (thn (ha pos pins s σ H _ I h) fun us s1 ⟨vs,H1,I1,r1,q1⟩=>hc pins s1 σ H1 vs us Q I1 r1 q1) he hpl
end
end L2
namespace HT
open PySem PyProof.Rows
section
variable {prog:Program} {w:World} {A:Around} {E:Value→Shared→Prop} {s:Shared}
def sIx (n d:Nat):Option Int→Nat
 | none=>d
 | some v=>if v < 0 then (v + (n:Int)).toNat else min v.toNat n
theorem sIx_nat (n d k:Nat):sIx n d (some (k:Int)) = min k n:=by
 show (if (k:Int) < 0 then ((k:Int) + (n:Int)).toNat else min (k:Int).toNat n) = min k n
 rw [if_neg (by omega),Int.toNat_natCast]
end
end HT
namespace L2
open PySem PySem.Spec PyProof.Rows
abbrev TO:=St→Hp→(Option Int→Hp→Prop)→Prop
def PO (X:Cx) (e:Option Expr) (t:TO):Prop :=
 ∀ (pins:List (Addr × Obj)) (s:Shared) (σ:St) (H:Hp) (Q:Option Int→Hp→Prop),Inv X pins σ H s→t σ H Q →
  wpAny (model X.prog X.w) X.A (evalPart e X.env) (fun u s'=>∃ o H',Inv X pins σ H' s'∧IsPart u o∧Q o H') X.xe s
def tNoPart:TO:=fun _ H Q=>Q none H
def h1t (t:TE):TO:=fun σ H Q=>t σ H fun x H1=>∃ i,x = .int i∧Q (some i) H1
section
variable {X:Cx} {e:Expr} {te:TE} {lo hi:Option Expr} {tl th:TO} {pos p2:Pos}
theorem x0z:PO X none tNoPart:=by
 intro pins s σ H Q I h
 rw [evalPart_none]
 exact wpAny_pure ⟨none,H,I,.none,h⟩
theorem x0y (h:PE X e te):PO X (some e) (h1t te):=by
 intro pins s σ H Q I hw
 rw [evalPart_some]
 refine thn (h pins s σ H _ I hw) fun u s1 ⟨x,H1,I1,r1,q1⟩=>?_
 obtain ⟨i,rfl,q⟩:=q1
 obtain ⟨t,rfl⟩:=r1
 exact ⟨some i,H1,I1,.int i t,q⟩
def SlR (X:Cx) (r:V→Option Int→Option Int→Hp→VK→Prop):Prop :=
 ∀ (pins:List (Addr × Obj)) (s:Shared) (σ:St) (H:Hp) (x:V) (v vl vu:Value) (lo hi:Option Int) (sl:Addr) (Q:VK),Inv X pins σ H s→RelV x v→s.heap.IsSliceOf sl vl vu .none→IsPart vl lo→IsPart vu hi→r x lo hi H Q →
  ∃ T id,typeLookup (.type T) "__getitem__" = pure (some (.builtin id))∧s.TypeIs v T∧wpAny (model X.prog X.w) X.A (getItem v (.ref sl)) (EP X pins σ Q) X.xe s
theorem SlR.or {r r':V→Option Int→Option Int→Hp→VK→Prop} (h:SlR X r) (h':SlR X r'):SlR X (fun x lo hi H Q=>r x lo hi H Q ∨ r' x lo hi H Q):=by
 intro pins s σ H x v vl vu lo hi sl Q I rx hs pl pu q
 rcases q with q | q
 ·exact h pins s σ H x v vl vu lo hi sl Q I rx hs pl pu q
 ·exact h' pins s σ H x v vl vu lo hi sl Q I rx hs pl pu q
def tSl (r:V→Option Int→Option Int→Hp→VK→Prop) (te:TE) (tl th:TO):TE:=fun σ H Q=>te σ H fun x H1=>tl σ H1 fun l H2=>th σ H2 fun u H3=>r x l u H3 Q
theorem t0j {r:V→Option Int→Option Int→Hp→VK→Prop} (hr:SlR X r) (he:PE X e te) (hl:PO X lo tl) (hu:PO X hi th):PE X (.Subscript e (.Slice lo hi none p2) pos) (tSl r te tl th):=by
 intro pins s σ H Q I h
 refine Subscript_ (thn (he pins s σ H _ I h) fun v s1 ⟨x,H1,I1,r1,q1⟩=>?_)
 refine wpAny_Slice (thn (hl pins s1 σ H1 _ I1 q1) fun vl s2 ⟨l,H2,I2,pl,q2⟩=>thn (hu pins s2 σ H2 _ I2 q2) fun vu s3 ⟨u,H3,I3,pu,q3⟩=>?_)
 rw [evalPart_none]
 refine wpAny_pure ?_
 have I4:Inv X pins σ H3 { s3 with heap:=s3.heap.push { cls:=.type "slice",data:=.fields #[vl,vu,.none] } }:=I3.kept (t':=s3.toks) fun b ob q=>Heap.get?_push_of_some _ q
 obtain ⟨T,id,hT,ht,hg⟩:=hr pins { s3 with heap:=s3.heap.push { cls:=.type "slice",data:=.fields #[vl,vu,.none] } } σ H3 x v vl vu l u s3.heap.objs.size Q I4 r1 (Heap.IsSliceOf.new ..) pl pu q3
 show wpAny (model X.prog X.w) X.A (subscriptTail e (.Slice lo hi none p2) v (.ref s3.heap.objs.size)) (EP X pins σ Q) X.xe { s3 with heap:=s3.heap.push { cls:=.type "slice",data:=.fields #[vl,vu,.none] } }
 exact tail_any (ops:=[.ref s3.heap.objs.size,v]) ht hT hg (by with_unfolding_all rfl)
def cutV (xs:List V) (lo hi:Option Int):List V:=(xs.drop (HT.sIx xs.length 0 lo)).take (HT.sIx xs.length xs.length hi - HT.sIx xs.length 0 lo)
theorem s0h (xs:List V) (lo hi:Option Int):(cutV xs lo hi).length ≤ xs.length:=by
 unfold cutV
 rw [List.length_take,List.length_drop]
 omega
end
def ixN (n:Nat) (i:Int):Option Nat:=if 0 ≤ i then (if i < n then some i.toNat else none) else if -(n:Int) ≤ i then some (i + n).toNat else none
def atI {α:Type} (xs:List α) (i:Int):Option α:=(ixN xs.length i).bind fun j=>xs[j]?
theorem y0x {n:Nat} {i:Int} {j:Nat} (h:ixN n i = some j):seqIndex? i n = some j∧j < n∧-(n:Int) ≤ i∧i < n:=by
 unfold ixN at h
 by_cases h0:0 ≤ i
 ·rw [if_pos h0] at h
  by_cases h1:i < n
  ·rw [if_pos h1] at h
   have e:i.toNat = j:=Option.some.inj h
   exact ⟨by rw [seqIndex_of h0 h1,e],by omega,by omega,h1⟩
  ·rw [if_neg h1] at h; cases h
 ·rw [if_neg h0] at h
  by_cases h1:-(n:Int) ≤ i
  ·rw [if_pos h1] at h
   have e:(i + n).toNat = j:=Option.some.inj h
   exact ⟨by rw [seqIndex_neg (by omega) h1,e],by omega,h1,by omega⟩
  ·rw [if_neg h1] at h; cases h
theorem s0l {α:Type} {xs:List α} {i:Int} {v:α} (h:atI xs i = some v):∃ j,seqIndex? i xs.length = some j∧xs[j]? = some v∧j < xs.length∧-(xs.length:Int) ≤ i∧i < xs.length:=by
 unfold atI at h
 cases e:ixN xs.length i with
 | none=>rw [e] at h; cases h
 | some j =>
  rw [e] at h
  obtain ⟨h1,h2,h3,h4⟩:=y0x e
  exact ⟨j,h1,h,h2,h3,h4⟩
theorem a1h {α:Type} {xs:List α} {j:Nat} {v:α} (h:xs[j]? = some v):atI xs (j:Int) = some v:=by
 have hj:j < xs.length:=(List.getElem?_eq_some_iff.mp h).1
 have e:ixN xs.length (j:Int) = some j:=by
  unfold ixN
  rw [if_pos (by omega),if_pos (by omega)]; simp
 unfold atI; rw [e]; exact h
def h1d (b:Expr):Prop:=∀ o i,subscripted b false o i = operate [o,i] (getItem o i)
def IxR (X:Cx) (r:R2):Prop :=
 ∀ (value slice:Expr) (pins:List (Addr × Obj)) (s:Shared) (σ:St) (H:Hp) (x y:V) (v u:Value) (Q:VK),Inv X pins σ H s→RelV x v→RelV y u→r x y H Q →
  subscripted slice false v u = operate [v,u] (getItem v u)→wpAny (model X.prog X.w) X.A (subscriptTail value slice v u) (EP X pins σ Q) X.xe s
def MtR (X:Cx) (id:String) (r:V→List V→Hp→VK→Prop):Prop :=
 ∀ (pins:List (Addr × Obj)) (s:Shared) (σ:St) (H:Hp) (x:V) (xs:List V) (v:Value) (us:List Value) (Q:VK),Inv X pins σ H s→RelV x v→Vals xs us→r x xs H Q →
  wpAny (model X.prog X.w) X.A (call (.builtin id) (v :: us)) (EP X pins σ Q) X.xe s
section
variable {X:Cx} {a b:Expr} {ta tb:TE} {pos:Pos}
theorem IxR.or {r r':R2} (h:IxR X r) (h':IxR X r'):IxR X (fun x y H Q=>r x y H Q ∨ r' x y H Q):=by
 intro value slice pins s σ H x y v u Q I rx ry q hs
 rcases q with q | q
 ·exact h value slice pins s σ H x y v u Q I rx ry q hs
 ·exact h' value slice pins s σ H x y v u Q I rx ry q hs
theorem MtR.or {id:String} {r r':V→List V→Hp→VK→Prop} (h:MtR X id r) (h':MtR X id r'):MtR X id (fun x xs H Q=>r x xs H Q ∨ r' x xs H Q):=by
 intro pins s σ H x xs v us Q I rx rs q
 rcases q with q | q
 ·exact h pins s σ H x xs v us Q I rx rs q
 ·exact h' pins s σ H x xs v us Q I rx rs q
theorem i0a {r:R2} (hr:IxR X r) (ha:PE X a ta) (hb:PE X b tb) (hs:h1d b):PE X (.Subscript a b pos) (tOp r ta tb):=by
 intro pins s σ H Q I h
 exact Subscript_ (binT ha hb I h fun v u s2 x y H2 I2 rx ry q=>hr a b pins s2 σ H2 x y v u Q I2 rx ry q (hs _ _))
def rIxL (K:PySem.W.Frag):R2:=fun x y H Q=>∃ p xs i v,x = .ref p∧y = .int i∧SqL K H p xs∧atI xs i = some v∧Q v H
def rIxT (K:PySem.W.Frag):R2:=fun x y H Q=>∃ p xs i v,x = .ref p∧y = .int i∧SqT K H p xs∧atI xs i = some v∧Q v H
def rIxS:R2:=fun x y H Q=>∃ z i c,x = .str z∧y = .int i∧z.length ≤ sizeLine∧atI z.cps.toList i = some c∧Q (.str ⟨#[c]⟩) H
theorem f1u:IxR X (rIxL X.K):=by
 intro value slice pins s σ H x y v u Q I rx ry h hs
 obtain ⟨p,xs,i,z,rfl,rfl,hq,he,q⟩:=h
 cases rx
 obtain ⟨t,rfl⟩:=ry
 obtain ⟨its,r,pl,hz⟩:=I.list hq
 obtain ⟨j,h1,h2,h3,h4,h5⟩:=s0l he
 obtain ⟨w,ew,rw'⟩:=r.get h2
 have hl:=r.length
 have hn:=m0n
 have fin:EP X pins σ Q w s:=⟨z,H,I,rw',q⟩
 by_cases h0:0 ≤ i
 ·have hj:i.toNat = j:=by
   rw [seqIndex_of h0 h5] at h1
   exact Option.some.inj h1
  exact item_listR pl.isList h0 (by omega) (by rw [hj]; simpa using ew) fin hs
 ·have hj:(i + (its.toArray.size:Int)).toNat = j:=by
   rw [seqIndex_neg (by omega) h4] at h1
   rw [List.size_toArray,← hl]
   exact Option.some.inj h1
  exact subscriptTail_builtinR (x:=w) pl.isList.typeIs slot_list_getitem.lookup
   (wpAny_getItem_list_neg (Q:=fun r s'=>r = w∧EP X pins σ Q r s') pl.isList (by omega) (by rw [List.size_toArray] <;> omega) (by omega) (by rw [hj]; simpa using ew) ⟨rfl,fin⟩) hs
theorem j1d:IxR X (rIxT X.K):=by
 intro value slice pins s σ H x y v u Q I rx ry h hs
 obtain ⟨p,xs,i,z,rfl,rfl,hq,he,q⟩:=h
 cases rx
 obtain ⟨t,rfl⟩:=ry
 obtain ⟨its,r,pl,hz⟩:=I.tuple hq
 obtain ⟨j,h1,h2,h3,h4,h5⟩:=s0l he
 obtain ⟨w,ew,rw'⟩:=r.get h2
 have hl:=r.length
 have hn:=m0n
 have fin:EP X pins σ Q w s:=⟨z,H,I,rw',q⟩
 exact subscriptTail_builtinR (x:=w) pl.typeIs slot_tuple_getitem.lookup
  (getItem_tuple (j:=j) (Q:=fun r s'=>r = w∧EP X pins σ Q r s') pl (by omega) (by omega) (by rw [List.size_toArray,← hl]; exact h1) (by simpa using ew) ⟨rfl,fin⟩) hs
theorem j1e:IxR X rIxS:=by
 intro value slice pins s σ H x y v u Q I rx ry h hs
 obtain ⟨z,i,c,rfl,rfl,hz,he,q⟩:=h
 obtain ⟨t,rfl⟩:=rx
 obtain ⟨t',rfl⟩:=ry
 obtain ⟨j,h1,h2,h3,h4,h5⟩:=s0l he
 have hl:z.cps.toList.length = z.length:=by simp [Str.length]
 rw [hl] at h1 h4 h5
 have hn:=m0n
 exact tail_any (typeIs_str s z t) slot_str_getitem.lookup (getItem_str (c:=c) (by
  have e1:decide (i < -(2 ^ 63:Int)) = false:=decide_eq_false (by omega)
  have e2:decide (i ≥ 2 ^ 63) = false:=decide_eq_false (by omega)
  rw [e1,e2,Bool.or_false]) (by rw [h1]; simpa using h2) ⟨.str ⟨#[c]⟩,H,I.tok _,⟨_,rfl⟩,q⟩) hs
def rIx (K:PySem.W.Frag):R2:=fun x y H Q=>rIxL K x y H Q ∨ rIxT K x y H Q ∨ rIxS x y H Q
theorem j1f:IxR X (rIx X.K):=f1u.or (j1d.or j1e)
theorem v0h (its:List Value) (n j:Nat) (u:Value):Obj.mapSeq (·.setIfInBounds j u) { cls:=.type "list",data:=.seq its.toArray n } = { cls:=.type "list",data:=.seq (its.set j u).toArray n }:=by
 simp [Obj.mapSeq]
theorem Inv.lst {pins:List (Addr × Obj)} {σ:St} {H:Hp} {s:Shared} {p:Addr} {xs:List V} (I:Inv X pins σ H s) (h:H p = some (.lst xs)) :
  ∃ (its:List Value) (n:Nat),Vals xs its∧s.heap.get? p = some { cls:=.type "list",data:=.seq its.toArray n }∧xs.length ≤ sizeLine:=by
 obtain ⟨z,its,n,r,e⟩:=I.hok p _ h
 exact ⟨its,n,r,e,z⟩
theorem Inv.lstUpd {pins:List (Addr × Obj)} {σ:St} {H:Hp} {s:Shared} {p:Addr} {xs ys:List V} {its its':List Value} {n n':Nat} {f:Obj→Obj} (I:Inv X pins σ H s) (h:H p = some (.lst xs))
  (ho:s.heap.get? p = some { cls:=.type "list",data:=.seq its.toArray n }) (hf:f { cls:=.type "list",data:=.seq its.toArray n } = { cls:=.type "list",data:=.seq its'.toArray n' }) (r:Vals ys its') (hz:ys.length ≤ sizeLine) (t:Nat) :
  Inv X pins σ (upd H p (.lst ys)) { s with heap:=s.heap.update p f,toks:=t }:=by
 have e:(s.heap.update p f).get? p = some { cls:=.type "list",data:=.seq its'.toArray n' }:=by
  rw [Heap.get?_update_self f ho (by rw [hf] <;> rfl),hf]
 refine I.write (x:=p) (e:=p) (by rw [h]; trivial) (.inl rfl) (fun b u hb q=>(Heap.get?_update_other _ _ (Ne.symm hb)).trans q) ⟨_,e⟩ ?_
 exact ⟨hz,its',n',r,e⟩
def rSetL:V→V→V→Hp→(Hp→Prop)→Prop:=fun o i v H Q=>∃ p xs k j,o = .ref p∧i = .int k∧H p = some (.lst xs)∧ixN xs.length k = some j∧Q (upd H p (.lst (xs.set j v)))
theorem j0t:PSet X rSetL:=by
 intro pins s σ H o i v ov iv u Q I ro ri rv h
 obtain ⟨p,xs,k,j,rfl,rfl,hp,hj,q⟩:=h
 cases ro
 obtain ⟨t,rfl⟩:=ri
 obtain ⟨its,n,r,ho,hz⟩:=I.lst hp
 obtain ⟨h1,h2,h3,h4⟩:=y0x hj
 have hl:=r.length
 have hn:=m0n
 have I':Inv X pins σ (upd H p (.lst (xs.set j v))) { s with heap:=s.heap.update p (Obj.mapSeq (·.setIfInBounds j u)) } :=
  I.lstUpd hp ho (v0h its n j u) (r.set rv j) (by rw [List.length_set]; exact hz) s.toks
 by_cases h0:0 ≤ k
 ·have hk:k.toNat = j:=by
   rw [seqIndex_of h0 h4] at h1
   exact Option.some.inj h1
  exact PySem.W.ki_setAt ho h0 (by omega) (by rw [List.size_toArray,← hl]; exact h4) (by rw [hk]; exact ⟨_,I',q⟩)
 ·have hk:(k + (its.toArray.size:Int)).toNat = j:=by
   rw [seqIndex_neg (by omega) h3] at h1
   rw [List.size_toArray,← hl]
   exact Option.some.inj h1
  exact PySem.W.ki_setBack ho (by omega) (by rw [List.size_toArray,← hl]; exact h3) (by omega) (by rw [hk]; exact ⟨_,I',q⟩)
theorem o0w (lo hi:Option Int) (n:Nat):(sliceBounds lo hi none n).1 = ((HT.sIx n 0 lo:Nat):Int)∧(sliceBounds lo hi none n).2.1 = ((HT.sIx n n hi:Nat):Int)∧(sliceBounds lo hi none n).2.2 = 1:=by
 refine ⟨?_,?_,rfl⟩
 ·cases lo with
  | none=>simp [sliceBounds,HT.sIx]
  | some i =>
   simp only [sliceBounds,HT.sIx,Option.getD_none,show (1:Int) > 0 by decide,if_true]
   by_cases h:i < 0
   ·simp only [h,if_true] <;> omega
   ·simp only [h,if_false] <;> omega
 ·cases hi with
  | none=>simp [sliceBounds,HT.sIx]
  | some i =>
   simp only [sliceBounds,HT.sIx,Option.getD_none,show (1:Int) > 0 by decide,if_true]
   by_cases h:i < 0
   ·simp only [h,if_true] <;> omega
   ·simp only [h,if_false] <;> omega
theorem n0f (its:List Value) (lo hi:Option Int):slicePick its.toArray lo hi none = ((its.drop (HT.sIx its.length 0 lo)).take (HT.sIx its.length its.length hi - HT.sIx its.length 0 lo)).toArray:=by
 obtain ⟨h1,h2,h3⟩:=o0w lo hi its.toArray.size
 unfold slicePick
 rw [h1,h2,h3]
 simp only [sliceRange_one,pick_run,List.size_toArray] <;> rfl
def rSlL (K:PySem.W.Frag):V→Option Int→Option Int→Hp→VK→Prop:=fun x lo hi H Q=>∃ a xs,x = .ref a∧SqL K H a xs∧∀ p,H p = none→Q (.ref p) (upd H p (.lst (cutV xs lo hi)))
theorem e1t:SlR X (rSlL X.K):=by
 intro pins s σ H x v vl vu lo hi sl Q I rx hs pl pu h
 obtain ⟨a,xs,rfl,hx,q⟩:=h
 cases rx
 obtain ⟨its,r,ht,hz⟩:=I.list hx
 have hlen:=r.length
 refine ⟨"list",_,slot_list_getitem.lookup,ht.isList.typeIs,?_⟩
 refine wpAny_getItem_list_slice ht.isList hs pl pu .none (by simp) ?_ (by rw [List.size_toArray] <;> omega)
 rw [n0f,← hlen]
 refine ⟨.ref s.heap.objs.size,_,I.laid (t':=s.toks) (o:=.lst (cutV xs lo hi)) (fun b ob q=>Heap.get?_push_of_some _ q) (Nat.le_refl _) ?_,rfl,q _ (I.hok.fresh (Nat.le_refl _))⟩
 exact ⟨Nat.le_trans (s0h xs lo hi) hz,_,0,(r.drop (HT.sIx xs.length 0 lo)).take (HT.sIx xs.length xs.length hi - HT.sIx xs.length 0 lo),Heap.get?_push_size _ rfl⟩
def m0g:V→Bool
 | .non=>true
 | .bl _=>true
 | .int _=>true
 | .str _=>true
 | _=>false
def eqV:V→V→Bool
 | .non,.non=>true
 | .bl a,.bl b=>a == b
 | .bl a,.int b=>(if a then 1 else 0) == b
 | .int a,.bl b=>a == (if b then 1 else 0)
 | .int a,.int b=>a == b
 | .str a,.str b=>a == b
 | _,_=>false
theorem j1p {A:Around} {s:Shared} {y x:V} {u v:Value} (ry:RelV y u) (rx:RelV x v) (fy:m0g y = true) (fx:m0g x = true):SeqAt.EqAt A s u v (eqV y x):=by
 cases y with
 | non =>
  cases ry
  cases x with
  | non=>cases rx; exact SeqAt.EqAt.same _
  | bl b=>cases rx; exact SeqAt.EqAt.none_bool b
  | int b=>obtain ⟨t,rfl⟩:=rx; exact SeqAt.EqAt.none_int b t
  | str b=>obtain ⟨t,rfl⟩:=rx; exact SeqAt.EqAt.none_str b t
  | _=>exact absurd (show false = true from fx) Bool.false_ne_true
 | bl a =>
  cases ry
  cases x with
  | non=>cases rx; exact SeqAt.EqAt.bool_none a
  | bl b=>cases rx; exact SeqAt.EqAt.bool_bool a b
  | int b=>obtain ⟨t,rfl⟩:=rx; exact SeqAt.EqAt.bool_int a b t
  | str b=>obtain ⟨t,rfl⟩:=rx; exact SeqAt.EqAt.bool_str a b t
  | _=>exact absurd (show false = true from fx) Bool.false_ne_true
 | int a =>
  obtain ⟨t',rfl⟩:=ry
  cases x with
  | non=>cases rx; exact SeqAt.EqAt.int_none a t'
  | bl b=>cases rx; exact SeqAt.EqAt.int_bool a t' b
  | int b=>obtain ⟨t,rfl⟩:=rx; exact SeqAt.EqAt.int_int a t' b t
  | str b=>obtain ⟨t,rfl⟩:=rx; exact SeqAt.EqAt.int_str a t' b t
  | _=>exact absurd (show false = true from fx) Bool.false_ne_true
 | str a =>
  obtain ⟨t',rfl⟩:=ry
  cases x with
  | non=>cases rx; exact SeqAt.EqAt.str_none a t'
  | bl b=>cases rx; exact SeqAt.EqAt.str_bool a t' b
  | int b=>obtain ⟨t,rfl⟩:=rx; exact SeqAt.EqAt.str_int a t' b t
  | str b=>obtain ⟨t,rfl⟩:=rx; exact SeqAt.EqAt.str_str a t' b t
  | _=>exact absurd (show false = true from fx) Bool.false_ne_true
 | _=>exact absurd (show false = true from fy) Bool.false_ne_true
def eqU (x:V) (u:Value):Bool:=match u with
 | .none=>eqV .non x
 | .bool b=>eqV (.bl b) x
 | .int i _=>eqV (.int i) x
 | .str z _=>eqV (.str z) x
 | _=>false
theorem d1t {x y:V} {u:Value} (r:RelV y u) (f:m0g y = true):eqU x u = eqV y x:=by
 cases y with
 | non=>cases r; rfl
 | bl b=>cases r; rfl
 | int i=>obtain ⟨t,rfl⟩:=r; rfl
 | str z=>obtain ⟨t,rfl⟩:=r; rfl
 | _=>exact absurd (show false = true from f) Bool.false_ne_true
theorem s0m {x:V}:∀ {xs:List V} {us:List Value},Vals xs us→xs.all m0g = true→us.any (eqU x) = xs.any fun y=>eqV y x
 | _,_,.nil,_=>rfl
 | y :: xs,u :: us,.cons r t,f=>by
  rw [List.all_cons,Bool.and_eq_true] at f
  rw [List.any_cons,List.any_cons,d1t r f.1,s0m t f.2]
theorem n0r {A:Around} {s:Shared} {x:V} {v:Value} (rx:RelV x v) (fx:m0g x = true):∀ {xs:List V} {us:List Value},Vals xs us→xs.all m0g = true→∀ u ∈ us,SeqAt.EqAt A s u v (eqU x u)
 | _,_,.nil,_=>fun u hu=>by cases hu
 | y :: xs,u :: us,.cons r t,f=>fun u' hu=>by
  rw [List.all_cons,Bool.and_eq_true] at f
  rcases List.mem_cons.mp hu with rfl | hu
  ·rw [d1t r f.1]; exact j1p r rx f.1 fx
  ·exact n0r rx fx t f.2 u' hu
def inV (x:V) (xs:List V):Bool:=xs.any fun y=>eqV y x
def rIn (K:PySem.W.Frag) (neg:Bool):R2:=fun x y H Q=>∃ p xs,y = .ref p∧(SqL K H p xs ∨ SqT K H p xs)∧m0g x = true∧xs.all m0g = true∧Q (.bl (if neg then !inV x xs else inV x xs)) H
theorem p0d:OpR X (compareOp .NotIn) (rIn X.K true):=by
 intro pins s σ H x y v u Q I rx ry h
 obtain ⟨p,xs,rfl,hq,fx,fs,q⟩:=h
 cases ry
 rcases hq with hq | hq
 ·obtain ⟨its,r,pl,hz⟩:=I.list hq
  refine SeqAt.notIn_listAt (eqU x) pl.isList (fun w hw=>n0r rx fx r fs w (by simpa using hw)) ⟨.bl _,H,I,rfl,?_⟩
  rw [show its.toArray.any (eqU x) = its.any (eqU x) by simp,s0m r fs]
  exact q
 ·obtain ⟨its,r,pl,hz⟩:=I.tuple hq
  refine SeqAt.notIn_tupleAt (eqU x) pl (fun w hw=>n0r rx fx r fs w (by simpa using hw)) ⟨.bl _,H,I,rfl,?_⟩
  rw [show its.toArray.any (eqU x) = its.any (eqU x) by simp,s0m r fs]
  exact q
theorem q0l:h0c X (.builtin "len") (fun xs H Q=>∃ p ys,xs = [.ref p]∧(SqL X.K H p ys ∨ SqT X.K H p ys)∧Q (.int ys.length) H):=by
 intro pins s σ H xs us Q I r h
 obtain ⟨p,ys,rfl,hq,q⟩:=h
 obtain ⟨u,rfl,rx⟩:=o0p r
 cases rx
 have hn:=m0n
 rcases hq with hq | hq
 ·obtain ⟨its,r',pl,hz⟩:=I.list hq
  have hlen:=r'.length
  exact Calls.call_len_list pl.isList (by simp only [List.size_toArray] <;> omega) ⟨.int ys.length,H,I.tok _,⟨s.toks + 1,by rw [List.size_toArray,hlen]⟩,q⟩
 ·obtain ⟨its,r',pl,hz⟩:=I.tuple hq
  have hlen:=r'.length
  exact len_tuple pl (by simp only [List.size_toArray] <;> omega) ⟨.int ys.length,H,I.tok _,⟨s.toks + 1,by rw [List.size_toArray,hlen]⟩,q⟩
theorem h0c.or {f:Value} {r r':List V→Hp→VK→Prop} (h:h0c X f r) (h':h0c X f r'):h0c X f (fun xs H Q=>r xs H Q ∨ r' xs H Q):=by
 intro pins s σ H xs us Q I rs q
 rcases q with q | q
 ·exact h pins s σ H xs us Q I rs q
 ·exact h' pins s σ H xs us Q I rs q
theorem q0k:h0c X (.type "list") (fun xs H Q=>∃ p ys,xs = [.ref p]∧(SqL X.K H p ys ∨ SqT X.K H p ys)∧∀ l,H l = none→Q (.ref l) (upd H l (.lst ys))):=by
 intro pins s σ H xs us Q I r h
 obtain ⟨p,ys,rfl,hq,q⟩:=h
 obtain ⟨u,rfl,rx⟩:=o0p r
 cases rx
 have fin:∀ (its:List Value),Vals ys its→ys.length ≤ sizeLine→∀ (h':Heap) (c':Nat),(∀ b o',s.heap.get? b = some o'→h'.get? b = some o') →
   h'.get? s.heap.objs.size = some { cls:=.type "list",dict:=none,data:=.seq its.toArray c',slots:=#[] }→EP X pins σ Q (.ref s.heap.objs.size) { s with heap:=h' }:=fun its r' hz h' c' kp e =>
  ⟨.ref s.heap.objs.size,_,I.laid (t':=s.toks) kp (Nat.le_refl _) (show d0a X.prog X.w _ h' _ (.lst ys) from ⟨hz,its,c',r',e⟩),rfl,q _ (I.hok.fresh (Nat.le_refl _))⟩
 rcases hq with hq | hq
 ·obtain ⟨its,r',pl,hz⟩:=I.list hq
  have hlen:=r'.length
  obtain ⟨o,ho,hc,n,hd⟩:=pl.isList
  exact call_list_seq p (.inl rfl) ho hc hd (fun h' c' kp e=>fin its r' hz h' c' kp e) (by simp only [List.size_toArray] <;> omega)
 ·obtain ⟨its,r',pl,hz⟩:=I.tuple hq
  have hlen:=r'.length
  obtain ⟨o,ho,hc,n,hd⟩:=pl
  exact call_list_seq p (.inr rfl) ho hc hd (fun h' c' kp e=>fin its r' hz h' c' kp e) (by simp only [List.size_toArray] <;> omega)
theorem o0h:h0c X (.type "tuple") (fun xs H Q=>∃ p ys,xs = [.ref p]∧((SqL X.K H p ys∧∀ l,H l = none→Q (.ref l) (upd H l (.tup ys))) ∨ (SqT X.K H p ys∧Q (.ref p) H))):=by
 intro pins s σ H xs us Q I r h
 obtain ⟨p,ys,rfl,h⟩:=h
 obtain ⟨u,rfl,rx⟩:=o0p r
 cases rx
 rcases h with ⟨hq,q⟩ | ⟨hq,q⟩
 ·obtain ⟨its,r',pl,hz⟩:=I.list hq
  have hlen:=r'.length
  refine call_tuple_list pl.isList (fun h' kp=>?_) (by simp only [List.size_toArray] <;> omega)
  have I1:Inv X pins σ H { s with heap:=h' }:=I.kept (t':=s.toks) kp
  have I2:Inv X pins σ (upd H h'.objs.size (.tup ys)) { s with heap:=h'.push { cls:=.type "tuple",data:=.seq its.toArray } } :=
   I1.laid (t':=s.toks) (fun b o e=>Heap.get?_push_of_some _ e) (Nat.le_refl _) (show d0a X.prog X.w _ _ _ (.tup ys) from ⟨hz,its,r',IsTup.new _ _⟩)
  exact ⟨.ref h'.objs.size,_,I2,rfl,q _ (I1.hok.fresh (Nat.le_refl _))⟩
 ·obtain ⟨its,r',pl,hz⟩:=I.tuple hq
  exact call_tuple_same pl ⟨.ref p,H,I,rfl,q⟩
def tyV (K:PySem.W.Frag) (T:String) (x:V) (H:Hp):Prop:=match x with
 | .str _=>T = "str"
 | .int _=>T = "int"
 | .ref p=>(T = "list" ∧ ∃ xs,SqL K H p xs) ∨ (T = "tuple" ∧ ∃ o,K.lookup p = some o∧o.cls = .type "tuple" ∧ o.dict = none) ∨
   (T = "dict" ∧ ((∃ kvs,H p = some (.dK kvs)) ∨ ∃ kvs,H p = some (.dT kvs))) ∨ (T = "set" ∧ ∃ S n,H p = some (.set S n))
 | _=>False
theorem c1v {pins:List (Addr × Obj)} {σ:St} {H:Hp} {s:Shared} {T:String} {x:V} {v:Value} (I:Inv X pins σ H s) (r:RelV x v) (ty:tyV X.K T x H) :
  s.TypeIs v T∧∀ a,v = .ref a→∃ ob,s.heap.get? a = some ob∧ob.dict = none:=by
 cases x with
 | str z =>
  obtain ⟨t,rfl⟩:=r
  cases (show T = "str" from ty)
  exact ⟨typeIs_str s z t,fun _ e=>nomatch e⟩
 | int i =>
  obtain ⟨t,rfl⟩:=r
  cases (show T = "int" from ty)
  exact ⟨typeIs_int s i t,fun _ e=>nomatch e⟩
 | ref p =>
  cases r
  rcases ty with ⟨rfl,xs,hq⟩ | ⟨rfl,o,hk,hc,hd⟩ | ⟨rfl,hk⟩ | ⟨rfl,S,n,hk⟩
  ·obtain ⟨its,_,pl,_⟩:=I.list hq
   refine ⟨pl.isList.typeIs,fun a e=>?_⟩
   cases e
   obtain ⟨o,n,e,c,hd,_⟩:=pl
   exact ⟨o,e,hd⟩
  ·refine ⟨⟨o,I.kIn p o hk,hc⟩,fun a e=>?_⟩
   cases e
   exact ⟨o,I.kIn _ o hk,hd⟩
  ·have z:∃ o,s.heap.get? p = some o∧o.ExactDict:=by
    rcases hk with ⟨kvs,hk⟩ | ⟨kvs,hk⟩
    ·obtain ⟨_,_,_,_,o,_,_,e,ex,_⟩:=I.hok p _ hk
     exact ⟨o,e,ex⟩
    ·obtain ⟨_,_,_,_,o,_,_,e,ex,_⟩:=I.hok p _ hk
     exact ⟨o,e,ex⟩
   obtain ⟨o,e,ex⟩:=z
   refine ⟨⟨o,e,ex.1⟩,fun a e2=>?_⟩
   cases e2
   exact ⟨o,e,ex.2.1⟩
  ·obtain ⟨o,_,_,_,e,ex,_⟩:=I.hok p _ hk
   refine ⟨⟨o,e,ex.1⟩,fun a e2=>?_⟩
   cases e2
   exact ⟨o,e,ex.2.1⟩
 | _=>exact False.elim ty
def tBM0 (K:PySem.W.Frag) (T:String) (r:V→List V→Hp→VK→Prop) (to:TE):TE:=fun σ H Q=>to σ H fun x H1=>tyV K T x H1∧r x [] H1 Q
def tBM (K:PySem.W.Frag) (T:String) (r:V→List V→Hp→VK→Prop) (to:TE) (t:TA):TE:=fun σ H Q=>to σ H fun x H1=>tyV K T x H1∧t σ H1 fun xs H2=>r x xs H2 Q
variable {o e:Expr} {es:List Expr} {to:TE} {t:TA} {name:Str} {apos cpos:Pos} {T id:String} {r:V→List V→Hp→VK→Prop}
theorem i1l (pa:PlainAttrs T) (slot:Slot T name id) (hty:typeOf (.builtin id) = pure (.type "method_descriptor")) (hm:MtR X id r) (ho:PE X o to)
  (hbase:attributeBase o name X.env (eval o X.env) = eval o X.env:=by rfl) (hline:(apos.endLine == cpos.line) = true:=by rfl):PE X (.Call (.Attribute o name apos) [] [] cpos) (tBM0 X.K T r to):=by
 intro pins s σ H Q I h
 refine wpAny_Call_method0_late hbase hline (thn (ho pins s σ H _ I h) fun v s1 ⟨x,H1,I1,r1,ty,q1⟩=>?_)
 obtain ⟨h1,h2⟩:=c1v I1 r1 ty
 exact ⟨T,id,pa,slot,hty,h1,h2,Calls.callWith_builtin rfl (PySem.evalArgs_none (hm pins s1 σ H1 x [] v [] Q I1 r1 .nil q1))⟩
theorem k1n (pa:PlainAttrs T) (slot:Slot T name id) (hty:typeOf (.builtin id) = pure (.type "method_descriptor")) (hm:MtR X id r) (ho:PE X o to) (ha:PA X (e :: es) t)
  (hbase:attributeBase o name X.env (eval o X.env) = eval o X.env:=by rfl)
  (hfew:((backTo cpos (starEach (e :: es) X.env)).all (fun x=>!x.1) && (backToKw cpos (keywordEach [] X.env)).all (fun x=>x.1.isSome)
   && decide ((e :: es).length + ([]:List Keyword).length + (if ([]:List Keyword).isEmpty then 0 else 1) < 30)) = true:=by rfl)
  (hline:(apos.endLine == cpos.line) = true:=by rfl) (hs:starEach (e :: es) X.env = (false,eval e X.env) :: starEach es X.env:=by rfl) (hplain:(backTo cpos (starEach es X.env)).any (·.1) = false:=by rfl) :
  PE X (.Call (.Attribute o name apos) (e :: es) [] cpos) (tBM X.K T r to t):=by
 intro pins s σ H Q I h
 refine wpAny_Call_method_late hbase hfew hline rfl (thn (ho pins s σ H _ I h) fun v s1 ⟨x,H1,I1,r1,ty,q1⟩=>?_)
 obtain ⟨h1,h2⟩:=c1v I1 r1 ty
 refine ⟨T,id,pa,slot,hty,h1,h2,?_⟩
 have hA:=ha cpos pins s1 σ H1 _ I1 q1
 rw [hs] at hA ⊢
 refine Calls.callWith_builtin (by show (false || (backTo cpos (starEach es X.env)).any (·.1)) = false; rw [hplain] <;> rfl) (Calls.evalArgs_plain ?_)
 exact thn hA fun us s2 ⟨vs,H2,I2,r2,q2⟩=>hm pins s2 σ H2 x vs v us Q I2 r1 r2 q2
end
def MtM (X:Cx) (id:String) (r:V→List V→Hp→VK→Prop):Prop :=
 ∀ (pins:List (Addr × Obj)) (s:Shared) (σ:St) (H:Hp) (x:V) (xs:List V) (v:Value) (us:List Value) (Q:VK),Inv X pins σ H s→RelV x v→Vals xs us→r x xs H Q →
  wpAny (model X.prog X.w) X.A (call (.builtin id) (v :: us)) (EP X pins σ Q) X.xe s
theorem Vals.one:∀ {x:V} {us:List Value},Vals [x] us→∃ u,us = [u]∧RelV x u
 | _,_,.cons r .nil=>⟨_,rfl,r⟩
theorem Vals.two:∀ {x y:V} {us:List Value},Vals [x,y] us→∃ u v,us = [u,v]∧RelV x u∧RelV y v
 | _,_,_,.cons r (.cons q .nil)=>⟨_,_,rfl,r,q⟩
theorem Vals.zero:∀ {us:List Value},Vals [] us→us = []
 | _,.nil=>rfl
theorem Vals.eraseIdx:∀ {xs:List V} {us:List Value} (i:Nat),Vals xs us→Vals (xs.eraseIdx i) (us.eraseIdx i)
 | _,_,_,.nil=>.nil
 | _,_,0,.cons _ t=>t
 | _,_,i + 1,.cons r t=>.cons r (Vals.eraseIdx i t)
theorem Vals.reverse {xs:List V} {us:List Value} (h:Vals xs us):Vals xs.reverse us.reverse:=by
 induction h with
 | nil=>exact .nil
 | cons r t ih=>rw [List.reverse_cons,List.reverse_cons]; exact Vals.append ih (.cons r .nil)
theorem p0t {α:Type}:∀ (l:List α) (i:Nat),(l.eraseIdx i).length ≤ l.length
 | [],_=>Nat.le_refl _
 | _ :: _,0=>Nat.le_succ _
 | _ :: r,i + 1=>Nat.succ_le_succ (p0t r i)
section
variable {X:Cx} {pins:List (Addr × Obj)} {σ:St} {H:Hp} {s:Shared} {l b:Addr} {xs ys zs:List V}
theorem Inv.lset {its its':List Value} {n:Nat} {f:Array Value→Array Value} {t':Nat} (I:Inv X pins σ H s) (hH:H l = some (.lst xs))
  (e:s.heap.get? l = some { cls:=.type "list",data:=.seq its.toArray n }) (hf:f its.toArray = its'.toArray) (hv:Vals ys its') (hz:ys.length ≤ sizeLine) :
  Inv X pins σ (upd H l (.lst ys)) { s with heap:=s.heap.update l (Obj.mapSeq f),toks:=t' }:=by
 have q:=PySem.IsL.update e f
 rw [hf] at q
 refine I.write (x:=l) (e:=l) (by rw [hH]; exact trivial) (.inl rfl) (fun b' u hb hu=>(Heap.get?_update_other s.heap (Obj.mapSeq f) (Ne.symm hb)).trans hu) ⟨_,q⟩ ?_
 exact ⟨hz,its',_,hv,q⟩
theorem Inv.fresh (I:Inv X pins σ H s):H s.heap.objs.size = none:=I.hok.fresh (Nat.le_refl _)
theorem Inv.lstM (I:Inv X pins σ H s) (hH:H l = some (.lst xs)):xs.length ≤ sizeLine∧∃ (its:List Value) (n:Nat),Vals xs its∧xs.length = its.length∧s.heap.get? l = some { cls:=.type "list",data:=.seq its.toArray n }:=by
 obtain ⟨z,its,n,r,e⟩:=I.hok l _ hH
 exact ⟨z,its,n,r,r.length,e⟩
end
section
variable {X:Cx}
def rAppend:V→List V→Hp→VK→Prop:=fun x vs H Q=>∃ l xs y,x = .ref l∧vs = [y]∧H l = some (.lst xs)∧xs.length < sizeLine∧Q .non (upd H l (.lst (xs ++ [y])))
theorem k0y:MtM X "list.append" rAppend:=by
 intro pins s σ H x vs v us Q I rx rv h
 obtain ⟨l,xs,y,rfl,rfl,hH,hz,q⟩:=h
 cases rx
 obtain ⟨u,rfl,ru⟩:=rv.one
 obtain ⟨z,its,n,r,hl,e⟩:=I.lstM hH
 refine call_meets F.slot_list_append ⟨_,e,rfl⟩ F.entry_list_append (F.args_list_append_2 _ _) (PySem.list_append l its.toArray n u (by rw [List.size_toArray]; omega)) ⟨e,?_⟩
 refine ⟨.non,_,I.lset (its':=its ++ [u]) hH e (by simp) (r.append (.cons ru .nil)) ?_,rfl,q⟩
 rw [List.length_append,List.length_singleton]
 omega
def rPopAt:V→List V→Hp→VK→Prop:=fun x vs H Q=>∃ l xs i k y,x = .ref l∧vs = [.int i]∧H l = some (.lst xs)∧-(2 ^ 63) ≤ i∧i < 2 ^ 63∧seqIndex? i xs.length = some k∧xs[k]? = some y∧Q y (upd H l (.lst (xs.eraseIdx k)))
theorem b1q:MtM X "list.pop" rPopAt:=by
 intro pins s σ H x vs v us Q I rx rv h
 obtain ⟨l,xs,i,k,y,rfl,rfl,hH,h1,h2,hk,hy,q⟩:=h
 cases rx
 obtain ⟨u,rfl,ru⟩:=rv.one
 obtain ⟨t,rfl⟩:=ru
 obtain ⟨z,its,n,r,hl,e⟩:=I.lstM hH
 obtain ⟨w,hw,rw'⟩:=r.get hy
 refine call_meets F.slot_list_pop ⟨_,e,rfl⟩ F.entry_list_pop (F.args_list_pop_2 _ _)
  (MeetsSeq.list_pop_at l its.toArray n i t k w (fitsIndex_both h1 h2) (by rw [List.size_toArray,← hl]; exact hk) (by rw [← Array.getElem?_toList]; exact hw) (by rw [List.size_toArray]; omega)) ⟨e,?_⟩
 refine ⟨y,_,I.lset (its':=its.eraseIdx k) hH e ?_ (r.eraseIdx k) ?_,rw',q⟩
 ·show its.toArray.eraseIdxIfInBounds k = (its.eraseIdx k).toArray
  rw [List.eraseIdxIfInBounds_toArray]
 ·have:=p0t xs k
  omega
end
section
variable {κ:Type} [DecidableEq κ]
def valV (kvs:List (κ × V)) (k:κ):Option V:=(kvs.find? fun kv=>decide (kv.1 = k)).map (·.2)
def putK (kvs:List (κ × V)) (k:κ) (v:V):List (κ × V) :=
 if (kvs.any fun kv=>decide (kv.1 = k)) = true then kvs.map (fun kv=>if kv.1 = k then (kv.1,v) else kv) else kvs ++ [(k,v)]
def j1q (kvs:List (κ × V)) (k:κ):List (κ × V):=kvs.filter fun kv=>decide (kv.1 ≠ k)
theorem j0o {p:κ × V} {r:List (κ × V)} {k:κ} (e:p.1 = k):valV (p :: r) k = some p.2:=by simp [valV,List.find?_cons,e]
theorem j0p {p:κ × V} {r:List (κ × V)} {k:κ} (e:¬ p.1 = k):valV (p :: r) k = valV r k:=by simp [valV,List.find?_cons,e]
theorem s0u (k:κ):∀ kvs:List (κ × V),(kvs.any fun kv=>decide (kv.1 = k)) = (valV kvs k).isSome
 | []=>rfl
 | p :: r=>by
  rw [List.any_cons]
  by_cases e:p.1 = k
  ·simp only [j0o e,decide_eq_true e,Bool.true_or,Option.isSome_some]
  ·rw [j0p e,decide_eq_false e,Bool.false_or]; exact s0u k r
theorem h0o (kvs:List (κ × V)) (k:κ) (v:V):(putK kvs k v).length ≤ kvs.length + 1:=by
 unfold putK
 split
 ·rw [List.length_map]; omega
 ·rw [List.length_append,List.length_cons,List.length_nil]; omega
theorem RelO.isSome_eq {o:Option V} {u:Option Value} (r:RelO o u):o.isSome = u.isSome:=by
 cases o with
 | none=>cases u with
  | none=>rfl
  | some _=>exact (show False from r).elim
 | some _=>cases u with
  | none=>exact (show False from r).elim
  | some _=>rfl
theorem RelO.getD {o:Option V} {u:Option Value} {d:V} {d':Value} (r:RelO o u) (rd:RelV d d'):RelV (o.getD d) (u.getD d'):=by
 cases o with
 | none=>cases u with
  | none=>exact rd
  | some _=>exact (show False from r).elim
 | some _=>cases u with
  | none=>exact (show False from r).elim
  | some _=>exact r
theorem KV.val {kvs:List (κ × V)} {vs:List (κ × Value)} (r:KV kvs vs) (k:κ):RelO (valV kvs k) (valueAt vs k):=by
 unfold KV at r
 induction r with
 | nil=>exact True.intro
 | @cons p q ps qs h t ih =>
  obtain ⟨h1,h2⟩:=h
  by_cases e:p.1 = k
  ·have e':q.1 = k:=h1.symm.trans e
   have b:valueAt (q :: qs) k = some q.2:=by simp [valueAt,List.find?_cons,e']
   rw [j0o e,b]; exact h2
  ·have e':¬ q.1 = k:=fun z=>e (h1.trans z)
   have b:valueAt (q :: qs) k = valueAt qs k:=by simp [valueAt,List.find?_cons,e']
   rw [j0p e,b]; exact ih
theorem KV.any {kvs:List (κ × V)} {vs:List (κ × Value)} (r:KV kvs vs) (k:κ):(kvs.any fun kv=>decide (kv.1 = k)) = vs.any fun kv=>decide (kv.1 = k):=by
 unfold KV at r
 induction r with
 | nil=>rfl
 | cons h t ih=>rw [List.any_cons,List.any_cons,ih,h.1]
theorem KV.repl {kvs:List (κ × V)} {vs:List (κ × Value)} (r:KV kvs vs) (k:κ) {y:V} {u:Value} (ry:RelV y u) :
  KV (kvs.map fun kv=>if kv.1 = k then (kv.1,y) else kv) (vs.map fun kv=>if kv.1 = k then (kv.1,u) else kv):=by
 unfold KV at r ⊢
 induction r with
 | nil=>exact .nil
 | @cons p q ps qs h t ih =>
  rw [List.map_cons,List.map_cons]
  refine .cons ?_ ih
  obtain ⟨h1,h2⟩:=h
  by_cases e:p.1 = k
  ·rw [if_pos e,if_pos (h1.symm.trans e)]; exact ⟨h1,ry⟩
  ·rw [if_neg e,if_neg (fun z=>e (h1.trans z))]; exact ⟨h1,h2⟩
theorem KV.put {kvs:List (κ × V)} {vs:List (κ × Value)} (r:KV kvs vs) (k:κ) {y:V} {u:Value} (ry:RelV y u):KV (putK kvs k y) (stored vs k u):=by
 unfold putK stored
 rw [r.any k]
 by_cases e:(vs.any fun kv=>decide (kv.1 = k)) = true
 ·rw [if_pos e,if_pos e]; exact r.repl k ry
 ·rw [if_neg e,if_neg e]; exact Paired.snoc r ⟨rfl,ry⟩
theorem KV.drop {kvs:List (κ × V)} {vs:List (κ × Value)} (r:KV kvs vs) (k:κ):KV (j1q kvs k) (without vs k):=by
 unfold KV at r ⊢
 unfold j1q without
 induction r with
 | nil=>exact .nil
 | @cons p q ps qs h t ih =>
  obtain ⟨h1,h2⟩:=h
  rw [List.filter_cons,List.filter_cons]
  by_cases e:p.1 = k
  ·have a:¬ decide (p.1 ≠ k) = true:=by simp [e]
   have b:¬ decide (q.1 ≠ k) = true:=by simp [h1.symm.trans e]
   rw [if_neg a,if_neg b]; exact ih
  ·have e':¬ q.1 = k:=fun z=>e (h1.trans z)
   have a:decide (p.1 ≠ k) = true:=by simp [e]
   have b:decide (q.1 ≠ k) = true:=by simp [e']
   rw [if_pos a,if_pos b]; exact .cons ⟨h1,h2⟩ ih
theorem KV.keys {kvs:List (κ × V)} {vs:List (κ × Value)} (r:KV kvs vs):kvs.map (·.1) = vs.map (·.1):=by
 unfold KV at r
 induction r with
 | nil=>rfl
 | cons h t ih=>rw [List.map_cons,List.map_cons,ih,h.1]
theorem KV.length {kvs:List (κ × V)} {vs:List (κ × Value)} (r:KV kvs vs):kvs.length = vs.length:=Paired.length r
end
theorem v0l {P:Program} {w:World} {k:Key} {u:Value} (r:RelV (kV k) u):(b0u P w).is k u = true:=by
 cases k with
 | inl i=>obtain ⟨t,e⟩:=(show ∃ t,u = Value.int i t from r); subst e; exact r0v P w i t
 | inr x=>obtain ⟨t,e⟩:=(show ∃ t,u = Value.str x t from r); subst e; exact r0u P w x t
theorem p0v {P:Program} {w:World}:∀ {ks:List Key} {us:List Value},Vals (ks.map kV) us→ItemsAre (b0u P w) ks us
 | [],_,r=>by rw [List.map_nil] at r; cases r; exact .nil
 | k :: ks,_,r=>by
  rw [List.map_cons] at r
  cases r with
  | cons h t=>exact .cons (v0l h) (p0v t)
abbrev KT (H:Hp):List (List Key × V)→List (List Key × Addr × Value)→Prop:=Paired fun p q=>p.1 = q.1∧H q.2.1 = some (.tup (p.1.map kV))∧RelV p.2 q.2.2
theorem KT.val {H:Hp} {kvs:List (List Key × V)} {xs:List (List Key × Addr × Value)} (r:KT H kvs xs) (k:List Key):RelO (valV kvs k) ((atKey xs k).map (·.2)):=by
 induction r with
 | nil=>exact True.intro
 | @cons p q ps qs h t ih =>
  obtain ⟨h1,_,h2⟩:=h
  by_cases e:p.1 = k
  ·have e':q.1 = k:=h1.symm.trans e
   have b:atKey (q :: qs) k = some q.2:=by simp [atKey,List.find?_cons,e']
   rw [j0o e,b]; exact h2
  ·have e':¬ q.1 = k:=fun z=>e (h1.trans z)
   have b:atKey (q :: qs) k = atKey qs k:=by simp [atKey,List.find?_cons,e']
   rw [j0p e,b]; exact ih
theorem KT.repl {H:Hp} {kvs:List (List Key × V)} {xs:List (List Key × Addr × Value)} (r:KT H kvs xs) (k:List Key) {y:V} {u:Value} (ry:RelV y u) :
  KT H (kvs.map fun kv=>if kv.1 = k then (kv.1,y) else kv) (xs.map (putAt k u)):=by
 induction r with
 | nil=>exact .nil
 | @cons p q ps qs h t ih =>
  rw [List.map_cons,List.map_cons]
  refine .cons ?_ ih
  obtain ⟨h1,h2,h3⟩:=h
  unfold putAt
  by_cases e:p.1 = k
  ·rw [if_pos e,if_pos (h1.symm.trans e)]; exact ⟨h1,h2,ry⟩
  ·rw [if_neg e,if_neg (fun z=>e (h1.trans z))]; exact ⟨h1,h2,h3⟩
theorem KT.put {H:Hp} {kvs:List (List Key × V)} {xs:List (List Key × Addr × Value)} (r:KT H kvs xs) (k:List Key) {b:Addr} {y:V} {u:Value} (hb:H b = some (.tup (k.map kV))) (ry:RelV y u) :
  KT H (putK kvs k y) (storedH xs k b u):=by
 have e:(kvs.any fun kv=>decide (kv.1 = k)) = (atKey xs k).isSome:=by
  rw [s0u,(r.val k).isSome_eq,Option.isSome_map]
 unfold putK storedH
 rw [e]
 by_cases q:(atKey xs k).isSome = true
 ·rw [if_pos q,if_pos q]; exact r.repl k ry
 ·rw [if_neg q,if_neg q]; exact Paired.snoc r ⟨rfl,hb,ry⟩
theorem KT.keeps {H H':Hp} {kvs:List (List Key × V)} {xs:List (List Key × Addr × Value)} (r:KT H kvs xs) (ht:∀ b ys,H b = some (.tup ys)→H' b = some (.tup ys)):KT H' kvs xs :=
 Paired.mapP r fun _ _ z=>⟨z.1,ht _ _ z.2.1,z.2.2⟩
section
variable {P:Program} {w:World} {H:Hp} {h:Heap} {a:Addr}
theorem i1b {u:HO} (ok:HOk P w H h) (e:Rd H a u):d0a P w H h a u:=e.ok ok
theorem v0t {kvs:List (Key × V)} (ok:HOk P w H h) (e:Rd H a (.dK kvs)):kvs.length ≤ sizeLine∧(a == sysModules) = false∧∃ vs,KV kvs vs∧h.DictOf (b0u P w) a vs :=
 show d0a P w H h a (.dK kvs) from i1b ok e
theorem g1h {kvs:List (Key × V)} (ok:HOk P w H h) (e:H a = some (.dK kvs)):kvs.length ≤ sizeLine∧(a == sysModules) = false∧∃ vs,KV kvs vs∧h.DictOf (b0u P w) a vs:=v0t ok (.inl e)
theorem m0p {ks:List Key} (ok:HOk P w H h) (e:H a = some (.tup (ks.map kV))):(tupleKind (b0u P w)).is h ks a:=by
 obtain ⟨_,its,r,o,h1,h2,n,h3⟩:=(show d0a P w H h a (.tup (ks.map kV)) from ok a _ e)
 exact ⟨o,its.toArray,n,h1,h2,h3,by simpa using p0v r⟩
theorem v0s {kvs:List (List Key × V)} (ok:HOk P w H h) (e:Rd H a (.dT kvs)):kvs.length ≤ sizeLine∧(a == sysModules) = false ∧
  ∃ xs,KT H kvs xs∧h.DictOfH (tupleKind (b0u P w)) a xs:=by
 obtain ⟨z,y,xs,r,o,es,ep,h1,h2,h3,h4,h5⟩:=(show d0a P w H h a (.dT kvs) from i1b ok e)
 refine ⟨z,y,xs,r,o,es,ep,h1,h2,h3,h4,fun x hx=>?_,h5⟩
 have all:∀ {l:List (List Key × V)} {m:List (List Key × Addr × Value)},KT H l m→∀ x ∈ m,(tupleKind (b0u P w)).is h x.1 x.2.1:=by
  intro l m q
  induction q with
  | nil=>intro x hx; exact nomatch hx
  | @cons p q ps qs hq t ih =>
   intro x hx
   rcases List.mem_cons.mp hx with e | hx
   ·subst e
    exact m0p ok (by rw [← hq.1]; exact hq.2.1)
   ·exact ih x hx
 exact all r x hx
theorem k1u {kvs:List (List Key × V)} (ok:HOk P w H h) (e:H a = some (.dT kvs)):kvs.length ≤ sizeLine∧(a == sysModules) = false ∧
  ∃ xs,KT H kvs xs∧h.DictOfH (tupleKind (b0u P w)) a xs:=v0s ok (.inl e)
end
def DGet (H:Hp) (a:Addr) (y:V) (r:Option V):Prop :=
 (∃ kvs k,Rd H a (.dK kvs)∧y = kV k∧r = valV kvs k) ∨ ∃ kvs k b,Rd H a (.dT kvs)∧y = .ref b∧H b = some (.tup (k.map kV))∧r = valV kvs k
def DPut (H:Hp) (a:Addr) (y v:V) (H':Hp):Prop :=
 (∃ kvs k,H a = some (.dK kvs)∧y = kV k∧kvs.length < sizeLine∧H' = upd H a (.dK (putK kvs k v))) ∨
 ∃ kvs k b,H a = some (.dT kvs)∧y = .ref b∧H b = some (.tup (k.map kV))∧kvs.length < sizeLine∧H' = upd H a (.dT (putK kvs k v))
theorem DGet.k {H:Hp} {a:Addr} {kvs:List (Key × V)} {k:Key} (e:H a = some (.dK kvs)):DGet H a (kV k) (valV kvs k):=.inl ⟨kvs,k,.inl e,rfl,rfl⟩
theorem DGet.t {H:Hp} {a b:Addr} {kvs:List (List Key × V)} {k:List Key} (e:H a = some (.dT kvs)) (eb:H b = some (.tup (k.map kV))):DGet H a (.ref b) (valV kvs k):=.inr ⟨kvs,k,b,.inl e,rfl,eb,rfl⟩
theorem DPut.k {H:Hp} {a:Addr} {kvs:List (Key × V)} {k:Key} {v:V} (e:H a = some (.dK kvs)) (hl:kvs.length < sizeLine):DPut H a (kV k) v (upd H a (.dK (putK kvs k v))):=.inl ⟨kvs,k,e,rfl,hl,rfl⟩
theorem DPut.t {H:Hp} {a b:Addr} {kvs:List (List Key × V)} {k:List Key} {v:V} (e:H a = some (.dT kvs)) (eb:H b = some (.tup (k.map kV))) (hl:kvs.length < sizeLine) :
  DPut H a (.ref b) v (upd H a (.dT (putK kvs k v))):=.inr ⟨kvs,k,b,e,rfl,eb,hl,rfl⟩
section
variable {X:Cx} {pins:List (Addr × Obj)} {σ:St} {H:Hp} {s:Shared} {a:Addr} {y v:V} {u r:Value} {o:Option V} {A:Around} {E:Value→Shared→Prop}
theorem Inv.big (I:Inv X pins σ H s):sysModules < s.heap.objs.size:=by
 have h:mainGlobals < s.heap.objs.size:=(I.mod.glob.keeps I.bk).lt
 exact Nat.lt_trans (by decide) h
theorem z0s {Q:Value→Shared→Prop} (hu:A.units + 1 < cLine) (I:Inv X pins σ H s) (g:DGet H a y (some v)) (ry:RelV y u) (h:∀ w' s',Inv X pins σ H s'→RelV v w'→Q w' s') :
  wpAny (model X.prog X.w) A (getItem (.ref a) u) Q E s:=by
 rcases g with ⟨kvs,k,e,ey,l⟩ | ⟨kvs,k,b,e,ey,eb,l⟩
 ·subst ey
  obtain ⟨z,hd,vs,rel,dd⟩:=v0t I.hok e
  obtain ⟨w',hw,rw'⟩:=RelO.some_of (v:=v) (o:=valueAt vs k) (by rw [l]; exact rel.val k)
  exact wpAny_getItem_of (v0l ry) dd.mapOf hw (h w' _ (I.tok _) rw')
 ·subst ey
  cases (show u = Value.ref b from ry)
  obtain ⟨z,hd,xs,rel,dd⟩:=v0s I.hok e
  obtain ⟨w',hw,rw'⟩:=RelO.some_of (v:=v) (o:=(atKey xs k).map (·.2)) (by rw [l]; exact rel.val k)
  obtain ⟨p,hp,hp2⟩:=Option.map_eq_some_iff.mp hw
  refine wpAny_getItem_heap (tupleKind_room_in1 hu) (m0p I.hok eb) dd hp ?_
  rw [hp2]
  exact h w' _ (I.tok _) rw'
theorem d_in {Q:Value→Shared→Prop} (hu:A.units + 1 < cLine) (I:Inv X pins σ H s) (g:DGet H a y o) (ry:RelV y u) (h:∀ s',Inv X pins σ H s'→Q (.bool o.isSome) s') :
  wpAny (model X.prog X.w) A (compareOp .In u (.ref a)) Q E s:=by
 rcases g with ⟨kvs,k,e,ey,l⟩ | ⟨kvs,k,b,e,ey,eb,l⟩
 ·subst ey
  obtain ⟨z,hd,vs,rel,dd⟩:=v0t I.hok e
  refine wpAny_in_of (v0l ry) hd dd.mapOf ?_
  rw [← (rel.val k).isSome_eq,← l]
  exact h _ (I.tok _)
 ·subst ey
  cases (show u = Value.ref b from ry)
  obtain ⟨z,hd,xs,rel,dd⟩:=v0s I.hok e
  refine wpAny_in_heap (tupleKind_room_in1 hu) (m0p I.hok eb) hd dd ?_
  have q:=(rel.val k).isSome_eq
  rw [Option.isSome_map] at q
  rw [← q,← l]
  exact h _ (I.tok _)
theorem g1i {Q:Value→Shared→Prop} (hu:A.units + 1 < cLine) (I:Inv X pins σ H s) (g:DGet H a y o) (ry:RelV y u) (h:∀ s',Inv X pins σ H s'→Q (.bool (!o.isSome)) s') :
  wpAny (model X.prog X.w) A (compareOp .NotIn u (.ref a)) Q E s:=by
 rcases g with ⟨kvs,k,e,ey,l⟩ | ⟨kvs,k,b,e,ey,eb,l⟩
 ·subst ey
  obtain ⟨z,hd,vs,rel,dd⟩:=v0t I.hok e
  refine wpAny_notIn_of (v0l ry) hd dd.mapOf ?_
  rw [← (rel.val k).isSome_eq,← l]
  exact h _ (I.tok _)
 ·subst ey
  cases (show u = Value.ref b from ry)
  obtain ⟨z,hd,xs,rel,dd⟩:=v0s I.hok e
  refine wpAny_notIn_heap (tupleKind_room_in1 hu) (m0p I.hok eb) hd dd ?_
  have q:=(rel.val k).isSome_eq
  rw [Option.isSome_map] at q
  rw [← q,← l]
  exact h _ (I.tok _)
theorem s0g {h':Heap} {t':Nat} {ob:HO} (I:Inv X pins σ H s) (mu:Mut (H a)) (hs:Heap.SameBut a s.heap h') (he:∃ q,h'.get? a = some q) (new:d0a X.prog X.w (upd H a ob) h' a ob) :
  Inv X pins σ (upd H a ob) { s with heap:=h',toks:=t' } :=
 I.write (x:=a) (e:=a) mu (.inl rfl) (fun b q hb z=>(hs.2 b hb).trans z) he new
theorem d1w {P:Program} {w:World} {H':Hp} {h':Heap} {kvs:List (Key × V)} {vs:List (Key × Value)} (z:kvs.length ≤ sizeLine) (hd:(a == sysModules) = false) (rel:KV kvs vs) (dd:h'.DictOf (b0u P w) a vs) :
  d0a P w H' h' a (.dK kvs):=⟨z,hd,vs,rel,dd⟩
theorem z0r {H':Hp} {Q:Unit→Shared→Prop} (hu:A.units + 1 < cLine) (I:Inv X pins σ H s) (g:DPut H a y v H') (ry:RelV y u) (rv:RelV v r) (h:∀ s',Inv X pins σ H' s'→Q () s') :
  wpAny (model X.prog X.w) A (setItem (.ref a) u r) Q E s:=by
 rcases g with ⟨kvs,k,e,ey,l,eH⟩ | ⟨kvs,k,b,e,ey,eb,l,eH⟩
 ·subst ey eH
  obtain ⟨z,hd,vs,rel,dd⟩:=g1h I.hok e
  have hz:vs.length ≤ sizeLine:=by rw [← rel.length]; exact z
  have hl:(putK kvs k v).length ≤ sizeLine:=by have:=h0o kvs k v; omega
  refine wpAny_setItem_pairs (hsz:=hz) (v0l ry) dd fun h' dd' hs=>h _ ?_
  have he:∃ q,h'.get? a = some q:=let ⟨q,_,_,hq,_⟩:=dd'; ⟨q,hq⟩
  exact s0g I (by rw [e]; exact True.intro) hs he (d1w hl hd (rel.put k rv) dd')
 ·subst ey eH
  cases (show u = Value.ref b from ry)
  obtain ⟨z,hd,xs,rel,dd⟩:=k1u I.hok e
  have hz:xs.length ≤ sizeLine:=by rw [← Paired.length rel]; exact z
  have hl:(putK kvs k v).length ≤ sizeLine:=by have:=h0o kvs k v; omega
  refine wpAny_setItem_heap (hsz:=hz) (tupleKind_room_in1 hu) (m0p I.hok eb) dd fun h' dd' hs=>h _ ?_
  obtain ⟨q,es,ep,hq,h2,h3,h4,_,h5⟩:=dd'
  refine s0g I (by rw [e]; exact True.intro) hs ⟨q,hq⟩ ⟨hl,hd,_,(rel.put k eb rv).keeps fun c ys ec=>?_,q,es,ep,hq,h2,h3,h4,h5⟩
  rw [a0l (j0l ec e (fun z=>nomatch z))]
  exact ec
end
def NoSl (i:Expr):Prop:=∀ ov iv,subscripted i false ov iv = operate [ov,iv] (getItem ov iv)
theorem e1p {prog:Program} {w:World} {A:Around} {E:Value→Shared→Prop} {s:Shared} {env:Env} {value slice:Expr} {pos:Pos} {T id:String} {Q:Value→Shared→Prop}
  (hl:typeLookup (.type T) "__getitem__" = pure (some (.builtin id))) (hs:NoSl slice)
  (h:wpAny (model prog w) A (eval value env) (fun o s₁=>wpAny (model prog w) A (eval slice env) (fun i s₂=>s₂.TypeIs o T∧wpAny (model prog w) A (getItem o i) Q E s₂) E s₁) E s) :
  wpAny (model prog w) A (eval (.Subscript value slice pos) env) Q E s:=by
 refine Subscript_ (wpAny_mono h (fun o s₁ h₁=>wpAny_mono h₁ (fun i s₂ h₂=>?_) fun _ _ x=>x) fun _ _ x=>x)
 obtain ⟨hT,h₂⟩:=h₂
 unfold subscriptTail
 refine wpAny_bind ?_
 rw [getitemInPython_of_ne hT.not_modules]
 refine wpAny_bind (wpAny_specialOf hT hl ?_)
 have fin:wpAny (model prog w) A (subscripted slice false o i) (fun r s₃=>wpAny (model prog w) A (letTemporaryGo value o r >>= fun _=>pure r) Q E s₃) E s₂:=by
  rw [hs o i]
  exact wpAny_operating (wpAny_mono h₂ (fun r s₃ h₃=>wpAny_bind (wpAny_letTemporaryGo (wpAny_pure h₃))) fun _ _ x=>x)
 first
  | exact wpAny_pure (wpAny_bind fin)
  | exact wpAny_bind (wpAny_pure (wpAny_bind fin))
  | exact wpAny_bind fin
theorem s0f {X:Cx} {pins:List (Addr × Obj)} {σ:St} {H:Hp} {s:Shared} {a:Addr} {y:V} {o:Option V} (I:Inv X pins σ H s) (g:DGet H a y o):s.TypeIs (.ref a) "dict" := by
 rcases g with ⟨kvs,k,e,_,_⟩ | ⟨kvs,k,b,e,_,_,_⟩
 ·obtain ⟨_,_,vs,_,dd⟩:=v0t I.hok e
  exact dd.typeIs
 ·obtain ⟨_,_,xs,_,dd⟩:=v0s I.hok e
  exact dd.typeIs
def e1o (td ty:TE):TE:=fun σ H Q=>td σ H fun x H1=>ty σ H1 fun y H2=>∃ a v,x = .ref a∧DGet H2 a y (some v)∧Q v H2
def tDIn (ty td:TE):TE:=fun σ H Q=>ty σ H fun y H1=>td σ H1 fun x H2=>∃ a o,x = .ref a∧DGet H2 a y o∧Q (.bl o.isSome) H2
def q0w (ty td:TE):TE:=fun σ H Q=>ty σ H fun y H1=>td σ H1 fun x H2=>∃ a o,x = .ref a∧DGet H2 a y o∧Q (.bl (!o.isSome)) H2
def e1w (td ty tv:TE):TS:=fun D σ H=>tv σ H fun v H1=>td σ H1 fun x H2=>ty σ H2 fun y H3=>∃ a H4,x = .ref a∧DPut H3 a y v H4∧D.nx σ H4
section
variable {X:Cx} {o i e value:Expr} {pos pos' tpos:Pos} {td ty tv:TE}
theorem e0p (hu:X.A.units + 1 < cLine) (ho:PE X o td) (hi:PE X i ty) (hs:NoSl i):PE X (.Subscript o i pos) (e1o td ty):=by
 intro pins s σ H Q I h
 refine e1p PySem.F.slot_dict_getitem.lookup hs (thn (ho pins s σ H _ I h) fun u s1 ⟨x,H1,I1,rx,q1⟩=>thn (hi pins s1 σ H1 _ I1 q1) fun iv s2 ⟨y,H2,I2,ry,a,v,ex,g,q2⟩=>?_)
 subst ex
 obtain rfl:u = Value.ref a:=rx
 exact ⟨s0f I2 g,z0s hu I2 g ry fun w' s3 I3 rw'=>⟨v,H2,I3,rw',q2⟩⟩
theorem i1m (hu:X.A.units + 1 < cLine) (hi:PE X i ty) (ho:PE X o td):PC X .In i o (tDIn ty td):=by
 intro pins s σ H Q I h
 refine thn (hi pins s σ H _ I h) fun iv s1 ⟨y,H1,I1,ry,q1⟩=>thn (ho pins s1 σ H1 _ I1 q1) fun u s2 ⟨x,H2,I2,rx,a,ov,ex,g,q2⟩=>?_
 subst ex
 obtain rfl:u = Value.ref a:=rx
 exact d_in hu I2 g ry fun s3 I3=>⟨.bl ov.isSome,H2,I3,rfl,q2⟩
theorem k0p (hu:X.A.units + 1 < cLine) (hi:PE X i ty) (ho:PE X o td):PC X .NotIn i o (q0w ty td):=by
 intro pins s σ H Q I h
 refine thn (hi pins s σ H _ I h) fun iv s1 ⟨y,H1,I1,ry,q1⟩=>thn (ho pins s1 σ H1 _ I1 q1) fun u s2 ⟨x,H2,I2,rx,a,ov,ex,g,q2⟩=>?_
 subst ex
 obtain rfl:u = Value.ref a:=rx
 exact g1i hu I2 g ry fun s3 I3=>⟨.bl (!ov.isSome),H2,I3,rfl,q2⟩
theorem i0r (hu:X.A.units + 1 < cLine) (ho:PE X o td) (hi:PE X i ty) (hv:PE X value tv) (hs:swapsWith value (some (.Subscript o i pos')) pos.line X.env = pure false) :
  PS X (.Assign [.Subscript o i pos'] value pos) (e1w td ty tv):=by
 intro pins s σ H D I h
 refine wpAny_Assign_Subscript (thn (hv pins s σ H _ I h) fun r s1 ⟨v,H1,I1,rv,q1⟩=>thn (ho pins s1 σ H1 _ I1 q1) fun u s2 ⟨x,H2,I2,rx,q2⟩=>thn (hi pins s2 σ H2 _ I2 q2) fun iv s3 ⟨y,H3,I3,ry,a,H4,ex,g,q3⟩=>?_) hs
 subst ex
 obtain rfl:u = Value.ref a:=rx
 exact z0r hu I3 g ry rv fun s4 I4=>⟨σ,H4,I4,q3⟩
end
theorem u0f {P:Program} {w:World} {H:Hp} (h:Heap) (hb:sysModules < h.objs.size):d0a P w H (h.push { cls:=.type "dict",data:=.dict #[] }) h.objs.size (.dK []) :=
 ⟨Nat.zero_le _,beq_eq_false_iff_ne.mpr (Ne.symm (Nat.ne_of_lt hb)),[],.nil,Heap.DictOf.new h⟩
def tDNewK:TE:=fun _ H Q=>∀ p,H p = none→Q (.ref p) (upd H p (.dK []))
section
variable {X:Cx} {pos:Pos}
theorem t0m:PE X (.Dict [] [] pos) tDNewK:=fun pins s σ H Q I h =>
 wpAny_Dict_empty ⟨.ref s.heap.objs.size,_,I.laid (a:=s.heap.objs.size) (o:=.dK []) (t':=s.toks) (fun _ _ q=>Heap.get?_push_of_some _ q) (Nat.le_refl _) (u0f s.heap I.big),rfl,h _ (I.hok.fresh (Nat.le_refl _))⟩
end
def w0x:List (TE × TE)→St→Hp→(List (V × V)→Hp→Prop)→Prop
 | [],_,H,Q=>Q [] H
 | (tk,tv) :: r,σ,H,Q=>tk σ H fun x H1=>tv σ H1 fun y H2=>w0x r σ H2 fun ps H3=>Q ((x,y) :: ps) H3
abbrev VV:List (V × V)→List (Value × Value)→Prop:=Paired fun p q=>RelV p.1 q.1∧RelV p.2 q.2
def PPs (X:Cx) (pos:Pos) (keys:List (Option Expr)) (values:List Expr) (trs:List (TE × TE)):Prop :=
 ∀ (pins:List (Addr × Obj)) (s:Shared) (σ:St) (H:Hp) (Q:List (V × V)→Hp→Prop),Inv X pins σ H s→w0x trs σ H Q →
  wpAny (model X.prog X.w) X.A (evalPairs (pairTrees keys values X.env pos)) (fun vs s'=>∃ ps H',Inv X pins σ H' s'∧VV ps vs∧Q ps H') X.xe s
theorem f1e {X:Cx} {pos:Pos}:PPs X pos [] [] []:=fun pins s σ H Q I h=>pairTrees_nil_walk ⟨[],H,I,.nil,h⟩
theorem n0k {X:Cx} {pos:Pos} {k v:Expr} {ks:List (Option Expr)} {vs:List Expr} {tk tv:TE} {trs:List (TE × TE)} (hk:PE X k tk) (hv:PE X v tv) (hr:PPs X pos ks vs trs) :
  PPs X pos (some k :: ks) (v :: vs) ((tk,tv) :: trs):=fun pins s σ H Q I h =>
 pairTrees_cons_walk (thn (hk pins s σ H _ I h) fun u s1 ⟨x,H1,I1,rx,q1⟩=>thn (hv pins s1 σ H1 _ I1 q1) fun w2 s2 ⟨y,H2,I2,ry,q2⟩ =>
  thn (hr pins s2 σ H2 _ I2 q2) fun ws s3 ⟨ps,H3,I3,rel,q3⟩=>⟨(x,y) :: ps,H3,I3,.cons ⟨rx,ry⟩ rel,q3⟩)
def k0z (kvs more:List (Key × V)):List (Key × V):=more.foldl (fun acc kv=>putK acc kv.1 kv.2) kvs
theorem KV.merge:∀ {more:List (Key × V)} {rs:List (Key × Value)} {kvs:List (Key × V)} {vs:List (Key × Value)},KV more rs→KV kvs vs→KV (k0z kvs more) (merged vs rs):=by
 intro more rs kvs vs r
 unfold KV at r
 induction r generalizing kvs vs with
 | nil=>intro q; exact q
 | @cons p q ps qs h t ih =>
  intro r0
  have e:KV (putK kvs p.1 p.2) (stored vs q.1 q.2):=by
   have:=r0.put p.1 h.2
   rw [← h.1]; exact this
  exact ih e
theorem i0f:∀ (more kvs:List (Key × V)),(k0z kvs more).length ≤ kvs.length + more.length
 | [],kvs=>by show kvs.length ≤ kvs.length + 0; omega
 | p :: r,kvs=>by
  have h1:=i0f r (putK kvs p.1 p.2)
  have h2:=h0o kvs p.1 p.2
  show (k0z (putK kvs p.1 p.2) r).length ≤ _
  rw [List.length_cons]; omega
theorem n0a {P:Program} {w:World}:∀ {kvs:List (Key × V)} {ws:List (Value × Value)},VV (kvs.map fun kv=>(kV kv.1,kv.2)) ws→∃ rs,Carries (b0u P w) ws rs∧KV kvs rs
 | [],_,r=>by rw [List.map_nil] at r; cases r; exact ⟨[],True.intro,.nil⟩
 | p :: kvs,_,r=>by
  rw [List.map_cons] at r
  cases r with
  | @cons a b as bs h t =>
   obtain ⟨rs,c,q⟩:=n0a (P:=P) (w:=w) t
   obtain ⟨b1,b2⟩:=b
   exact ⟨(p.1,b2) :: rs,⟨v0l h.1,rfl,c⟩,.cons ⟨rfl,h.2⟩ q⟩
def k1l (trs:List (TE × TE)):TE:=fun σ H Q=>∀ p,H p = none→w0x trs σ (upd H p (.dK [])) fun ps H2=>H2 p = some (.dK [])∧∃ kvs:List (Key × V),ps = kvs.map (fun kv=>(kV kv.1,kv.2))∧kvs.length ≤ 15∧Q (.ref p) (upd H2 p (.dK (k0z [] kvs)))
theorem f1h {X:Cx} {pos:Pos} {keys:List (Option Expr)} {values:List Expr} {trs:List (TE × TE)} (h:PPs X pos keys values trs) (hall:keys.all (·.isSome) = true) (hl:keys.length = values.length) (h0:keys ≠ [])
  (h15:keys.length ≤ 15):PE X (.Dict keys values pos) (k1l trs):=by
 intro pins s σ H Q I q
 have hn:=I.hok.fresh (Nat.le_refl s.heap.objs.size)
 have I1:=I.laid (a:=s.heap.objs.size) (o:=.dK []) (h':=s.heap.push { cls:=.type "dict",data:=.dict #[] }) (t':=s.toks) (fun _ _ q=>Heap.get?_push_of_some _ q) (Nat.le_refl _) (u0f s.heap I.big)
 refine wpAny_Dict_walk (knd:=b0u X.prog X.w) hall hl h0 h15 (thn (h pins _ σ _ _ I1 (q _ hn)) fun ws s2 ⟨ps,H2,I2,rel,e,kvs,ep,lk,q2⟩=>?_)
 subst ep
 obtain ⟨rs,c,rk⟩:=n0a (P:=X.prog) (w:=X.w) rel
 obtain ⟨z,hd,vs0,r0,dd⟩:=g1h I2.hok e
 cases r0
 refine ⟨rs,c,dd,fun h' dd' hs=>⟨.ref s.heap.objs.size,_,?_,rfl,q2⟩⟩
 have hz:(k0z [] kvs).length ≤ sizeLine:=by
  have h1:=i0f kvs []
  rw [List.length_nil] at h1
  rw [sizeLine_eq]; omega
 have he:∃ q,h'.get? s.heap.objs.size = some q:=let ⟨q,_,_,hq,_⟩:=dd'; ⟨q,hq⟩
 exact s0g I2 (by rw [e]; exact True.intro) hs he (d1w hz hd (rk.merge .nil) dd')
structure M1 (X:Cx) (o:Expr) (m:Str) (apos:Pos) (e:Expr) (cpos:Pos):Prop where
 base:attributeBase o m X.env (eval o X.env) = eval o X.env
 few:((backTo cpos (starEach [e] X.env)).all (fun x=>!x.1) && (backToKw cpos (keywordEach [] X.env)).all (fun x=>x.1.isSome)
  && decide (([e]:List Expr).length + ([]:List Keyword).length + (if ([]:List Keyword).isEmpty then 0 else 1) < 30)) = true
 line:(apos.endLine == cpos.line) = true
 trees:backTo cpos (starEach [e] X.env) = [(false,eval e X.env)]
structure M2 (X:Cx) (o:Expr) (m:Str) (apos:Pos) (e f:Expr) (cpos:Pos):Prop where
 base:attributeBase o m X.env (eval o X.env) = eval o X.env
 few:((backTo cpos (starEach [e,f] X.env)).all (fun x=>!x.1) && (backToKw cpos (keywordEach [] X.env)).all (fun x=>x.1.isSome)
  && decide (([e,f]:List Expr).length + ([]:List Keyword).length + (if ([]:List Keyword).isEmpty then 0 else 1) < 30)) = true
 line:(apos.endLine == cpos.line) = true
 trees:backTo cpos (starEach [e,f] X.env) = [(false,eval e X.env),(false,eval f X.env)]
def IsD (H:Hp) (a:Addr):Prop:=(∃ kvs,Rd H a (.dK kvs)) ∨ ∃ kvs,Rd H a (.dT kvs)
theorem j1h {X:Cx} {pins:List (Addr × Obj)} {σ:St} {H:Hp} {s:Shared} {a:Addr} (I:Inv X pins σ H s) (d:IsD H a) :
  s.TypeIs (.ref a) "dict" ∧ (∀ b,Value.ref a = .ref b→∃ ob,s.heap.get? b = some ob∧ob.dict = none)∧(a == sysModules) = false:=by
 rcases d with ⟨kvs,e⟩ | ⟨kvs,e⟩
 ·obtain ⟨_,hd,vs,_,dd⟩:=v0t I.hok e
  refine ⟨dd.typeIs,fun b q=>?_,hd⟩
  cases q
  obtain ⟨ob,_,_,h1,h2,_⟩:=dd
  exact ⟨ob,h1,h2.2.1⟩
 ·obtain ⟨_,hd,xs,_,dd⟩:=v0s I.hok e
  refine ⟨dd.typeIs,fun b q=>?_,hd⟩
  cases q
  obtain ⟨ob,_,_,h1,h2,_⟩:=dd
  exact ⟨ob,h1,h2.2.1⟩
end L2
namespace Att
open PySem PySem.W PySem.Calls PyProof.Rows
theorem l0i {P:Params} {h:Heap}:∀ (ns:List Int) (vs:List Value),WellAll P h vs (ns.map WData.int)→IntsAre vs ns:=by
 intro ns
 induction ns with
 | nil =>
  intro vs w
  rw [List.map_nil] at w
  cases w
  exact .nil
 | cons n ns ih =>
  intro vs w
  rw [List.map_cons] at w
  cases w with
  | cons a b =>
   cases a
   exact .cons _ _ (ih _ b)
theorem x0i {l:OpenLaw} {n:Nat} (hn:l.most = some n) {P:Params} {h:Heap} {args:List WData} {vals:List Value}
  (hpre:l.row.toRowW.claim.pre args = true) (hwl:WellAll P h vals args) :
  ∃ a vs ns,vals = [Value.ref a]∧args = [WData.list (ns.map WData.int)]∧h.get? a = some { cls:=.type "list",data:=.seq vs.toArray }∧IntsAre vs ns∧ns.length ≤ n:=by
 have hsh:WShape.hasAll [] args [.list .int] = true:=(pre_splitW hpre).1
 have hc:l.pre.holds [] { args:=args } = true:=(pre_splitW hpre).2
 obtain ⟨d,r,rfl,h1,h2⟩:=hasAllW_cons hsh
 obtain rfl:=hasAllW_nil h2
 obtain ⟨xs,rfl,h3⟩:=hasW_list h1
 obtain ⟨ns,rfl⟩:=items_int h3
 have hlen:ns.length ≤ n:=by
  unfold OpenLaw.pre at hc
  have h4:(WTm.not (.lt (.lit (.int (n:Int))) (.len (.arg 0)))).holds [] { args:=[.list (ns.map .int)] } = true:=by
   have h4:=(holds_andW hc).1
   rw [hn] at h4
   exact h4
  have h5:=condW_of h4 (w_not (w_lt w_lit (w_len_list (w_arg rfl))))
  rw [List.length_map] at h5
  refine Nat.le_of_not_lt fun q=>?_
  have q':(n:Int) < ((ns.length:Nat):Int):=by omega
  first
   | (rw [decide_eq_true q'] at h5; exact absurd h5 (by decide))
   | (simp at h5; omega)
 cases hwl with
 | cons w1 w2 =>
  cases w2
  cases w1 with
  | list ho hall=>exact ⟨_,_,ns,rfl,rfl,ho,l0i ns _ hall,hlen⟩
theorem x0x (l:OpenLaw) (args:List WData):l.row.toRowW.claim.post args (.bool true) args = true :=
 postW_of (r:=l.row.toRowW) (X:=(true == true))
  (show WShape.has [] (.bool true) .bool = true by first | rfl | decide | simp [WShape.has,WShape.arms,WShape.armsAll])
  (show (WTm.eq .res (.lit (.bool true))).value [] { args:=args,res:=some (.bool true),after:=args } = some (.bool (true == true)) from w_eq_bool (w_res rfl) w_lit) rfl
theorem attach_call {l:OpenLaw} {n:Nat} {q:Program} {loose:List Str} {XP:(Str→Option Value)→Heap→Prop} {YP:World→Heap→Prop} {d:DefRec}
  (hn:l.most = some n) (hdf:d.params.defaults = [])
  (call:∀ (w:World) (s₀ s₁:Shared) (mg mb:Str→Option Value) (fa:Addr) (o:Obj) (pm cd doc:Value) (a:Addr) (vs:List Value) (ns:List Int),
   Ground q loose [] XP w s₀ mg mb s₁.heap→YP w s₁.heap →
   s₁.heap.get? fa = some o→o.data = .func (docDef d.name d.params d.body d.scope pm cd doc)→s₁.heap.CodeRec cd d.name→mg d.name = some (.ref fa) →
   s₁.heap.get? a = some { cls:=.type "list",data:=.seq vs.toArray }→IntsAre vs ns→ns.length ≤ n→s₁.gens = #[] →
   codeAny (model l.prog w) callerA (.call (.ref fa) ⟨[.ref a],[]⟩) (fun r s'=>r = .ok (.ret (.bool true))∧OldK s₁.heap s'.heap∧s'.os = s₁.os∧AllBare s'.gens) s₁) :
  WalkO q loose XP YP l.row.toRowW d [] (fun f vs=>PySem.call f vs):=by
 intro w s₀ s₁ mg mb G Y fa o pm cd doc dV kV ho hd hcd hD hmg hg args vals as hpre hlay hrd hwl hlo
 obtain rfl:dV = .none:=Dflts.none hD hdf
 obtain rfl:kV = .none:=Dflts.noKw hD
 obtain ⟨a,vs,ns,rfl,rfl,hobj,hints,hlen⟩:=x0i hn hpre hwl
 refine enter_call (codeAny_mono (call w s₀ s₁ mg mb fa o pm cd doc a vs ns G Y ho (fd_plain hd) hcd hmg hobj hints hlen hg) fun r s' hq=>?_)
 obtain ⟨rfl,h2,h3,h4⟩:=hq
 exact ⟨.inl ⟨.bool true,.bool true,[],rfl,fun _=>rfl,.bool true,x0x l _,fun _=>⟨List.Pairwise.nil,fun _ hm=>(nomatch hm)⟩⟩,h2,h3,h4⟩
end Att
namespace L2
open PySem PySem.Spec PyProof.Rows
theorem o0o:∀ {vs:List Value} {ns:List Int},IntsAre vs ns→Vals (ns.map V.int) vs
 | _,_,.nil=>.nil
 | _,_,.cons n t h=>.cons ⟨t,rfl⟩ (o0o h)
def Only (H:Hp):Prop:=∀ b,H b = none ∨ ∃ o xs,H b = some (.frz o (.lst xs))
theorem b1t {P:Program} {w:World} {K:PySem.W.Frag} {mg mb:Str→Option Value} {CX:CXT} {k:Nat} {fa a:Addr} {fd:FuncData} {x:Str} {sp:Sp} {s₁:Shared} {vs:List Value} {ns:List Int}
  (KX:K.In s₁.heap) (hns:s₁.heap.Ns mainGlobals mg) (hb:s₁.heap.Ns builtinsNs mb) (hbb:∀ x:Str,x ≠ "__name__" → mb x = bootBuiltins x) (hlim:s₁.heap.NoLimit) (hg:s₁.gens = #[])
  (ha:s₁.heap.get? a = some { cls:=.type "list",data:=.seq vs.toArray }) (hi:IntsAre vs ns) (hl:ns.length ≤ sizeLine) (hr:Room k callerA)
  (F:∀ base:Heap,K.In base→base.Ns mainGlobals mg→FnOk P w K mg base CX k fa fd [x] sp) (hbind:∀ (s:Shared) (u:Value),BindsTo s fd ⟨[u],[]⟩ [(x,u)])
  (hsp:∀ H:Hp,Only H→SqL K H a (ns.map V.int)→sp [.ref a] H (fun v _=>v = .bl true) fun _ _ _=>False)
  (hCX:∀ H e s',CX [] H s₁ (fun _ _ _=>False) e s'→False) :
  codeAny (model P w) callerA (.call (.ref fa) ⟨[.ref a],[]⟩) (fun r s'=>r = .ok (.ret (.bool true))∧OldK s₁.heap s'.heap∧s'.os = s₁.os∧AllBare s'.gens) s₁:=by
 have rv:=o0o hi
 have lenV:=hi.length
 have core:∀ H:Hp,Only H→SqL K H a (ns.map V.int)→HOk P w H s₁.heap→(∀ b,H b ≠ none→b = a)→(H a ≠ none→K.lookup a = none) →
   codeAny (model P w) callerA (.call (.ref fa) ⟨[.ref a],[]⟩) (fun r s'=>r = .ok (.ret (.bool true))∧OldK s₁.heap s'.heap∧s'.os = s₁.os∧AllBare s'.gens) s₁:=by
  intro H hO hS hok hA hK
  have base_of:∀ {b:Addr} {o:Obj},s₁.heap.get? b = some o→H b = none→(hidT s₁.heap H).get? b = some o:=fun e n=>c1b e n
  have noA:∀ {b:Addr} {o:Obj} {es:Array DictEntry} {ep:Nat},s₁.heap.get? b = some o→o.data = .dict es ep→H b = none:=fun {b o es ep} e d=>by
   cases q:H b with
   | none=>rfl
   | some u =>
    have e':b = a:=hA b (by rw [q]; simp)
    subst e'
    rw [ha] at e; cases e
    have d':Data.seq vs.toArray _ = Data.dict es ep:=d
    cases d'
  have nsK:∀ {b:Addr} {m:Str→Option Value},s₁.heap.Ns b m→(hidT s₁.heap H).Ns b m:=fun {b m} ⟨o,es,ep,e,d,r⟩=>⟨o,es,ep,base_of e (noA e d),d,r⟩
  have hKb:K.In (hidT s₁.heap H):=fun b o e=>base_of (KX b o e) (by
   cases q:H b with
   | none=>rfl
   | some u =>
    have e':b = a:=hA b (by rw [q]; simp)
    subst e'
    rw [hK (by rw [q]; simp)] at e; cases e)
  have hM:Mod K mg (hidT s₁.heap H):=⟨hKb,nsK hns,⟨mb,nsK hb,hbb⟩,let ⟨mc,h1,h2⟩:=hlim; ⟨mc,nsK h1,h2⟩⟩
  have e0:Env0 P w K mg (hidT s₁.heap H) callerA [] s₁ H:=⟨rfl,hM,fun b o e=>f1k e,Nat.le_of_eq (z0d _ _),trivial,fun b hb=>absurd (show b ∈ ([]:List Addr) from hb) (by simp),hok,.of_eq hg⟩
  refine codeAny_mono ((F _ hKb (nsK hns)).run callerA [] s₁ H ⟨[.ref a],[]⟩ [.ref a] [.ref a] _ _ hr e0 (hbind s₁ (.ref a)) (.cons rfl .nil) (hsp H hO hS)) fun r s' h=>?_
  cases r with
  | error e=>exact (hCX H e s' h).elim
  | ok fl =>
   cases fl with
   | next=>exact False.elim h
   | brk=>exact False.elim h
   | cont=>exact False.elim h
   | ret u =>
    obtain ⟨v,H',os,bare,un,hok',r',q⟩:=h
    have q':v = .bl true:=q
    subst q'
    obtain rfl:u = Value.bool true:=r'
    refine ⟨rfl,OldK.of_keep fun b o e=>?_,os,bare⟩
    cases q:H b with
    | none=>exact un.keep b o e q (by intro z; exact absurd (show b ∈ ([]:List Addr) from z) (by simp)) (by simp)
    | some u =>
     rcases hO b with z | ⟨ob,xs,z⟩
     ·rw [q] at z; cases z
     ·have z2:=un.frzs b ob _ z
      obtain ⟨e1,_⟩:=hok b _ z
      obtain ⟨e2,_⟩:=hok' b _ z2
      rw [e] at e1; cases e1
      exact e2
 cases hk:K.lookup a with
 | some o =>
  have e:=KX a o hk
  rw [ha] at e
  cases e
  refine core (fun _=>none) (fun _=>.inl rfl) (.inr ⟨_,vs.toArray,_,hk,rfl,rfl,rfl,by rw [List.size_toArray,lenV]; exact hl,by simpa using rv⟩) (fun b u z=>by have z':(none:Option HO) = some u:=z; cases z') (fun b z=>absurd rfl z) fun z=>absurd rfl z
 | none =>
  refine core (fun b=>if b = a then some (.frz { cls:=.type "list",data:=.seq vs.toArray } (.lst (ns.map V.int))) else none) (fun b=>?_) (.inl (.inr ⟨{ cls:=.type "list",data:=.seq vs.toArray },if_pos rfl⟩)) (fun b u z=>?_) (fun b z=>?_) fun _=>hk
  ·by_cases hb:b = a
   ·exact .inr ⟨_,_,if_pos hb⟩
   ·exact .inl (if_neg hb)
  ·by_cases hb:b = a
   ·have z':=(if_pos hb).symm.trans z
    cases z'
    subst hb
    exact ⟨ha,by rw [List.length_map]; exact hl,vs,_,rv,ha⟩
   ·have z':=(if_neg hb).symm.trans z
    cases z'
  ·by_cases hb:b = a
   ·exact hb
   ·exact absurd (if_neg hb) z
abbrev KOf {K:PySem.W.Frag} {h:Heap} (_:K.In h):PySem.W.Frag:=K
theorem e1d {l:PySem.W.OpenLaw} {n k:Nat} {q:Program} {loose:List Str} {XP:(Str→Option Value)→Heap→Prop} {YP:World→Heap→Prop} {d:DefRec} {K:Params→PySem.W.Frag} {CX:World→CXT} {sp:World→Sp} {x:Str}
  (hn:l.most = some n) (hn2:n ≤ sizeLine) (hdf:d.params.defaults = []) (hr:Room k callerA)
  (hY:∀ (w:World) (h:Heap),YP w h→(K w.params).In h)
  (F:∀ (w:World) (mg:Str→Option Value) (fa:Addr) (h:Heap),(K w.params).In h→h.Ns mainGlobals mg→mg d.name = some (.ref fa) →
   ∃ fd:FuncData,(∀ (s:Shared) (u:Value),BindsTo s fd ⟨[u],[]⟩ [(x,u)]) ∧
    ∀ base:Heap,(K w.params).In base→base.Ns mainGlobals mg→FnOk l.prog w (K w.params) mg base (CX w) k fa fd [x] (sp w))
  (hsp:∀ (w:World) (H:Hp) (a:Addr) (ns:List Int),ns.length ≤ n→Only H→SqL (K w.params) H a (ns.map V.int)→sp w [.ref a] H (fun v _=>v = .bl true) fun _ _ _=>False)
  (hCX:∀ (w:World) (H:Hp) (s:Shared) (e:Value) (s':Shared),CX w [] H s (fun _ _ _=>False) e s'→False) :
  PySem.W.WalkO q loose XP YP l.row.toRowW d [] (fun f vs=>PySem.call f vs):=by
 refine Att.attach_call hn hdf fun w s₀ s₁ mg mb fa o pm cd doc a vs ns G Y ho hd hcd hmg hobj hints hlen hg=>?_
 have KX:=hY w _ Y
 obtain ⟨fd,hb,hF⟩:=F w mg fa _ KX G.T.g hmg
 exact b1t KX G.T.g G.T.b G.T.builtins G.T.nolimit hg hobj hints (Nat.le_trans hlen hn2) hr hF hb (fun H hO hS=>hsp w H a ns hlen hO hS) fun H e s'=>hCX w H s₁ e s'
theorem a1o {l:PySem.W.OpenLaw} {n k:Nat} {q:Program} {loose:List Str} {XP:(Str→Option Value)→Heap→Prop} {YP:World→Heap→Prop} {d:DefRec} {K:Params→PySem.W.Frag} {CX:CXT} {sp:PySem.W.Frag→Sp} {x:Str}
  (hn:l.most = some n) (hn2:n ≤ sizeLine) (hdf:d.params.defaults = []) (hr:Room k callerA)
  (hY:∀ (w:World) (h:Heap),YP w h→(K w.params).In h)
  (F:∀ (w:World) (mg:Str→Option Value) (fa:Addr) (h:Heap),(K w.params).In h→h.Ns mainGlobals mg→mg d.name = some (.ref fa) →
   ∃ fd:FuncData,(∀ (s:Shared) (u:Value),BindsTo s fd ⟨[u],[]⟩ [(x,u)]) ∧
    ∀ base:Heap,(K w.params).In base→base.Ns mainGlobals mg→FnOk l.prog w (K w.params) mg base CX k fa fd [x] (sp (K w.params)))
  (hsp:∀ (K:PySem.W.Frag) (H:Hp) (a:Addr) (ns:List Int),ns.length ≤ n→Only H→SqL K H a (ns.map V.int)→sp K [.ref a] H (fun v _=>v = .bl true) fun _ _ _=>False)
  (hCX:∀ (H:Hp) (s:Shared) (e:Value) (s':Shared),CX [] H s (fun _ _ _=>False) e s'→False) :
  PySem.W.WalkO q loose XP YP l.row.toRowW d [] (fun f vs=>PySem.call f vs) :=
 e1d (K:=K) (CX:=fun _=>CX) (sp:=fun w=>sp (K w.params)) hn hn2 hdf hr hY F (fun w H a ns h1 h2 h3=>hsp (K w.params) H a ns h1 h2 h3) fun _ H s e s'=>hCX H s e s'
def f0v (s:Stmt):Arguments:=match s with
 | .FunctionDef _ a _ _ _ _ _ _ _ _=>a
 | _=>{ posonlyargs:=[],args:=[],vararg:=none,kwonlyargs:=[],kw_defaults:=[],kwarg:=none,defaults:=[] }
def d0k (s:Stmt):List Stmt:=match s with
 | .FunctionDef _ _ b _ _ _ _ _ _ _=>b
 | _=>[]
def a0j (s:Stmt):Scope:=match s with
 | .FunctionDef _ _ _ _ _ _ sc _ _ _=>sc
 | _=>{ kind:=.function,names:=[],isGenerator:=false,isCoroutine:=false }
abbrev CX0:CXT:=fun _ _ _ _ _ _=>False
abbrev E0:XK:=fun _ _ _=>False
theorem k1o {X:Cx}:q0u CX0 X E0:=fun _ _ _ _ _ _ _ h=>h.elim
structure Fun (K:PySem.W.Frag) (x qual:Str) (st:Stmt) (f:Addr) (fd:FuncData):Prop where
 ex:∃ (oc:Value) (od:Option Addr) (kV doc pm:Value) (an:Option Addr) (cdv ct:Value) (osl:Array (Option Value)),
  fd = PySem.W.fnOf x qual (f0v st) (d0k st) (a0j st) .none kV doc pm an cdv ct∧K.lookup f = some ⟨oc,od,.func fd,osl⟩∧PySem.W.codeIn K cdv qual = true
 kp:PySem.W.keepIn K (.ref f) = true
section
variable {P:Program} {w:World} {K:PySem.W.Frag} {mg:Str→Option Value} {base:Heap}
theorem Fun.ok {x qual:Str} {st:Stmt} {f:Addr} {fd:FuncData} {N ps:List Str} {k:Nat} {sp:Sp} (F:Fun K x qual st f fd) (S:b0i N ps (a0j st)) (len:∀ vs H Q E,sp vs H Q E→vs.length = ps.length)
  (hbody:∀ (cdv:Value) (A:Around) (outer:List Env) (s:Shared) (H:Hp) (vs:List V) (Q:VK) (E:XK),Room k (A.deeper (envOfC qual (a0j st) s.heap.objs.size f cdv))→sp vs H Q E →
   ∃ t,PSs (cxOf CX0 P w K mg base N qual (a0j st) f cdv A outer s H E).nox (d0k st) t∧t { nx:=fun _ H'=>Q .non H',rt:=Q } (k0h N vs) H):FnOk P w K mg base CX0 (k + 1) f fd ps sp:=by
 obtain ⟨oc,od,kV,doc,pm,an,cdv,ct,osl,rfl,lk,hcd⟩:=F.ex
 refine j1n lk hcd S len fun A outer s H vs Q E hr hsp=>?_
 obtain ⟨t,h,q⟩:=hbody cdv A outer s H vs Q E hr hsp
 exact ⟨t,h.nox,q⟩
theorem Fun.binds {x qual:Str} {st:Stmt} {f:Addr} {fd:FuncData} {ps:List Str} (F:Fun K x qual st f fd)
  (h:∀ (kV doc pm:Value) (an:Option Addr) (cdv ct:Value) (us:List Value),us.length = ps.length→bindArgs (PySem.W.fnOf x qual (f0v st) (d0k st) (a0j st) .none kV doc pm an cdv ct) ⟨us,[]⟩ = pure (ps.zip us)):o0m K fd ps []:=by
 obtain ⟨oc,od,kV,doc,pm,an,cdv,ct,osl,rfl,lk,hcd⟩:=F.ex
 exact .all (h kV doc pm an cdv ct)
theorem d1s {x qual:Str} {st:Stmt} {f:Addr} {oc:Value} {od an:Option Addr} {osl:Array (Option Value)} {kV doc pm cdv ct:Value} (l:K.lookup f = some ⟨oc,od,.func (PySem.W.fnOf x qual (f0v st) (d0k st) (a0j st) .none kV doc pm an cdv ct),osl⟩)
  (c:PySem.W.codeIn K cdv qual = true) (k:PySem.W.keepIn K (.ref f) = true):Fun K x qual st f (PySem.W.fnOf x qual (f0v st) (d0k st) (a0j st) .none kV doc pm an cdv ct):=⟨⟨oc,od,kV,doc,pm,an,cdv,ct,osl,rfl,l,c⟩,k⟩
end
theorem d0l {A:Around} {k:Nat} (hr:Room k A):A.units + 1 < cLine:=Nat.lt_of_le_of_lt (Nat.add_le_add_left (by decide:1 ≤ 64) _) hr.units
theorem h0v {n:Nat} (h:n ≤ 1000):n < sizeLine:=Nat.lt_of_le_of_lt h (by decide)
section
variable {X:Cx}
theorem pv (i:Nat) {x:Str} {pos:Pos} (hN:X.N[i]? = some x:=by rfl) (hv:Vis X.env.scope x:=by first | exact Or.inl rfl | exact Or.inr (Or.inl rfl) | exact Or.inr (Or.inr rfl)) (hd:(x == ("__debug__" : Str)) = false:=by decide)
  (hcd:(x == ("__classdict__" : Str)) = false:=by decide):PE X (.Name x pos) (tVar i):=i1j hN hv hd hcd
end
theorem ite2 {c A B:Prop} [Decidable c] (h1:c→A) (h2:¬ c→B):if c then A else B:=by
 by_cases h:c
 ·rw [if_pos h]
  exact h1 h
 ·rw [if_neg h]
  exact h2 h
def Same (H H':Hp):Prop:=∀ b o,H b = some o→H' b = some o
theorem Same.refl (H:Hp):Same H H:=fun _ _ h=>h
theorem Same.trans {H H1 H2:Hp} (a:Same H H1) (b:Same H1 H2):Same H H2:=fun c o h=>b c o (a c o h)
theorem Same.free {H H':Hp} (e:Same H H') {l:Addr} (h:H' l = Option.none):H l = Option.none:=by
 cases q:H l with
 | none=>rfl
 | some o =>
  rw [e l o q] at h
  cases h
theorem Same.seq {K:PySem.W.Frag} {H H':Hp} {a:Addr} {xs:List V} (e:Same H H') (h:SqL K H a xs):SqL K H' a xs:=by
 rcases h with (h | ⟨o,h⟩) | h
 ·exact .inl (.inl (e _ _ h))
 ·exact .inl (.inr ⟨o,e _ _ h⟩)
 ·exact .inr h
def g0s (cells:List (Str × Addr)):List (Str × NameKind)→List (Str × Addr)→List (Str × Addr)
 | [],cs=>cs
 | (n,k) :: r,cs=>g0s cells r (if k == .free then (match cells.lookup n with | some c=>(n,c) :: cs | none=>cs) else cs)
def e0x (scope:Scope) (env:Env):List (Str × Addr):=g0s env.cells scope.names []
theorem v0v (env:Env):∀ (names:List (Str × NameKind)) (cs:List (Str × Addr)),(∀ x ∈ names,x.2 = .free→∃ c,env.cells.lookup x.1 = some c) →
  (forIn names cs fun (x:Str × NameKind) (r:List (Str × Addr))=>(if (x.2 == .free) = true then (do let a ← cellOf env x.1; pure (ForInStep.yield ((x.1,a) :: r))) else pure (ForInStep.yield r):Sem (ForInStep (List (Str × Addr))))) = pure (g0s env.cells names cs):=by
 intro names
 induction names with
 | nil=>intro cs _; rfl
 | cons x r ih =>
  intro cs h
  obtain ⟨n,k⟩:=x
  rw [List.forIn_cons]
  have hr:∀ y ∈ r,y.2 = .free→∃ c,env.cells.lookup y.1 = some c:=fun y hy=>h y (List.mem_cons_of_mem _ hy)
  unfold g0s
  by_cases hk:k = .free
  ·subst hk
   obtain ⟨c,hc⟩:=h (n,.free) List.mem_cons_self rfl
   have e:cellOf env n = pure c:=by unfold cellOf; rw [hc]
   rw [if_pos (show (NameKind.free == NameKind.free) = true from rfl),if_pos (show (NameKind.free == NameKind.free) = true from rfl),hc]
   show (cellOf env n >>= fun a=>_) >>= _ = _
   rw [e]
   exact ih _ hr
  ·have hb:(k == NameKind.free) = false:=by simpa using hk
   rw [if_neg (show ¬ (k == NameKind.free) = true by rw [hb]; exact Bool.false_ne_true),if_neg (show ¬ (k == NameKind.free) = true by rw [hb]; exact Bool.false_ne_true)]
   exact ih _ hr
theorem f0w {scope:Scope} {env:Env} (h:∀ x ∈ scope.names,x.2 = .free→∃ c,env.cells.lookup x.1 = some c):closureFor scope env = pure (e0x scope env):=by
 have run:=v0v env scope.names [] h
 unfold closureFor e0x
 have e:(forIn scope.names ([]:List (Str × Addr)) fun (x:Str × NameKind) (r:List (Str × Addr))=>(match x with
   | (name,kind)=>if (kind == NameKind.free) = true then (do let a ← cellOf env name; pure (ForInStep.yield ((name,a) :: r))) else pure (ForInStep.yield r):Sem (ForInStep (List (Str × Addr))))) = pure (g0s env.cells scope.names []):=run
 show (forIn scope.names ([]:List (Str × Addr)) _ >>= fun cs=>pure cs) = _
 exact (congrArg (fun m:Sem (List (Str × Addr))=>m >>= fun cs=>pure cs) e)
theorem m0y (cells:List (Str × Addr)):∀ (names:List (Str × NameKind)) (cs:List (Str × Addr)),(∀ p ∈ cs,cells.lookup p.1 = some p.2)→∀ p ∈ g0s cells names cs,cells.lookup p.1 = some p.2
 | [],cs,h=>h
 | (n,k) :: r,cs,h=>by
  unfold g0s
  refine m0y cells r _ fun p hp=>?_
  by_cases hk:(k == NameKind.free) = true
  ·rw [if_pos hk] at hp
   cases e:cells.lookup n with
   | none=>rw [e] at hp; exact h p hp
   | some c =>
    rw [e] at hp
    rcases List.mem_cons.mp hp with rfl | hp
    ·exact e
    ·exact h p hp
  ·rw [if_neg hk] at hp
   exact h p hp
theorem e0k {scope:Scope} {env:Env} {x:Str} {c:Addr} (h:(e0x scope env).lookup x = some c):env.cells.lookup x = some c :=
 m0y env.cells scope.names [] (fun _ z=>nomatch z) (x,c) (PySem.mem_of_lookup h)
theorem h0b {cs:List (Str × Addr)} {x:Str} {c:Addr} (h:(x,c) ∈ cs):∃ d,cs.lookup x = some d:=by
 induction cs with
 | nil=>cases h
 | cons p r ih =>
  obtain ⟨y,d⟩:=p
  by_cases e:x == y
  ·exact ⟨d,by rw [List.lookup_cons,e]⟩
  ·rcases List.mem_cons.mp h with z | z
   ·cases z; simp at e
   ·obtain ⟨d',q⟩:=ih z
    exact ⟨d',by simp only [Bool.not_eq_true] at e; rw [List.lookup_cons,e]; exact q⟩
theorem l0q (cells:List (Str × Addr)):∀ (names:List (Str × NameKind)) (cs:List (Str × Addr)) (p:Str × Addr),p ∈ cs→p ∈ g0s cells names cs
 | [],_,_,h=>h
 | (n,k) :: r,cs,p,h=>by
  unfold g0s
  refine l0q cells r _ p ?_
  split
  ·split
   ·exact List.mem_cons_of_mem _ h
   ·exact h
  ·exact h
theorem m0z (cells:List (Str × Addr)) {x:Str} {c:Addr} (hc:cells.lookup x = some c):∀ (names:List (Str × NameKind)) (cs:List (Str × Addr)),(x,NameKind.free) ∈ names→(x,c) ∈ g0s cells names cs
 | [],_,h=>nomatch h
 | (n,k) :: r,cs,h=>by
  unfold g0s
  rcases List.mem_cons.mp h with z | z
  ·cases z
   refine l0q cells r _ _ ?_
   rw [if_pos (show (NameKind.free == NameKind.free) = true from rfl),hc]
   exact List.mem_cons_self
  ·exact m0z cells hc r _ z
theorem m0x {scope:Scope} {env:Env} {x:Str} {c:Addr} (h:(x,NameKind.free) ∈ scope.names) (hc:env.cells.lookup x = some c):(e0x scope env).lookup x = some c:=by
 obtain ⟨d,e⟩:=h0b (m0z env.cells hc scope.names [] h)
 have e':(e0x scope env).lookup x = some d:=e
 rw [e',← e0k e',hc]
def blk (X:Cx) (scope:Scope) (N:List Str) (s:Shared) (H:Hp) (C:Addr) (fp:List Addr):Cx where
 prog:=X.prog
 w:=X.w
 K:=X.K
 mg:=X.mg
 base:=X.base
 A:=X.A
 N:=N
 s₀:=s
 H₀:=H
 env:=compEnvC scope (e0x scope X.env) C X.env
 outer:=X.stack
 stack:=X.stack
 ex:=fp
 fn:=fun _=>false
 calm:=X.calm
 pn:=[]
 xe:=fun _ _=>False
def capt (σ:St) (js:List Nat):St:=js.map fun j=>(σ[j]?).getD none
def capN (N:List Str) (js:List Nat):List Str:=js.map fun j=>(N[j]?).getD ""
def bst (n:Nat) (σ:St) (js:List Nat):St:=List.replicate n none ++ capt σ js
theorem l0t {n:Nat} {σ:St} {js:List Nat}:(bst n σ js).length = n + js.length:=by unfold bst capt; simp
section
variable {P:Program} {w:World} {A:Around} {R:Result→Shared→Prop} {s:Shared}
theorem s0j {elt tg iter:Expr} {ifs:List Expr} {scope:Scope} {pos:Pos} {it acc:Value} {env:Env} (J:Nat→Shared→Prop)
  (turn:∀ n s,J n s→wpAny (model P w) A (pyNext it) (fun r s1=>match r with
   | none=>R (.ok .next) s1
   | some v=>wpAny (model P w) A (letOwnedTupleGo tg it v) (fun _ s2=>wpAny (model P w) A (assign tg env v) (fun _ s3 =>
     wpAny (model P w) A (forIn ifs true fun c r=>if r = true then do let ok ← isTrue c env (eval c env); pure (ForInStep.yield ok) else pure (ForInStep.yield r)) (fun ok s4 =>
      if ok = true then wpAny (model P w) A (eval elt env) (fun x s5=>wpAny (model P w) A (call (.builtin "list.append") [acc,x]) (fun _ s6=>∃ m,m < n∧J m s6) (fun _ _=>False) s5) (fun _ _=>False) s4
      else ∃ m,m < n∧J m s4) (fun _ _=>False) s3) (fun _ _=>False) s2) (fun _ _=>False) s1) (fun _ _=>False) s)
  (n:Nat) (h:J n s):codeAny (model P w) A (.compLoop (.ListComp elt [⟨tg,iter,ifs,0⟩] scope pos) 0 it acc env) R s:=by
 have no:∀ {α:Type} {t:Sem α} {Q Q':α→Shared→Prop} {E:Value→Shared→Prop} {s:Shared},wpAny (model P w) A t Q (fun _ _=>False) s→(∀ a s,Q a s→Q' a s)→wpAny (model P w) A t Q' E s :=
  fun h hq=>wpAny_mono h hq fun _ _ f=>f.elim
 refine codeAny_loop rfl J (fun n s hJ=>?_) n h
 show wpAny _ A ((compTurn (.ListComp elt [⟨tg,iter,ifs,0⟩] scope pos) 0 it acc env).onRaise (fun x=>do noteFrame x env; theTreesLotGoes x)) _ _ s
 refine wpAny_noted ?_
 rw [compTurn_list]
 refine wpAny_bind (wpAny_standAt (wpAny_bind (no (turn n s hJ) fun r s1 h1=>?_)))
 cases r with
 | none=>exact wpAny_pure h1
 | some v =>
  refine wpAny_bind (no h1 fun _ s2 h2=>wpAny_bind (no h2 fun _ s3 h3=>wpAny_bind (no h3 fun ok s4 h4=>?_)))
  cases ok with
  | false=>exact wpAny_pure ⟨rfl,h4⟩
  | true=>exact wpAny_bind (wpAny_bind (no h4 fun x s5 h5=>wpAny_bind (no h5 fun _ s6 h6=>wpAny_pure (wpAny_pure ⟨rfl,h6⟩))))
end
def PTs (X:Cx) (ifs:List Expr) (t:TT):Prop :=
 ∀ (pins:List (Addr × Obj)) (s:Shared) (σ:St) (H:Hp) (Q:Bool→Hp→Prop),Inv X pins σ H s→t σ H Q →
  wpAny (model X.prog X.w) X.A (forIn ifs true fun c r=>if r = true then do let ok ← isTrue c X.env (eval c X.env); pure (ForInStep.yield ok) else pure (ForInStep.yield r)) (TP X pins σ Q) X.xe s
def tAll:TT:=fun _ H Q=>Q true H
theorem i0q {X:Cx}:PTs X [] tAll:=fun _ _ _ H _ I h=>wpAny_tests_nil ⟨H,I,h⟩
theorem r0d {X:Cx} {c:Expr} {t:TT} (h:PT X c t):PTs X [c] t:=fun pins s σ H Q I hq=>wpAny_tests_one (h pins s σ H Q I hq)
def k1k (J:It) (n:Nat) (js:List Nat) (g:TG) (tc:TT) (te:TE) (Q:VK) (σ:St) (H1:Hp):Prop:=∃ W:Nat→Nat→List V→Hp→Prop,(∃ m,W 0 m [] H1)∧∀ i m ys H,W i m ys H →
 (J.stop i H∧ys.length ≤ sizeLine∧∀ l,H l = none→Q (.ref l) (upd H l (.lst ys))) ∨
 (J.go i H∧ys.length < sizeLine∧∃ N:List V→Hp→Prop,(∀ zs H',N zs H'→∃ m',m' < m∧W (i + 1) m' zs H')∧∀ x H',J.yld i H x H'→g x (bst n σ js) H' fun σ2 H2=>σ2.drop n = capt σ js∧tc σ2 H2 fun b H3 =>
  if b = true then te σ2 H3 fun v H4=>N (ys ++ [v]) H4 else N ys H3)
def w0y (n:Nat) (js:List Nat) (wi:TI) (g:TG) (tc:TT) (te:TE):TE:=fun σ H Q=>wi σ H fun J H1=>k1k J n js g tc te Q σ H1
section
variable {X:Cx}
structure Blk (X:Cx) (scope:Scope) (own:List Str) (js:List Nat):Prop where
 kind:scope.kind = .function
 nocell:∀ y ∈ scope.names,y.2 ≠ .cell
 names:∀ y ∈ scope.names,y.2 = .local→scope.names.lookup y.1 = some .local
 free:∀ y ∈ scope.names,y.2 = .free→X.env.kindOf y.1 = some .cell ∨ X.env.kindOf y.1 = some .free
 uniq:∀ x,(x,NameKind.free) ∈ scope.names→scope.names.lookup x = some .free
 nd:(own ++ capN X.N js).Nodup
 cap:∀ j ∈ js,j < X.N.length∧((X.N[j]?).getD "",NameKind.free) ∈ scope.names
def blkB (sc:Scope) (N:List Str) (scope:Scope) (own:List Str) (js:List Nat):Bool :=
 scope.kind == .function && scope.names.all (fun y=>y.2 != .cell) && scope.names.all (fun y=>y.2 != .local || scope.names.lookup y.1 == some .local) &&
 scope.names.all (fun y=>y.2 != .free || sc.names.lookup y.1 == some .cell || sc.names.lookup y.1 == some .free) && scope.names.all (fun y=>y.2 != .free || scope.names.lookup y.1 == some .free) &&
 decide (own ++ capN N js).Nodup && js.all (fun j=>decide (j < N.length) && scope.names.any fun y=>y.1 == (N[j]?).getD "" && y.2 == .free)
theorem Blk.of {scope:Scope} {own:List Str} {js:List Nat} (sc:Scope) (N:List Str) (h:blkB sc N scope own js = true:=by decide +kernel) (e1:X.env.scope = sc:=by rfl) (e2:X.N = N:=by rfl):Blk X scope own js:=by
 subst e1 e2
 unfold blkB at h
 simp only [Bool.and_eq_true,List.all_eq_true,decide_eq_true_eq,beq_iff_eq] at h
 obtain ⟨⟨⟨⟨⟨⟨h1,h2⟩,h3⟩,h4⟩,h5⟩,h6⟩,h7⟩:=h
 refine ⟨h1,fun y hy=>by simpa using h2 y hy,fun y hy e=>?_,fun y hy e=>?_,fun x hx=>?_,h6,fun j hj=>?_⟩
 ·have:=h3 y hy
  simpa [e] using this
 ·have:=h4 y hy
  simp only [e,bne_self_eq_false,Bool.false_or,Bool.or_eq_true,beq_iff_eq] at this
  exact this
 ·have:=h5 _ hx
  simpa using this
 ·obtain ⟨a,b⟩:=h7 j hj
  refine ⟨a,?_⟩
  obtain ⟨y,hy,e⟩:=List.any_eq_true.mp b
  simp only [Bool.and_eq_true,beq_iff_eq] at e
  obtain ⟨e1,e2⟩:=e
  rw [← e1,← e2]
  exact hy
theorem d0s {env:Env}:∀ {names:List (Str × NameKind)} {x:Str} {k:NameKind},
  (names.map fun (n,k)=>if (k == NameKind.free && env.scope.kind == .function && env.kindOf n == some .cell) then (n,NameKind.cell) else (n,k)).lookup x = some k→names.lookup x = some k ∨ (k = .cell∧names.lookup x = some .free)
 | [],_,_,h=>by simp at h
 | (n,q) :: r,x,k,h=>by
  have ih:=@d0s env r x k
  cases hx:x == n with
  | true =>
   by_cases hc:(q == NameKind.free && env.scope.kind == .function && env.kindOf n == some .cell) = true
   ·simp only [List.map_cons,if_pos hc,List.lookup_cons,hx] at h
    cases h
    simp only [Bool.and_eq_true,beq_iff_eq] at hc
    obtain ⟨⟨hq,_⟩,_⟩:=hc
    subst hq
    exact .inr ⟨rfl,by rw [List.lookup_cons,hx]⟩
   ·simp only [List.map_cons,if_neg hc,List.lookup_cons,hx] at h
    cases h
    exact .inl (by rw [List.lookup_cons,hx])
  | false =>
   have h':(r.map fun (n,k)=>if (k == NameKind.free && env.scope.kind == .function && env.kindOf n == some .cell) then (n,NameKind.cell) else (n,k)).lookup x = some k:=by
    by_cases hc:(q == NameKind.free && env.scope.kind == .function && env.kindOf n == some .cell) = true
    ·simp only [List.map_cons,if_pos hc,List.lookup_cons,hx] at h
     exact h
    ·simp only [List.map_cons,if_neg hc,List.lookup_cons,hx] at h
     exact h
   rcases ih h' with z | ⟨z,z'⟩
   ·exact .inl (by rw [List.lookup_cons,hx]; exact z)
   ·exact .inr ⟨z,by rw [List.lookup_cons,hx]; exact z'⟩
theorem a1e {scope:Scope} {own:List Str} {js:List Nat} {pins:List (Addr × Obj)} {σ:St} {H:Hp} {s:Shared} {fp:List Addr} {C:Addr} {h1:Heap} {tk:Nat} (B:Blk X scope own js) (I:Inv X pins σ H s)
  (hfp:∀ b ∈ fp,FpOk X pins H b) (hfo:∀ b ∈ fp,∃ o,s.heap.get? b = some o) (hC:s.heap.objs.size ≤ C) (hns:h1.Ns C fun _=>none) (hk:∀ b o,s.heap.get? b = some o→h1.get? b = some o) :
  Inv (blk X scope (own ++ capN X.N js) s H C fp) [] (bst own.length σ js) H { s with heap:=h1,toks:=tk }:=by
 have kindC:∀ x,(blk X scope (own ++ capN X.N js) s H C fp).env.kindOf x = some .cell ∨ (blk X scope (own ++ capN X.N js) s H C fp).env.kindOf x = some .free→(x,NameKind.free) ∈ scope.names:=fun x hx=>by
  have hx':(relabel scope X.env).names.lookup x = some .cell ∨ (relabel scope X.env).names.lookup x = some .free:=hx
  rcases hx' with z | z
  ·rcases d0s z with q | ⟨_,q⟩
   ·exact absurd rfl (B.nocell _ (PySem.mem_of_lookup q))
   ·exact PySem.mem_of_lookup q
  ·rcases d0s z with q | ⟨_,q⟩
   ·exact PySem.mem_of_lookup q
   ·exact PySem.mem_of_lookup q
 have has:∀ x,(x,NameKind.free) ∈ scope.names→∃ c,X.env.cells.lookup x = some c:=fun x hx=>I.ok.has x (B.free (x,.free) hx rfl)
 have old:∀ {x c},(e0x scope X.env).lookup x = some c→X.env.cells.lookup x = some c:=fun e=>e0k e
 have cellLt:∀ {x c},X.env.cells.lookup x = some c→c < s.heap.objs.size:=fun {x c} e=>by
  obtain ⟨v,o,ho,_⟩:=I.cell x c e
  exact Heap.lt_size ho
 have fpLt:∀ b ∈ fp,b < s.heap.objs.size:=fun b hb=>let ⟨_,e⟩:=hfo b hb; Heap.lt_size e
 have fsOk:∀ b ∈ frs X.stack,b ∈ X.env.locals :: X.fs:=I.stkSub
 refine ⟨⟨I.ok.mod,?_,I.ok.glob,I.ok.blt,hC,fun x y c e1 e2=>I.ok.inj x y c (old e1) (old e2),fun x hx=>?_,fun x c z _=>absurd z Bool.false_ne_true,I.ok.hd,I.ok.frames,.inl rfl,fun b hb=>⟨?_,fun x c e=>?_⟩,I.bs,Nat.le_trans I.ok.bsz I.sz,
   fun b o e hb=>?_,fun b hb hf=>?_,I.stack,I.stkFree⟩,rfl,I.bare,Un.kept hk,⟨_,hns,fun i x v e1 e2 e3=>?_⟩,fun x c e=>?_,?_,fun x c e=>I.freeC x c (old e),fun p hp=>absurd hp (by show p ∉ [] ++ []; simp),I.hok.kept hk,?_⟩
 ·show (relabel scope X.env).kind = .function
  exact B.kind
 ·obtain ⟨c,e⟩:=has x (kindC x hx)
  exact ⟨c,m0x (kindC x hx) e⟩
 ·exact Nat.ne_of_lt (Nat.lt_of_lt_of_le (fpLt b hb) hC)
 ·exact (hfp b hb).2.2.2.2.1 x c (old e)
 ·have e1:=I.bs b o e
  obtain ⟨f0,f1,f2,f3,f4,f5⟩:=hfp b hb
  rcases f3 with z | z
  ·exact I.ok.noex b o e z
  ·exact absurd (Nat.lt_of_lt_of_le (Heap.lt_size (I.ok.bs b o e).1) z) (Nat.lt_irrefl _)
 ·obtain ⟨f0,f1,f2,f3,f4,f5⟩:=hfp b hb
  rcases List.mem_cons.mp (fsOk b hf) with z | z
  ·exact f1 z
  ·exact f2 z
 ·-- a captured name's value
  have hi:own.length ≤ i:=by
   rcases Nat.lt_or_ge i own.length with z | z
   ·exfalso
    have e2':(List.replicate own.length (none:Option V) ++ capt σ js)[i]? = some (some v):=e2
    rw [List.getElem?_append_left (by simpa using z),List.getElem?_replicate] at e2'
    split at e2' <;> cases e2'
   ·exact z
  have e1':(own ++ capN X.N js)[i]? = some x:=e1
  have e2':(List.replicate own.length (none:Option V) ++ capt σ js)[i]? = some (some v):=e2
  rw [List.getElem?_append_right hi] at e1'
  rw [List.getElem?_append_right (by simpa using hi),List.length_replicate] at e2'
  unfold capN at e1'
  unfold capt at e2'
  rw [List.getElem?_map] at e1' e2'
  cases ej:js[i - own.length]? with
  | none=>rw [ej] at e1'; cases e1'
  | some j =>
   rw [ej] at e1' e2'
   have e1'':(X.N[j]?).getD "" = x:=Option.some.inj e1'
   have e2'':(σ[j]?).getD none = some v:=Option.some.inj e2'
   obtain ⟨hj,hm⟩:=B.cap j (List.mem_of_getElem? ej)
   have eN:X.N[j]? = some x:=by
    rw [List.getElem?_eq_getElem hj] at e1'' ⊢
    exact congrArg some e1''
   have eS:σ[j]? = some (some v):=by
    cases q:σ[j]? with
    | none=>rw [q] at e2''; cases e2''
    | some u=>rw [q] at e2''; exact congrArg some e2''
   rw [e1''] at hm
   obtain ⟨m,_,hl⟩:=I.loc
   have hv:Vis X.env.scope x:=by
    rcases B.free (x,.free) hm rfl with z | z
    ·exact .inr (.inl z)
    ·exact .inr (.inr z)
   obtain ⟨u,r,l⟩:=hl j x v eN eS hv
   obtain ⟨c,hc⟩:=has x hm
   refine ⟨u,r,.inr ⟨?_,c,m0x hm hc,?_⟩⟩
   ·rcases e3 with z | z | z
    ·exfalso
     have z':(relabel scope X.env).names.lookup x = some .local:=z
     rcases d0s z' with q | ⟨q,_⟩
     ·rw [B.uniq x hm] at q
      cases q
     ·cases q
    ·exact .inl z
    ·exact .inr z
   ·rcases l with ⟨k1,_⟩ | ⟨k2,c2,e2,ic⟩
    ·rcases B.free (x,.free) hm rfl with t | t <;> (rw [k1] at t; cases t)
    ·rw [hc] at e2; cases e2
     obtain ⟨o,ho,hd⟩:=ic
     exact ⟨o,hk c o ho,hd⟩
 ·obtain ⟨v,o,ho,hd⟩:=I.cell x c (old e)
  exact ⟨v,o,hk c o ho,hd⟩
 ·exact I.hok.fresh hC
 ·rw [l0t]
  show _ = (own ++ capN X.N js).length
  unfold capN
  simp
end
section
variable {X:Cx}
theorem Inv.young {pins:List (Addr × Obj)} {σ:St} {H:Hp} {s:Shared} {h':Heap} {c:Addr} (I:Inv X pins σ H s) (hs:Heap.SameBut c s.heap h') (hn:H c = none) (h1:X.s₀.heap.objs.size ≤ c) (hL:c ≠ X.env.locals)
  (h2:∀ x d,X.env.cells.lookup x = some d→d ≠ c) (h3:∀ p ∈ X.pn ++ pins,p.1 ≠ c):Inv X pins σ H { s with heap:=h' } :=
 I.turned (t':=s.toks) (fun b o hb e=>(hs.2 b hb).trans e) hn hL (.inr h1) h2 h3
theorem Inv.track {pins:List (Addr × Obj)} {σ:St} {H:Hp} {s:Shared} {D:Addr} {ys:List V} {its:List Value} {n:Nat} (I:Inv X pins σ H s) (hn:H D = none) (h1:X.s₀.heap.objs.size ≤ D) (hL:D ≠ X.env.locals)
  (h2:∀ x d,X.env.cells.lookup x = some d→d ≠ D) (h3:∀ p ∈ X.pn ++ pins,p.1 ≠ D) (hz:ys.length ≤ sizeLine) (r:Vals ys its) (e:s.heap.get? D = some { cls:=.type "list",data:=.seq its.toArray n }) :
  Inv X pins σ (upd H D (.lst ys)) s:=by
 have ne:∀ {b u},H b = some u→b ≠ D:=fun {b u} q=>b0c q hn
 refine ⟨I.ok,I.os,I.bare,⟨I.base.keep,I.base.slot,fun b o q z hx=>?_,I.base.there,fun b xs q=>?_,fun b o u q=>?_,fun b ps q=>?_⟩,I.loc,I.cell,?_,fun x c q=>?_,fun p hp=>?_,fun b o q=>?_,I.len⟩
 ·rw [a0l (Nat.ne_of_lt (Nat.lt_of_lt_of_le (Heap.lt_size q) h1))]
  exact I.base.free b o q z hx
 ·have q':=I.base.tups b xs q
  rw [a0l (ne q')]; exact q'
 ·have q':=I.base.frzs b o u q
  rw [a0l (ne q')]; exact q'
 ·obtain ⟨more,q'⟩:=I.base.tbls b ps q
  exact ⟨more,by rw [a0l (ne q')]; exact q'⟩
 ·rw [a0l (Ne.symm hL)]; exact I.free
 ·rw [a0l (h2 x c q)]; exact I.freeC x c q
 ·obtain ⟨a1,a2,a3⟩:=I.pin p hp
  exact ⟨a1,by rw [a0l (h3 p hp)]; exact a2,a3⟩
 ·by_cases hb:b = D
  ·subst hb
   rw [a0v] at q
   cases q
   exact ⟨hz,its,n,r,e⟩
  ·rw [a0l hb] at q
   refine (I.hok b o q).stay (fun _ _ _ z=>z) (fun c z=>?_) fun c xs z=>?_
   ·rw [a0l (ne z)]; exact z
   ·rw [a0l (ne z)]; exact z
def e1b (X:Cx) (pins:List (Addr × Obj)) (σ:St) (Q:VK) (C:Addr) (acc:Value) (s':Shared):Prop :=
 ∃ (D:Addr) (H:Hp) (m:Str→Option Value),acc = .ref D∧s'.heap.Ns C m∧Inv X pins σ H s'∧H C = none∧X.s₀.heap.objs.size ≤ C∧C ≠ X.env.locals∧(∀ x d,X.env.cells.lookup x = some d→d ≠ C)∧(∀ p ∈ X.pn ++ pins,p.1 ≠ C)∧Q (.ref D) H
theorem m0w {elt tg iter:Expr} {ifs:List Expr} {scope:Scope} {pos:Pos} {own:List Str} {js:List Nat} {g:TG} {tc:TT} {te:TE} {Q:VK} {pins:List (Addr × Obj)} {σ:St} {s2:Shared} {itv:Value} {E:Value→Shared→Prop}
  {RR:Value→Addr→Result→Shared→Prop} (hc:X.calm = true) (B:Blk X scope own js) (hg:∀ s H C fp,(own ++ capN X.N js).Nodup→PG (blk X scope (own ++ capN X.N js) s H C fp) tg g) (ht:∀ s H C fp,PTs (blk X scope (own ++ capN X.N js) s H C fp) ifs tc)
  (he:∀ s H C fp,PE (blk X scope (own ++ capN X.N js) s H C fp) elt te)
  (h:PIE X pins σ tg (fun J H1=>k1k J own.length js g tc te Q σ H1) itv s2)
  (hR:∀ C acc s',e1b X pins σ Q C acc s'→RR acc C (.ok .next) s') :
  wpAny (model X.prog X.w) X.A (newList []) (fun acc s3=>wpAny (model X.prog X.w) X.A (newFunctionEnv scope X.env.globals (e0x scope X.env) [] X.env.qual none .none (some X.env)) (fun cenv s4 =>
   codeAny (model X.prog X.w) X.A (.compStart (.ListComp elt [⟨tg,iter,ifs,0⟩] scope pos) 0 itv acc { cenv with scope:=relabel scope X.env }) (RR acc cenv.locals) s4) E s3) E s2:=by
 obtain ⟨it,fp,tn,J,H2,rfl,I2,T,st2,f2,W,⟨m0,w0⟩,turn⟩:=h
 refine wpAny_newObj_type (wpAny_newFunctionEnv B.nocell (by intro y hy; simp at hy) (fun h1 hns1 hsb1=>?_) B.kind)
 generalize hPu:s2.heap.push { cls:=.type "list",dict:=none,data:=.seq ([]:List Value).toArray } = Pu at hns1 hsb1 ⊢
 dsimp only at hns1 hsb1 ⊢
 have hDC:Pu.objs.size = s2.heap.objs.size + 1:=by rw [← hPu,Heap.size_push]
 generalize hD:s2.heap.objs.size = D at hDC ⊢
 have gD:Pu.get? D = some { cls:=.type "list",dict:=none,data:=.seq ([]:List Value).toArray }:=by
  rw [← hPu,← hD]; exact Heap.get?_push_size _ rfl
 generalize hC:Pu.objs.size = C at hns1 hsb1 hDC ⊢
 have ltDC:D < C:=by rw [hDC]; exact Nat.lt_succ_self D
 have neDC:D ≠ C:=Nat.ne_of_lt ltDC
 have keep1:∀ b o,s2.heap.get? b = some o→h1.get? b = some o:=fun b o e=>by
  have hb:b < D:=by rw [← hD]; exact Heap.lt_size e
  have hb2:b ≠ C:=Nat.ne_of_lt (Nat.lt_trans hb ltDC)
  refine (hsb1.2 b hb2).trans (Heap.get?_push_of_some _ ?_)
  rw [← hPu]
  exact Heap.get?_push_of_some _ e
 have gD1:h1.get? D = some { cls:=.type "list",dict:=none,data:=.seq ([]:List Value).toArray }:=(hsb1.2 D neDC).trans (Heap.get?_push_of_some _ gD)
 have szD:s2.heap.objs.size ≤ D:=Nat.le_of_eq hD
 have szC:s2.heap.objs.size ≤ C:=Nat.le_trans szD (Nat.le_of_lt ltDC)
 have old:∀ {b:Addr},b < s2.heap.objs.size→b ≠ D∧b ≠ C:=fun hb=>⟨Nat.ne_of_lt (Nat.lt_of_lt_of_le hb szD),Nat.ne_of_lt (Nat.lt_of_lt_of_le hb szC)⟩
 have fpo:∀ b ∈ fp,∃ o,s2.heap.get? b = some o:=fun b hb=>let ⟨o,e,_⟩:=T.obj 0 _ st2 b hb; ⟨o,e⟩
 have fpD:∀ b ∈ fp,b ≠ D∧b ≠ C:=fun b hb=>by
  obtain ⟨o,e⟩:=fpo b hb
  exact old (Heap.lt_size e)
 have clD:∀ x d,X.env.cells.lookup x = some d→d ≠ D∧d ≠ C:=fun x d e=>by
  obtain ⟨v,o,ho,_⟩:=I2.cell x d e
  exact old (Heap.lt_size ho)
 have pinD:∀ p ∈ X.pn ++ pins,p.1 ≠ D∧p.1 ≠ C:=fun p hp=>by
  exact old (Heap.lt_size (I2.pin p hp).1)
 have locD:D ≠ X.env.locals∧C ≠ X.env.locals:=by
  exact ⟨(old I2.lt).1.symm,(old I2.lt).2.symm⟩
 let Y:=blk X scope (own ++ capN X.N js) s2 H2 C fp
 have IB:Inv Y [] (bst own.length σ js) H2 { s2 with heap:=h1,toks:=s2.toks + ([]:List (Str × Value)).length }:=a1e B I2 f2 fpo szC hns1 keep1
 have fpB:∀ {H':Hp} {pl:List (Addr × Obj)},(∀ b ∈ fp,H' b = none)→(∀ p ∈ pl,p.1 = D)→∀ b ∈ fp,FpOk Y pl H' b:=fun {H' pl} hn hp b hb=>by
  obtain ⟨f0,f1,f3,f4,f5,f6⟩:=f2 b hb
  refine ⟨hn b hb,(fpD b hb).2,fun z=>?_,.inl hb,fun x c e=>f5 x c (e0k e),fun p q=>?_⟩
  ·rcases List.mem_cons.mp (I2.stkSub b z) with z | z
   ·exact f1 z
   ·exact f3 z
  ·have q':p ∈ pl:=by simpa [Y,blk] using q
   rw [hp p q']
   exact (fpD b hb).1.symm
 have clB:∀ x d,Y.env.cells.lookup x = some d→d ≠ D:=fun x d e=>(clD x d (e0k e)).1
 have notFs:D ∉ Y.fs:=fun z=>by
  obtain ⟨_,o,ho,_⟩:=IB.ok.funs.mem z
  exact (old (Heap.lt_size (show s2.heap.get? D = some o from ho))).1 rfl
 have loop:∀ s3:Shared,s3 = { s2 with heap:=h1,toks:=s2.toks + ([]:List (Str × Value)).length } →
   codeAny (model X.prog X.w) X.A (.compLoop (.ListComp elt [⟨tg,iter,ifs,0⟩] scope pos) 0 (.ref it) (.ref D) (compEnvC scope (e0x scope X.env) C X.env)) (RR (.ref D) C) s3:=by
  rintro s3 rfl
  refine s0j (fun n s'=>∃ (i:Nat) (ys:List V) (its:List Value) (k:Nat) (H':Hp),Inv Y [] (bst own.length σ js) H' s'∧tn i s'.heap∧(∀ b ∈ fp,H' b = none)∧H' D = none∧Vals ys its ∧
   s'.heap.get? D = some { cls:=.type "list",data:=.seq its.toArray k }∧W i n ys H') ?_ m0 ⟨0,[],[],0,H2,IB,T.keep 0 _ _ st2 (fun b hb o e=>keep1 b o e),fun b hb=>(f2 b hb).1,I2.hok.fresh szD,.nil,gD1,w0⟩
  rintro n s3 ⟨i,ys,its,k,H3,I3,st3,fr3,hD3,r3,g3,w3⟩
  have I3p:Inv Y [(D,{ cls:=.type "list",data:=.seq its.toArray k })] (bst own.length σ js) H3 s3:=I3.pins_of fun p hp=>by
   have e:p = (D,{ cls:=.type "list",data:=.seq its.toArray k }):=by simpa using hp
   subst e
   exact ⟨g3,hD3,neDC,notFs,fun v z=>by cases z⟩
  have f3:∀ b ∈ fp,FpOk Y [(D,{ cls:=.type "list",data:=.seq its.toArray k })] H3 b:=fpB fr3 fun p hp=>by
   have e:p = (D,{ cls:=.type "list",data:=.seq its.toArray k }):=by simpa using hp
   rw [e]
  rcases turn i n ys H3 w3 with ⟨stop,hz,qn⟩ | ⟨go,hz,N,hN,step⟩
  ·refine thn (T.done Y rfl rfl rfl hc i _ s3 _ H3 (fun _ _=>False) I3p f3 st3 stop) fun r s4 ⟨hr,I4⟩=>?_
   subst hr
   refine hR C _ s4 ?_
   have g4:=(I4.pin (D,{ cls:=.type "list",data:=.seq its.toArray k }) (by simp [Y,blk])).1
   obtain ⟨m,hn4,_⟩:=id I4.loc
   have un:Un (frs X.stack) fp H2 H3 s2.heap s4.heap:=I4.base
   have I5:Inv X pins σ H3 s4:=I2.call' I4.os un I4.hok I4.bare fun b hb=>let ⟨_,b1,_,b3,b4,b5⟩:=f2 b hb; ⟨b3,b1,b4,b5⟩
   have I6:=I5.track (ys:=ys) (its:=its) (n:=k) hD3 (Nat.le_trans I2.sz szD) locD.1 (fun x d e=>(clD x d e).1) (fun p hp=>(pinD p hp).1) hz r3 g4
   refine ⟨D,_,m,rfl,hn4,I6,?_,Nat.le_trans I2.sz szC,locD.2,fun x d e=>(clD x d e).2,fun p hp=>(pinD p hp).2,qn D hD3⟩
   rw [a0l (Ne.symm neDC)]
   exact I4.free
  ·refine thn (T.item Y rfl rfl rfl hc i _ s3 _ H3 (fun _ _=>False) I3p f3 st3 go) fun r s4 ⟨u,hr,h4⟩=>?_
   subst hr
   refine thn h4 fun _ s5 ⟨x,H5,I5,r5,y5,st5,fr5⟩=>?_
   have f5:∀ b ∈ fp,FpOk Y [(D,{ cls:=.type "list",data:=.seq its.toArray k })] H5 b:=fun b hb=>⟨fr5 b hb,(f3 b hb).2⟩
   have I5':=I5.pinned f5 (T.obj _ _ st5)
   refine thn (hg s2 H2 C fp B.nd _ s5 _ H5 x u _ I5' r5 (step x H5 y5)) fun _ s6 ⟨σ6,H6,I6,d6,q6⟩=>?_
   refine thn (ht s2 H2 C fp _ s6 σ6 H6 _ I6 q6) fun ok s7 ⟨H7,I7,q7⟩=>?_
   have after:∀ {s8:Shared} {H8:Hp},Inv Y ([(D,{ cls:=.type "list",data:=.seq its.toArray k })] ++ g0h fp s5.heap) σ6 H8 s8 →
     s8.heap.get? D = some { cls:=.type "list",data:=.seq its.toArray k }∧H8 D = none∧tn (i + 1) s8.heap∧(∀ b ∈ fp,H8 b = none)∧Inv Y [] (bst own.length σ js) H8 s8:=fun {s8 H8} I8=>by
    have p8:=I8.pin (D,{ cls:=.type "list",data:=.seq its.toArray k }) (by simp [Y,blk])
    refine ⟨p8.1,p8.2.1,T.keep _ _ _ st5 fun b hb o e=>(I8.pin (b,o) (List.mem_append_right _ (List.mem_append_right _ (c0p hb e)))).1,fun b hb=>?_,?_⟩
    ·obtain ⟨o,e,_⟩:=T.obj _ _ st5 b hb
     exact (I8.pin (b,o) (List.mem_append_right _ (List.mem_append_right _ (c0p hb e)))).2.1
    ·refine (I8.pins_of (pins':=[]) fun p hp=>absurd hp (by simp [Y,blk])).weak ?_ fun j v e=>?_
     ·rw [I8.len,l0t]
      show _ = (own ++ capN X.N js).length
      unfold capN
      simp
     ·rcases Nat.lt_or_ge j own.length with z | z
      ·exfalso
       unfold bst at e
       rw [List.getElem?_append_left (by simpa using z),List.getElem?_replicate] at e
       split at e <;> cases e
      ·unfold bst at e
       rw [List.getElem?_append_right (by simpa using z),List.length_replicate,← d6,List.getElem?_drop] at e
       rw [← e]
       congr 1
       omega
   cases ok with
   | false =>
    rw [if_neg Bool.false_ne_true] at q7 ⊢
    obtain ⟨m',hm,w7⟩:=hN _ _ q7
    obtain ⟨a1,a2,a3,a4,a5⟩:=after I7
    exact ⟨m',hm,i + 1,ys,its,k,H7,a5,a3,a4,a2,r3,a1,w7⟩
   | true =>
    rw [if_pos rfl] at q7 ⊢
    refine thn (he s2 H2 C fp _ s7 σ6 H7 _ I7 q7) fun u8 s8 ⟨v8,H8,I8,r8,n8⟩=>?_
    obtain ⟨m',hm,w8⟩:=hN _ _ n8
    obtain ⟨a1,a2,a3,a4,a5⟩:=after I8
    have hsz:its.toArray.size < sizeLine:=by rw [List.size_toArray,← r3.length]; exact hz
    refine call_meets F.slot_list_append ⟨_,a1,rfl⟩ F.entry_list_append (F.args_list_append_2 _ _) (PySem.list_append D its.toArray k u8 (by omega)) ⟨a1,?_⟩
    have q9:=PySem.IsL.update a1 (fun xs=>xs.push u8)
    have sb:Heap.SameBut D s8.heap (s8.heap.update D (Obj.mapSeq fun xs=>xs.push u8)):=Heap.SameBut.update ..
    have I9:=a5.young sb a2 szD neDC clB (fun p hp=>absurd hp (by show p ∉ [] ++ []; simp))
    have fin:∃ k',(s8.heap.update D (Obj.mapSeq fun xs=>xs.push u8)).get? D = some { cls:=.type "list",data:=.seq (its ++ [u8]).toArray k' }:=⟨_,by
     rw [show (its ++ [u8]).toArray = its.toArray.push u8 by simp]
     exact q9⟩
    obtain ⟨k',fin⟩:=fin
    exact ⟨m',hm,i + 1,ys ++ [v8],its ++ [u8],k',H8,I9,T.keep _ _ _ a3 (fun b hb o e=>(sb.2 b (fpD b hb).1).trans e),a4,a2,r3.append (.cons r8 .nil),fin,w8⟩
 exact codeAny_compStart_list (loop _ rfl) (T.self _ 0 _ _ _ (T.keep 0 _ _ st2 fun b hb o e=>keep1 b o e) (loop _ rfl))
theorem n0l {elt tg iter:Expr} {ifs:List Expr} {scope:Scope} {pos:Pos} (own:List Str) (js:List Nat) {wi:TI} {g:TG} {tc:TT} {te:TE} (hc:X.calm = true) (B:Blk X scope own js) (hi:PI X tg iter wi)
  (hg:∀ s H C fp,(own ++ capN X.N js).Nodup→PG (blk X scope (own ++ capN X.N js) s H C fp) tg g) (ht:∀ s H C fp,PTs (blk X scope (own ++ capN X.N js) s H C fp) ifs tc) (he:∀ s H C fp,PE (blk X scope (own ++ capN X.N js) s H C fp) elt te)
  (hs:∀ x,foldedSetIterable iter X.env x = pure x:=by intro _; rfl):PE X (.ListComp elt [⟨tg,iter,ifs,0⟩] scope pos) (w0y own.length js wi g tc te):=by
 intro pins s σ H Q I h
 have hcl:closureFor scope X.env = pure (e0x scope X.env):=f0w fun x hx hf=>I.ok.has x.1 (B.free x hx hf)
 rw [eval_ListComp]
 refine wpAny_comprehension_free (use:=none) rfl hs hcl B.kind B.names (thn (hi pins s σ H _ I h) fun v s1 h1=>thn h1 fun itv s2 h2=>?_)
 refine m0w (RR:=fun acc C=>compPost (model X.prog X.w) X.A X.xe none (EP X pins σ Q) acc C) hc B hg ht he h2 fun C acc s' hb=>?_
 obtain ⟨D,H',m,rfl,hn,I',c1,c2,c3,c4,c5,q⟩:=hb
 exact ⟨m,hn,fun h' hs'=>⟨.ref D,H',I'.young hs' c1 c2 c3 c4 c5,rfl,q⟩⟩
theorem r0e {elt tg iter:Expr} {ifs:List Expr} {scope:Scope} {pos pos' spos:Pos} {i:Nat} {x:Str} (own:List Str) (js:List Nat) {wi:TI} {g:TG} {tc:TT} {te:TE} (hN:X.N.Nodup) (hi:X.N[i]? = some x) (hx:Loc X.env.scope x)
  (hc:X.calm = true) (B:Blk X scope own js) (hit:PI X tg iter wi)
  (hg:∀ s H C fp,(own ++ capN X.N js).Nodup→PG (blk X scope (own ++ capN X.N js) s H C fp) tg g) (ht:∀ s H C fp,PTs (blk X scope (own ++ capN X.N js) s H C fp) ifs tc) (he:∀ s H C fp,PE (blk X scope (own ++ capN X.N js) s H C fp) elt te)
  (hf:X.fn x = true ∨ X.env.scope.names.lookup x = some .local:=by first | exact .inl rfl | exact .inr rfl | assumption)
  (hw:swapsWith (.ListComp elt [⟨tg,iter,ifs,0⟩] scope pos) (some (.Name x pos')) spos.line X.env = pure true:=by rfl)
  (hs:∀ x,foldedSetIterable iter X.env x = pure x:=by intro _; rfl) :
  PS X (.Assign [.Name x pos'] (.ListComp elt [⟨tg,iter,ifs,0⟩] scope pos) spos) (fun D σ H=>w0y own.length js wi g tc te σ H fun v H'=>D.nx (σ.set i (some v)) H'):=by
 intro pins s σ H D I h
 have hcl:closureFor scope X.env = pure (e0x scope X.env):=f0w fun x hx hf=>I.ok.has x.1 (B.free x hx hf)
 rw [exec_Assign_Name_used _ _ _ _ hw]
 refine wpAny_bind (wpAny_standAt (wpAny_bind ?_))
 show wpAny _ X.A (do let _ ← comprehension (.ListComp elt [⟨tg,iter,ifs,0⟩] scope pos) scope X.env _ (newList []) false (eval iter X.env) (some (assign (.Name x pos') X.env))) _ _ s
 refine wpAny_bind (thn (Q:=fun _ s'=>SP X pins D .next s') (wpAny_comprehension_free (use:=some (assign (.Name x pos') X.env)) rfl hs hcl B.kind B.names (thn (hit pins s σ H _ I h) fun v s1 h1=>thn h1 fun itv s2 h2=>?_)) fun _ s' q=>wpAny_pure (wpAny_pure q))
 refine m0w (Q:=fun v H'=>D.nx (σ.set i (some v)) H') (RR:=fun acc C=>compPost (model X.prog X.w) X.A X.xe (some (assign (.Name x pos') X.env)) (fun _ s'=>SP X pins D .next s') acc C) hc B hg ht he h2 fun C acc s' hb=>?_
 obtain ⟨l,H',m,rfl,hn,I',c1,c2,c3,c4,c5,q⟩:=hb
 show wpAny _ X.A (assign (.Name x pos') X.env (.ref l)) _ _ _
 refine wpAny_assign_Name (k0g (v:=.ref l) I' hN hi hx rfl (fun s3 I3 ⟨a,sb,ha⟩=>?_) hf)
 have ne:C ≠ a:=by
  rcases ha with z | z
  ·rw [z]; exact c3
  ·exact (c4 x a z).symm
 exact ⟨m,hn.sameBut sb ne,fun h' hs'=>⟨_,H',I3.young hs' c1 c2 c3 c4 c5,q⟩⟩
end
section
variable {X:Cx}
def Dv (j:Int):Prop:=0 < j∧j.natAbs.log2 < 9000
theorem Dv.small {j:Int} (h:0 < j) (h2:j < 1073741824):Dv j:=⟨h,by
 have e:j.natAbs ≠ 0:=by omega
 have:j.natAbs.log2 < 30:=(Nat.log2_lt e).mpr (by omega)
 omega⟩
theorem n0m:OpR X (binaryOp .FloorDiv) (rI (fun _ j=>Dv j) fun i j=>.int (i / j)):=opI fun i j _ _ _ _ _ hc q=>by
 rw [← Int.fdiv_eq_ediv_of_nonneg i (Int.le_of_lt hc.1)] at q
 exact floordiv_int (Int.ne_of_gt hc.1) q (.inl (PyProof.noPylong_of_log2 hc.2))
theorem r0t:MtR X "int.bit_length" (fun x xs H Q=>∃ i,x = .int i∧xs = []∧Q (.int (Builtin.Int.intBits i:Nat)) H):=by
 intro pins s σ H x xs v us Q I rx rv h
 obtain ⟨i,rfl,rfl,q⟩:=h
 obtain ⟨t,rfl⟩:=rx
 cases rv
 exact call_int_bit_length ⟨.int (Builtin.Int.intBits i:Nat),H,I.tok _,⟨_,rfl⟩,q⟩
def isaT (t T:String):Option Bool:=if (Value.type t == Value.type T) = true then some true else if PySem.W.kitMeta T = true then (fastBuiltinMro t).map (·.contains (.type T)) else none
theorem p0y:isaT "int" "int" = some true:=by decide +kernel
theorem n0v:isaT "int" "bool" = some false:=by decide +kernel
theorem n0w:isaT "bool" "int" = some true:=by decide +kernel
theorem m0f:isaT "bool" "bool" = some true:=by decide +kernel
theorem p0w:isaT "str" "int" = some false:=by decide +kernel
theorem p0x:isaT "NoneType" "int" = some false:=by decide +kernel
theorem n0u:isaT "list" "int" = some false:=by decide +kernel
theorem h0h:isaT "list" "list" = some true:=by decide +kernel
theorem m0e:isaT "tuple" "int" = some false:=by decide +kernel
theorem b1v {K:PySem.W.Frag} {t T:String}:PySem.W.kitOne K (.type t) (.type T) = isaT t T:=rfl
theorem b1i {x:Str} {T:String} {pos:Pos} (hg:Gl X x) (hm:X.mg x = none) (hv:bootBuiltins x = some (.type T)) (hn:x ≠ "__name__" := by decide) (hd:(x == ("__debug__" : Str)) = false:=by decide):PE X (.Name x pos) (tC (.ty T)) :=
 f1i hg hm hv rfl hn hd
structure OkN (P:Program) (w:World) (K:PySem.W.Frag) (mg:Str→Option Value) (base:Heap) (k:Nat) (x:Str) (ps:List Str) (sp:Sp):Prop where
 ex:∃ f fd,mg x = some (.ref f)∧PySem.W.keepIn K (.ref f) = true∧o0m K fd ps []∧(∃ oc od osl,K.lookup f = some ⟨oc,od,.func fd,osl⟩)∧FnOk P w K mg base CX0 k f fd ps sp
theorem b0y {k:Nat} {x:Str} {ps:List Str} {sp:Sp} {p pos:Pos} {e:Expr} {es:List Expr} {t:TA} (F:OkN X.prog X.w X.K X.mg X.base k x ps sp) (hr:Room k X.A) (ha:PA X (e :: es) t) (hg:Gl X x:=by rfl)
  (hdb:(x == ("__debug__" : Str)) = false:=by decide) (he:starEach (e :: es) X.env = (false,eval e X.env) :: starEach es X.env:=by rfl) (hpl:(backTo pos (starEach es X.env)).any (·.1) = false:=by rfl) :
  PE X (.Call (.Name x p) (e :: es) [] pos) (w0z sp [] E0 t):=by
 obtain ⟨f,fd,hm,hk,hb,lk,F⟩:=F.ex
 exact y0c F hr hg hm hk hb .nil k1o ha hdb he hpl
structure DefN (K:PySem.W.Frag) (mg:Str→Option Value) (x:Str) (st:Stmt) (ps:List Str):Prop where
 ex:∃ f fd,mg x = some (.ref f)∧Fun K x x st f fd∧∀ us:List Value,us.length = ps.length→bindArgs fd ⟨us,[]⟩ = pure (ps.zip us)
theorem DefN.ok {P:Program} {w:World} {K:PySem.W.Frag} {mg:Str→Option Value} {base:Heap} {x:Str} {st:Stmt} {N ps:List Str} {k:Nat} {sp:Sp} (D:DefN K mg x st ps) (S:b0i N ps (a0j st)) (len:∀ vs H Q E,sp vs H Q E→vs.length = ps.length)
  (hbody:∀ (f:Addr) (cdv:Value) (A:Around) (outer:List Env) (s:Shared) (H:Hp) (vs:List V) (Q:VK) (E:XK),Room k (A.deeper (envOfC x (a0j st) s.heap.objs.size f cdv))→sp vs H Q E →
   ∃ t,PSs (cxOf CX0 P w K mg base N x (a0j st) f cdv A outer s H E).nox (d0k st) t∧t { nx:=fun _ H'=>Q .non H',rt:=Q } (k0h N vs) H):OkN P w K mg base (k + 1) x ps sp:=by
 obtain ⟨f,fd,hm,F,hb⟩:=D.ex
 refine ⟨f,fd,hm,F.kp,.all hb,?_,F.ok S len fun cdv A outer s H vs Q E hr h=>hbody f cdv A outer s H vs Q E hr h⟩
 obtain ⟨oc,od,kV,doc,pm,an,cdv,ct,osl,_,lk,_⟩:=F.ex
 exact ⟨oc,od,osl,lk⟩
theorem OkN.mono {P:Program} {w:World} {K:PySem.W.Frag} {mg:Str→Option Value} {base:Heap} {x:Str} {ps:List Str} {j k:Nat} {sp:Sp} (F:OkN P w K mg base j x ps sp) (h:j ≤ k):OkN P w K mg base k x ps sp:=by
 obtain ⟨f,fd,hm,hk,hb,lk,F⟩:=F.ex
 exact ⟨f,fd,hm,hk,hb,lk,F.mono h⟩
theorem c0v {K:PySem.W.Frag} {mg:Str→Option Value} {h:Heap} {x:Str} {st:Stmt} {ps:List Str} {f:Addr} {oc:Value} {od an:Option Addr} {osl:Array (Option Value)} {kV doc pm cdv ct:Value} (KX:K.In h) (G:h.Ns mainGlobals mg)
  (a:PySem.W.nsIn K mainGlobals x = some (some (.ref f))) (l:K.lookup f = some ⟨oc,od,.func (PySem.W.fnOf x x (f0v st) (d0k st) (a0j st) .none kV doc pm an cdv ct),osl⟩)
  (c:PySem.W.codeIn K cdv x = true) (k:PySem.W.keepIn K (.ref f) = true)
  (hb:∀ (kV doc pm:Value) (an:Option Addr) (cdv ct:Value) (us:List Value),us.length = ps.length→bindArgs (PySem.W.fnOf x x (f0v st) (d0k st) (a0j st) .none kV doc pm an cdv ct) ⟨us,[]⟩ = pure (ps.zip us)):DefN K mg x st ps :=
 ⟨f,_,PySem.W.mg_of KX G a,d1s l c k,fun us hl=>hb kV doc pm an cdv ct us hl⟩
theorem f1s {P:Program} {w:World} {K:PySem.W.Frag} {mg:Str→Option Value} {x p:Str} {st:Stmt} {k:Nat} {fa:Addr} {sp:Sp} (D:DefN K mg x st [p]) (hfa:mg x = some (.ref fa))
  (F:∀ base:Heap,OkN P w K mg base k x [p] sp):∃ fd:FuncData,(∀ (s:Shared) (v:Value),BindsTo s fd ⟨[v],[]⟩ [(p,v)])∧∀ base:Heap,K.In base→base.Ns mainGlobals mg→FnOk P w K mg base CX0 k fa fd [p] sp:=by
 obtain ⟨f,fd,hm,F0,hb⟩:=D.ex
 obtain ⟨oc,od,kV,doc,pm,an,cdv,ct,osl,_,lk,_⟩:=F0.ex
 refine ⟨fd,fun s v=>.of_eq (hb [v] rfl),fun base _ _=>?_⟩
 obtain ⟨f',fd',hm',_,_,⟨oc',od',osl',lk'⟩,G⟩:=(F base).ex
 rw [hfa] at hm'
 cases hm'
 rw [hfa] at hm
 cases hm
 rw [lk] at lk'
 cases lk'
 exact G
end
structure BI (mg:Str→Option Value):Prop where
 len_:mg "len" = none
 range_:mg "range" = none
 isinstance_:mg "isinstance" = none
 int_:mg "int" = none
 bool_:mg "bool" = none
 list_:mg "list" = none
 tuple_:mg "tuple" = none
 str_:mg "str" = none
 sum_:mg "sum" = none
 all_:mg "all" = none
 max_:mg "max" = none
 min_:mg "min" = none
 sorted_:mg "sorted" = none
 set_:mg "set" = none
 zip_:mg "zip" = none
 enumerate_:mg "enumerate" = none
 reversed_:mg "reversed" = none
 dict_:mg "dict" = none
 any_:mg "any" = none
 abs_:mg "abs" = none
theorem k1y {K:PySem.W.Frag} {mg:Str→Option Value} {h:Heap} (KX:K.In h) (G:h.Ns mainGlobals mg)
  (len_:PySem.W.nsIn K mainGlobals "len" = some none) (range_:PySem.W.nsIn K mainGlobals "range" = some none) (isinstance_:PySem.W.nsIn K mainGlobals "isinstance" = some none) (int_:PySem.W.nsIn K mainGlobals "int" = some none) (bool_:PySem.W.nsIn K mainGlobals "bool" = some none) (list_:PySem.W.nsIn K mainGlobals "list" = some none) (tuple_:PySem.W.nsIn K mainGlobals "tuple" = some none) (str_:PySem.W.nsIn K mainGlobals "str" = some none) (sum_:PySem.W.nsIn K mainGlobals "sum" = some none) (all_:PySem.W.nsIn K mainGlobals "all" = some none) (max_:PySem.W.nsIn K mainGlobals "max" = some none) (min_:PySem.W.nsIn K mainGlobals "min" = some none) (sorted_:PySem.W.nsIn K mainGlobals "sorted" = some none) (set_:PySem.W.nsIn K mainGlobals "set" = some none) (zip_:PySem.W.nsIn K mainGlobals "zip" = some none) (enumerate_:PySem.W.nsIn K mainGlobals "enumerate" = some none) (reversed_:PySem.W.nsIn K mainGlobals "reversed" = some none) (dict_:PySem.W.nsIn K mainGlobals "dict" = some none) (any_:PySem.W.nsIn K mainGlobals "any" = some none) (abs_:PySem.W.nsIn K mainGlobals "abs" = some none):BI mg :=
 ⟨PySem.W.mg_none_of KX G len_,PySem.W.mg_none_of KX G range_,PySem.W.mg_none_of KX G isinstance_,PySem.W.mg_none_of KX G int_,PySem.W.mg_none_of KX G bool_,PySem.W.mg_none_of KX G list_,PySem.W.mg_none_of KX G tuple_,PySem.W.mg_none_of KX G str_,PySem.W.mg_none_of KX G sum_,PySem.W.mg_none_of KX G all_,PySem.W.mg_none_of KX G max_,PySem.W.mg_none_of KX G min_,PySem.W.mg_none_of KX G sorted_,PySem.W.mg_none_of KX G set_,PySem.W.mg_none_of KX G zip_,PySem.W.mg_none_of KX G enumerate_,PySem.W.mg_none_of KX G reversed_,PySem.W.mg_none_of KX G dict_,PySem.W.mg_none_of KX G any_,PySem.W.mg_none_of KX G abs_⟩
def Grow (t:Addr) (H H':Hp):Prop:=∀ b o,H b = some o→b ≠ t→H' b = some o
theorem Grow.refl {t:Addr} {H:Hp}:Grow t H H:=fun _ _ h _=>h
theorem Grow.trans {t:Addr} {H H1 H2:Hp} (a:Grow t H H1) (b:Grow t H1 H2):Grow t H H2:=fun c o h n=>b c o (a c o h n) n
theorem Grow.upd {t:Addr} {H H':Hp} (g:Grow t H H') (o:HO):Grow t H (L2.upd H' t o):=fun b u h n=>by rw [a0l n]; exact g b u h n
theorem Grow.new {t l:Addr} {H H':Hp} {o:HO} (g:Grow t H H') (h:H' l = none):Grow t H (L2.upd H' l o):=fun b u e n=>by
 have:=g b u e n
 rw [a0l (b0c this h)]; exact this
theorem Same.grow {t:Addr} {H H':Hp} (s:Same H H'):Grow t H H':=fun b o h _=>s b o h
theorem Same.new {H H':Hp} {l:Addr} {o:HO} (s:Same H H') (h:H' l = none):Same H (L2.upd H' l o):=fun b u e=>by
 have:=s b u e
 rw [a0l (b0c this h)]; exact this
theorem Same.seqT {K:PySem.W.Frag} {H H':Hp} {a:Addr} {xs:List V} (e:Same H H') (h:SqT K H a xs):SqT K H' a xs:=by
 rcases h with (h | ⟨o,h⟩) | h
 ·exact .inl (.inl (e _ _ h))
 ·exact .inl (.inr ⟨o,e _ _ h⟩)
 ·exact .inr h
theorem Grow.seq {K:PySem.W.Frag} {t:Addr} {H H':Hp} {a:Addr} {xs:List V} {kvs:List (Key × V)} (g:Grow t H H') (ht:H t = some (.dK kvs)) (h:SqL K H a xs):SqL K H' a xs:=by
 rcases h with (h | ⟨o,h⟩) | h
 ·exact .inl (.inl (g _ _ h (j0l h ht (by intro z; cases z))))
 ·exact .inl (.inr ⟨o,g _ _ h (j0l h ht (by intro z; cases z))⟩)
 ·exact .inr h
def c0r (c:Addr) (sp lf:Int):List (Key × V):=[(Sum.inr "cells",.ref c),(Sum.inr "spot",.int sp),(Sum.inr "left",.int lf)]
theorem g1k:¬ ((Sum.inr ("cells" : Str):Key) = Sum.inr ("spot" : Str)):=by decide +kernel
theorem g1l:¬ ((Sum.inr ("cells" : Str):Key) = Sum.inr ("left" : Str)):=by decide +kernel
theorem b1a:¬ ((Sum.inr ("spot" : Str):Key) = Sum.inr ("left" : Str)):=by decide +kernel
theorem m0j {c:Addr} {sp lf:Int}:valV (c0r c sp lf) (Sum.inr "cells" : Key) = some (.ref c):=by
 simp [valV,c0r]
theorem w0u {c:Addr} {sp lf:Int}:valV (c0r c sp lf) (Sum.inr "spot" : Key) = some (.int sp):=by
 simp only [valV,c0r,List.find?_cons,decide_eq_false g1k,decide_true,Option.map_some]
theorem w0w {c:Addr} {sp lf:Int}:valV (c0r c sp lf) (Sum.inr "left" : Key) = some (.int lf):=by
 simp only [valV,c0r,List.find?_cons,decide_eq_false g1l,decide_eq_false b1a,decide_true,Option.map_some]
theorem n0i {c:Addr} {sp lf x:Int}:putK (c0r c sp lf) (Sum.inr "left" : Key) (.int x) = c0r c sp x:=by
 unfold putK
 rw [if_pos (by simp [c0r])]
 simp only [c0r,List.map_cons,List.map_nil,if_neg g1l,if_neg b1a,if_pos]
theorem b1f {c:Addr} {sp lf x:Int}:putK (c0r c sp lf) (Sum.inr "spot" : Key) (.int x) = c0r c x lf:=by
 unfold putK
 rw [if_pos (by simp [c0r])]
 simp only [c0r,List.map_cons,List.map_nil,if_neg g1k,if_pos,if_neg (show ¬ ((Sum.inr ("left" : Str):Key) = Sum.inr ("spot" : Str)) from fun e=>b1a e.symm)]
theorem w0v {c:Addr}:k0z [] [((Sum.inr ("cells" : Str):Key),V.ref c),((Sum.inr ("spot" : Str):Key),V.int 0),((Sum.inr ("left" : Str):Key),V.int 0)] = c0r c 0 0:=by
 simp only [k0z,List.foldl_cons,List.foldl_nil]
 have e1:putK ([]:List (Key × V)) (Sum.inr ("cells" : Str)) (V.ref c) = [((Sum.inr ("cells" : Str):Key),V.ref c)]:=by simp [putK]
 have e2:putK [((Sum.inr ("cells" : Str):Key),V.ref c)] (Sum.inr ("spot" : Str)) (V.int 0) = [((Sum.inr ("cells" : Str):Key),V.ref c),((Sum.inr ("spot" : Str):Key),V.int 0)]:=by
  unfold putK
  rw [if_neg (by simp only [List.any_cons,List.any_nil,decide_eq_false g1k]; simp)]
  rfl
 have e3:putK [((Sum.inr ("cells" : Str):Key),V.ref c),((Sum.inr ("spot" : Str):Key),V.int 0)] (Sum.inr ("left" : Str)) (V.int 0) = c0r c 0 0:=by
  unfold putK
  rw [if_neg (by simp only [List.any_cons,List.any_nil,decide_eq_false g1l,decide_eq_false b1a]; simp)]
  rfl
 rw [e1,e2,e3]
def Tape (K:PySem.W.Frag) (H:Hp) (t:Addr) (n:Nat):Prop:=∃ (c:Addr) (ns:List Int) (sp lf:Int),H t = some (.dK (c0r c sp lf))∧SqL K H c (ns.map V.int)∧0 ≤ sp∧sp ≤ n∧0 ≤ lf
theorem Tape.more {K:PySem.W.Frag} {H:Hp} {t:Addr} {n m:Nat} (T:Tape K H t n) (h:n ≤ m):Tape K H t m:=by
 obtain ⟨c,ns,sp,lf,a,b,c1,c2,c3⟩:=T
 exact ⟨c,ns,sp,lf,a,b,c1,by omega,c3⟩
theorem Tape.dict {K:PySem.W.Frag} {H:Hp} {t:Addr} {n:Nat} (T:Tape K H t n):∃ kvs,H t = some (.dK kvs):=by
 obtain ⟨c,ns,sp,lf,a,_⟩:=T
 exact ⟨_,a⟩
theorem Tape.same {K:PySem.W.Frag} {H H':Hp} {t:Addr} {n:Nat} (T:Tape K H t n) (s:Same H H'):Tape K H' t n:=by
 obtain ⟨c,ns,sp,lf,a,b,r⟩:=T
 exact ⟨c,ns,sp,lf,s _ _ a,s.seq b,r⟩
theorem Tape.put {K:PySem.W.Frag} {H:Hp} {t c:Addr} {ns:List Int} {sp lf sp' lf':Int} {n:Nat} (a:H t = some (.dK (c0r c sp lf))) (b:SqL K H c (ns.map V.int)) (h1:0 ≤ sp') (h2:sp' ≤ n) (h3:0 ≤ lf'):Tape K (upd H t (.dK (c0r c sp' lf'))) t n :=
 ⟨c,ns,sp',lf',a0v,Grow.seq (Grow.refl.upd _) a b,h1,h2,h3⟩
theorem k1v {ns:List Int}:cutV (ns.map V.int) none (some 63) = (ns.take 63).map V.int:=by
 unfold cutV
 have e0:HT.sIx (ns.map V.int).length 0 none = 0:=rfl
 rw [e0,List.drop_zero,Nat.sub_zero,List.map_take]
 show List.take (HT.sIx _ _ (some ((63:Nat):Int))) _ = _
 rw [HT.sIx_nat]
 rcases Nat.le_total 63 (ns.map V.int).length with h | h
 ·rw [Nat.min_eq_left h]
 ·rw [Nat.min_eq_right h,List.take_of_length_le (Nat.le_refl _),List.take_of_length_le h]
end L2
namespace L2
theorem drawn {Q:Int→Hp→Prop} {m x:Int} {H':Hp} (hm:0 < m) (k:∀ r:Nat,(r:Int) < m→Q (r:Nat) H'):Q (x % m) H':=by
 obtain ⟨r,e⟩:=Int.eq_ofNat_of_zero_le (Int.emod_nonneg x (Int.ne_of_gt hm))
 have:=Int.emod_lt_of_pos x hm
 rw [e] at this ⊢
 exact k r this
theorem t0b {y:Int}:-(2 ^ 64) < y % 2147483647∧y % 2147483647 < 2 ^ 64:=by omega
theorem dv64:Dv 64:=Dv.small (by decide) (by decide)
end L2
namespace L2
open PySem PySem.Spec PyProof.Rows
theorem a1i (a b:Nat):Builtin.bitAnd (a:Int) (b:Int) = ((a &&& b:Nat):Int):=by
 unfold Builtin.bitAnd
 rw [decide_eq_true (Int.natCast_nonneg a),decide_eq_true (Int.natCast_nonneg b)]
 simp
theorem i1o (a b:Nat):Builtin.bitOr (a:Int) (b:Int) = ((a ||| b:Nat):Int):=by
 unfold Builtin.bitOr Builtin.bitAnd Builtin.bitNot
 rw [decide_eq_false (show ¬ (0:Int) ≤ -(a:Int) - 1 by omega),decide_eq_false (show ¬ (0:Int) ≤ -(b:Int) - 1 by omega)]
 have h1:(-(-(a:Int) - 1) - 1).toNat = a:=by omega
 have h2:(-(-(b:Int) - 1) - 1).toNat = b:=by omega
 simp only [h1,h2]
 omega
theorem h0l:∀ (a b:Nat),(a ^^^ b) + 2 * (a &&& b) = a + b:=by
 intro a
 induction a using Nat.strongRecOn with
 | ind a ih =>
  intro b
  by_cases h0:a = 0
  ·subst h0; simp
  ·have h:=ih (a / 2) (by omega) (b / 2)
   have e1:(a ^^^ b) / 2 = a / 2 ^^^ b / 2:=Nat.xor_div_two
   have e2:(a &&& b) / 2 = a / 2 &&& b / 2:=Nat.and_div_two
   have e3:(a ^^^ b) % 2 = (a + b) % 2:=by
    have:=Nat.testBit_xor a b 0
    rw [Nat.testBit_zero,Nat.testBit_zero,Nat.testBit_zero] at this
    rcases Nat.mod_two_eq_zero_or_one a with p | p <;> rcases Nat.mod_two_eq_zero_or_one b with q | q <;> rcases Nat.mod_two_eq_zero_or_one (a ^^^ b) with r | r <;> simp [p,q,r] at this <;> omega
   have e4:(a &&& b) % 2 = (a % 2) * (b % 2):=by
    have:=Nat.testBit_and a b 0
    rw [Nat.testBit_zero,Nat.testBit_zero,Nat.testBit_zero] at this
    rcases Nat.mod_two_eq_zero_or_one a with p | p <;> rcases Nat.mod_two_eq_zero_or_one b with q | q <;> rcases Nat.mod_two_eq_zero_or_one (a &&& b) with r | r <;> simp [p,q,r] at this <;> simp [p,q,r]
   rcases Nat.mod_two_eq_zero_or_one a with p | p <;> rcases Nat.mod_two_eq_zero_or_one b with q | q <;> rw [p,q] at e4 <;> omega
theorem g0e (a b:Nat):Builtin.bitXor (a:Int) (b:Int) = ((a ^^^ b:Nat):Int):=by
 unfold Builtin.bitXor
 rw [i1o,a1i]
 have h1:(a ||| b) + (a &&& b) = a + b:=by
  have:=h0l a b
  have e:(a ||| b) = (a ^^^ b) + (a &&& b):=by
   have h2:=h0l (a ^^^ b) (a &&& b)
   have h3:(a ^^^ b) &&& (a &&& b) = 0:=by
    apply Nat.eq_of_testBit_eq
    intro i
    simp only [Nat.testBit_and,Nat.testBit_xor,Nat.zero_testBit]
    cases a.testBit i <;> cases b.testBit i <;> rfl
   have h4:(a ^^^ b) ^^^ (a &&& b) = a ||| b:=by
    apply Nat.eq_of_testBit_eq
    intro i
    simp only [Nat.testBit_and,Nat.testBit_xor,Nat.testBit_or]
    cases a.testBit i <;> cases b.testBit i <;> rfl
   rw [h3,h4] at h2
   omega
  omega
 have:=h0l a b
 omega
theorem e1u (a k:Nat):(a:Int) / 2 ^ ((k:Int).toNat) = ((a >>> k:Nat):Int):=by
 rw [Int.toNat_natCast,Nat.shiftRight_eq_div_pow]
 exact (Int.natCast_ediv a (2 ^ k)).symm.trans (by norm_cast) |>.symm ▸ (by simp)
theorem g1o (a k:Nat):Builtin.bitAnd ((a:Int) / 2 ^ ((k:Int).toNat)) 1 = if a.testBit k then 1 else 0:=by
 rw [e1u,show (1:Int) = ((1:Nat):Int) from rfl,a1i]
 have:(a >>> k) &&& 1 = (a.testBit k).toNat:=by
  rw [Nat.and_one_is_mod,Nat.testBit]
  rw [Nat.one_and_eq_mod_two]
  rcases Nat.mod_two_eq_zero_or_one (a >>> k) with p | p <;> simp [p]
 rw [this]
 cases a.testBit k <;> rfl
theorem n0g (k:Nat):(1:Int) * (2:Int) ^ ((k:Int).toNat) = ((1 <<< k:Nat):Int):=by
 rw [Int.toNat_natCast,Nat.shiftLeft_eq,Int.one_mul,Nat.one_mul]
 simp
def bitsN (n:Nat):Nat:=if n = 0 then 0 else n.log2 + 1
theorem u0l (n:Nat):Builtin.Int.intBits (n:Int) = bitsN n:=by
 unfold Builtin.Int.intBits bitsN
 by_cases h:n = 0
 ·subst h; rfl
 ·rw [if_neg (by simp; omega),if_neg h]; simp
theorem l0c {n k:Nat} (h:n.testBit k = true):k < bitsN n:=by
 have h1:2 ^ k ≤ n:=Nat.ge_two_pow_of_testBit h
 have h0:n ≠ 0:=by
  intro z; subst z; simp at h
 unfold bitsN
 rw [if_neg h0]
 have:=(Nat.le_log2 h0).mpr h1
 omega
def l0k (n:Nat):List Nat:=(List.range (bitsN n)).filter n.testBit
theorem f0u {p:Nat→Bool} {m:Nat} (h:∀ k,p k = true→k < m):∀ d:Nat,(List.range (m + d)).filter p = (List.range m).filter p
 | 0=>rfl
 | d + 1=>by
  rw [← Nat.add_assoc,List.range_succ,List.filter_append,f0u h d]
  have:p (m + d) = false:=by
   cases e:p (m + d) with
   | false=>rfl
   | true=>have:=h _ e; omega
  simp [this]
theorem q0c {n m:Nat} (h:n < 2 ^ m):(List.range m).filter n.testBit = l0k n:=by
 have h1:∀ k,n.testBit k = true→k < m:=fun k e=>by
  have:=Nat.ge_two_pow_of_testBit e
  exact (Nat.pow_lt_pow_iff_right (by decide)).mp (Nat.lt_of_le_of_lt this h)
 unfold l0k
 rcases Nat.le_total m (bitsN n) with q | q
 ·obtain ⟨d,e⟩:=Nat.exists_eq_add_of_le q
  rw [e,f0u h1]
 ·obtain ⟨d,e⟩:=Nat.exists_eq_add_of_le q
  rw [e,f0u fun k z=>l0c z]
def e1s (K:PySem.W.Frag):Sp:=fun vs H Q _=>∃ (a:Addr) (ns:List Int),vs = [.ref a]∧SqL K H a (ns.map V.int)∧ns.length ≤ 63∧∀ H',Q (.bl true) H'
theorem bits_le {n m:Nat} (h:n < 2 ^ m):bitsN n ≤ m:=by
 unfold bitsN
 by_cases h0:n = 0
 ·rw [if_pos h0]; omega
 ·rw [if_neg h0]
  exact (Nat.log2_lt h0).mpr h
theorem m0m {n:Nat}:n < 2 ^ bitsN n:=by
 unfold bitsN
 by_cases h0:n = 0
 ·rw [if_pos h0,h0]; decide
 ·rw [if_neg h0]; exact Nat.lt_log2_self
theorem g0a:bootBuiltins "len" = some (.builtin "len"):=by decide +kernel
theorem b0b:bootBuiltins "isinstance" = some (.builtin "isinstance"):=by decide +kernel
theorem a1b:bootBuiltins "int" = some (.type "int"):=by decide +kernel
theorem g1n:bootBuiltins "bool" = some (.type "bool"):=by decide +kernel
theorem o0j:bootBuiltins "list" = some (.type "list"):=by decide +kernel
theorem o0i:bootBuiltins "tuple" = some (.type "tuple"):=by decide +kernel
theorem j1x:bootBuiltins "min" = some (.builtin "min"):=by decide +kernel
theorem j0h:bootBuiltins "enumerate" = some (.type "enumerate"):=by decide +kernel
theorem s0k:bootBuiltins "reversed" = some (.type "reversed"):=by decide +kernel
section
variable {X:Cx} {a b e o:Expr} {es:List Expr} {ta tb te to:TE} {t:TA} {pos apos cpos:Pos} (K:PySem.W.Frag)
theorem h0y (ha:PE X a ta) (he:∀ whole,isTrue a X.env whole = (do let v ← whole; standAt a.pos; holding [v] (truthy v))) (hK:X.K = K:=by rfl) :
  PT X a (fun σ H Q=>ta σ H fun x H'=>∃ k,TruV K x H' k∧Q k H'):=by subst hK; exact b1g ha he
theorem f0q (hK:X.K = K:=by rfl):OpR X (compareOp .NotIn) (rIn K true):=by subst hK; exact p0d
theorem d0h (hK:X.K = K:=by rfl):IxR X (rIx K):=by subst hK; exact j1f
theorem t0a (hK:X.K = K:=by rfl):SlR X (rSlL K):=by subst hK; exact e1t
theorem c0n (hK:X.K = K:=by rfl):h0c X (.builtin "len") (fun xs H Q=>∃ p ys,xs = [.ref p]∧(SqL K H p ys ∨ SqT K H p ys)∧Q (.int ys.length) H):=by subst hK; exact q0l
theorem i0y (hK:X.K = K:=by rfl):h0c X (.type "list") (fun xs H Q=>∃ p ys,xs = [.ref p]∧(SqL K H p ys ∨ SqT K H p ys)∧∀ l,H l = none→Q (.ref l) (upd H l (.lst ys))):=by subst hK; exact q0k
theorem h0p (hK:X.K = K:=by rfl):h0c X (.type "tuple") (fun xs H Q=>∃ p ys,xs = [.ref p]∧((SqL K H p ys∧∀ l,H l = none→Q (.ref l) (upd H l (.tup ys))) ∨ (SqT K H p ys∧Q (.ref p) H))):=by subst hK; exact o0h
theorem c0u {es:List Expr} {k:Nat} {t:TGs} {n:Nat} (hc:X.calm = true) (h:PGs X es t) (hn:(assignEach es X.env).length = n:=by rfl) (hst:(assignEach es X.env).findIdx? (·.1) = none:=by rfl) (hK:X.K = K:=by rfl) :
  PG X (.Tuple es k pos) (gTup K n t):=by subst hK; exact i1i hc h hn hst
variable {name:Str} {T id:String} {r:V→List V→Hp→VK→Prop}
theorem r0f (pa:PlainAttrs T) (slot:Slot T name id) (hty:typeOf (.builtin id) = pure (.type "method_descriptor")) (hm:MtR X id r) (ho:PE X o to)
  (hbase:attributeBase o name X.env (eval o X.env) = eval o X.env:=by rfl) (hline:(apos.endLine == cpos.line) = true:=by rfl) (hK:X.K = K:=by rfl):PE X (.Call (.Attribute o name apos) [] [] cpos) (tBM0 K T r to):=by
 subst hK; exact i1l pa slot hty hm ho hbase hline
theorem k0o (pa:PlainAttrs T) (slot:Slot T name id) (hty:typeOf (.builtin id) = pure (.type "method_descriptor")) (hm:MtR X id r) (ho:PE X o to) (ha:PA X (e :: es) t)
  (hbase:attributeBase o name X.env (eval o X.env) = eval o X.env:=by rfl)
  (hfew:((backTo cpos (starEach (e :: es) X.env)).all (fun x=>!x.1) && (backToKw cpos (keywordEach [] X.env)).all (fun x=>x.1.isSome) && decide ((e :: es).length + ([]:List Keyword).length + (if ([]:List Keyword).isEmpty then 0 else 1) < 30)) = true:=by rfl)
  (hline:(apos.endLine == cpos.line) = true:=by rfl) (he:starEach (e :: es) X.env = (false,eval e X.env) :: starEach es X.env:=by rfl) (hpl:(backTo cpos (starEach es X.env)).any (·.1) = false:=by rfl)
  (hK:X.K = K:=by rfl):PE X (.Call (.Attribute o name apos) (e :: es) [] cpos) (tBM K T r to t):=by
 subst hK
 exact k1n pa slot hty hm ho ha hbase hfew hline he hpl
end
inductive D where
 | non | bl (b:Bool) | int (i:Int) | str (x:Str) | tup (ds:List D) | lst (ds:List D)
def StT (H:Hp) (a:Addr) (xs:List V):Prop:=H a = some (.tup xs)
theorem StT.sq {K:PySem.W.Frag} {H:Hp} {a:Addr} {xs:List V} (h:StT H a xs):SqT K H a xs:=SqT.of h
instance {K:PySem.W.Frag} {H:Hp} {a:Addr} {xs:List V}:Coe (StT H a xs) (SqT K H a xs):=⟨StT.sq⟩
def StL (H:Hp) (a:Addr) (xs:List V):Prop:=H a = some (.lst xs)
theorem StL.sq {K:PySem.W.Frag} {H:Hp} {a:Addr} {xs:List V} (h:StL H a xs):SqL K H a xs:=SqL.of h
instance {K:PySem.W.Frag} {H:Hp} {a:Addr} {xs:List V}:Coe (StL H a xs) (SqL K H a xs):=⟨StL.sq⟩
mutual
def RepD (K:PySem.W.Frag) (H:Hp):V→D→Prop
 | v,.non=>v = .non
 | v,.bl b=>v = .bl b
 | v,.int i=>v = .int i
 | v,.str x=>v = .str x
 | v,.tup ds=>∃ a vs,v = .ref a∧StT H a vs∧RepDs K H vs ds
 | v,.lst ds=>∃ a vs,v = .ref a∧StL H a vs∧RepDs K H vs ds
def RepDs (K:PySem.W.Frag) (H:Hp):List V→List D→Prop
 | [],[]=>True
 | v :: vs,d :: ds=>RepD K H v d∧RepDs K H vs ds
 | _,_=>False
end
mutual
def eqD:D→D→Bool
 | .non,.non=>true
 | .bl a,.bl b=>a == b
 | .bl a,.int b=>(if a then 1 else 0) == b
 | .int a,.bl b=>a == (if b then 1 else 0)
 | .int a,.int b=>a == b
 | .str a,.str b=>a == b
 | .tup ds,.tup es=>eqDs ds es
 | .lst ds,.lst es=>eqDs ds es
 | _,_=>false
def eqDs:List D→List D→Bool
 | [],[]=>true
 | d :: ds,e :: es=>eqD d e && eqDs ds es
 | _,_=>false
end
mutual
def D.depth:D→Nat
 | .tup ds=>depths ds + 1
 | .lst ds=>depths ds + 1
 | _=>0
def depths:List D→Nat
 | []=>0
 | d :: ds=>max d.depth (depths ds)
end
section
variable {K:PySem.W.Frag} {H H':Hp}
theorem RepDs.length:∀ {vs:List V} {ds:List D},RepDs K H vs ds→vs.length = ds.length
 | [],[],_=>rfl
 | v :: vs,d :: ds,h=>by
  unfold RepDs at h
  rw [List.length_cons,List.length_cons,RepDs.length h.2]
 | [],d :: ds,h=>by unfold RepDs at h; exact h.elim
 | v :: vs,[],h=>by unfold RepDs at h; exact h.elim
theorem RepDs.get:∀ {vs:List V} {ds:List D} {i:Nat} {d:D},RepDs K H vs ds→ds[i]? = some d→∃ v,vs[i]? = some v∧RepD K H v d
 | [],[],_,_,_,e=>by simp at e
 | v :: vs,d :: ds,0,_,h,e=>by
  unfold RepDs at h
  simp at e; subst e
  exact ⟨v,rfl,h.1⟩
 | v :: vs,d :: ds,i + 1,_,h,e=>by
  unfold RepDs at h
  obtain ⟨u,a,b⟩:=RepDs.get (i:=i) h.2 (by simpa using e)
  exact ⟨u,by simpa using a,b⟩
 | [],d :: ds,_,_,h,_=>by unfold RepDs at h; exact h.elim
 | v :: vs,[],_,_,h,_=>by unfold RepDs at h; exact h.elim
theorem RepDs.getV:∀ {vs:List V} {ds:List D} {i:Nat} {v:V},RepDs K H vs ds→vs[i]? = some v→∃ d,ds[i]? = some d∧RepD K H v d
 | [],[],_,_,_,e=>by simp at e
 | v :: vs,d :: ds,0,_,h,e=>by
  unfold RepDs at h
  simp at e; subst e
  exact ⟨d,rfl,h.1⟩
 | v :: vs,d :: ds,i + 1,_,h,e=>by
  unfold RepDs at h
  obtain ⟨u,a,b⟩:=RepDs.getV (i:=i) h.2 (by simpa using e)
  exact ⟨u,by simpa using a,b⟩
 | [],d :: ds,_,_,h,_=>by unfold RepDs at h; exact h.elim
 | v :: vs,[],_,_,h,_=>by unfold RepDs at h; exact h.elim
theorem RepDs.append:∀ {vs ws:List V} {ds es:List D},RepDs K H vs ds→RepDs K H ws es→RepDs K H (vs ++ ws) (ds ++ es)
 | [],ws,[],es,_,h=>h
 | v :: vs,ws,d :: ds,es,h,h'=>by
  unfold RepDs at h
  show RepDs K H (v :: (vs ++ ws)) (d :: (ds ++ es))
  unfold RepDs
  exact ⟨h.1,RepDs.append h.2 h'⟩
 | [],_,d :: ds,_,h,_=>by unfold RepDs at h; exact h.elim
 | v :: vs,_,[],_,h,_=>by unfold RepDs at h; exact h.elim
theorem RepDs.one {v:V} {d:D} (h:RepD K H v d):RepDs K H [v] [d]:=by unfold RepDs; exact ⟨h,by unfold RepDs; trivial⟩
theorem RepDs.nil:RepDs K H [] []:=by unfold RepDs; trivial
theorem RepDs.cons {v:V} {d:D} {vs:List V} {ds:List D} (h:RepD K H v d) (t:RepDs K H vs ds):RepDs K H (v :: vs) (d :: ds):=by unfold RepDs; exact ⟨h,t⟩
mutual
theorem RepD.keep (hl:∀ a vs,StL H a vs→StL H' a vs) (ht:∀ a vs,StT H a vs→StT H' a vs):∀ {v:V} {d:D},RepD K H v d→RepD K H' v d
 | v,.non,h=>by unfold RepD at h ⊢; exact h
 | v,.bl b,h=>by unfold RepD at h ⊢; exact h
 | v,.int i,h=>by unfold RepD at h ⊢; exact h
 | v,.str x,h=>by unfold RepD at h ⊢; exact h
 | v,.tup ds,h=>by
  unfold RepD at h ⊢
  obtain ⟨a,vs,e,h1,h2⟩:=h
  exact ⟨a,vs,e,ht _ _ h1,RepDs.keep hl ht h2⟩
 | v,.lst ds,h=>by
  unfold RepD at h ⊢
  obtain ⟨a,vs,e,h1,h2⟩:=h
  exact ⟨a,vs,e,hl _ _ h1,RepDs.keep hl ht h2⟩
theorem RepDs.keep (hl:∀ a vs,StL H a vs→StL H' a vs) (ht:∀ a vs,StT H a vs→StT H' a vs):∀ {vs:List V} {ds:List D},RepDs K H vs ds→RepDs K H' vs ds
 | [],[],_=>RepDs.nil
 | v :: vs,d :: ds,h=>by
  unfold RepDs at h ⊢
  exact ⟨RepD.keep hl ht h.1,RepDs.keep hl ht h.2⟩
 | [],d :: ds,h=>by unfold RepDs at h; exact h.elim
 | v :: vs,[],h=>by unfold RepDs at h; exact h.elim
end
theorem RepD.same {v:V} {d:D} (h:RepD K H v d) (s:Same H H'):RepD K H' v d:=h.keep (fun _ _ q=>s _ _ q) fun _ _ q=>s _ _ q
theorem RepDs.same {vs:List V} {ds:List D} (h:RepDs K H vs ds) (s:Same H H'):RepDs K H' vs ds:=h.keep (fun _ _ q=>s _ _ q) fun _ _ q=>s _ _ q
theorem Grow.seqT {t:Addr} {a:Addr} {xs:List V} {kvs:List (Key × V)} (g:Grow t H H') (ht:H t = some (.dK kvs)) (h:SqT K H a xs):SqT K H' a xs:=by
 rcases h with (h | ⟨o,h⟩) | h
 ·exact .inl (.inl (g _ _ h (j0l h ht (by intro z; cases z))))
 ·exact .inl (.inr ⟨o,g _ _ h (j0l h ht (by intro z; cases z))⟩)
 ·exact .inr h
theorem RepD.grow {v:V} {d:D} {t:Addr} {kvs:List (Key × V)} (h:RepD K H v d) (g:Grow t H H') (ht:H t = some (.dK kvs)):RepD K H' v d:=h.keep (fun _ _ q=>g _ _ q (j0l q ht (by intro z; cases z))) fun _ _ q=>g _ _ q (j0l q ht (by intro z; cases z))
theorem RepDs.grow {vs:List V} {ds:List D} {t:Addr} {kvs:List (Key × V)} (h:RepDs K H vs ds) (g:Grow t H H') (ht:H t = some (.dK kvs)):RepDs K H' vs ds:=h.keep (fun _ _ q=>g _ _ q (j0l q ht (by intro z; cases z))) fun _ _ q=>g _ _ q (j0l q ht (by intro z; cases z))
end
mutual
theorem d0j:∀ d:D,eqD d d = true
 | .non=>by simp [eqD]
 | .bl b=>by simp [eqD]
 | .int i=>by simp [eqD]
 | .str x=>by simp [eqD]
 | .tup ds=>by unfold eqD; exact eqDs_refl ds
 | .lst ds=>by unfold eqD; exact eqDs_refl ds
theorem eqDs_refl:∀ ds:List D,eqDs ds ds = true
 | []=>by simp [eqDs]
 | d :: ds=>by unfold eqDs; rw [d0j d,eqDs_refl ds]; rfl
end
section
variable {X:Cx} {pins:List (Addr × Obj)} {σ:St} {H:Hp} {s:Shared}
mutual
theorem n0h (I:Inv X pins σ H s):∀ {v:V} {d e:D},RepD X.K H v d→RepD X.K H v e→d = e
 | v,.non,e,h,h'=>by
  unfold RepD at h; subst h
  cases e <;> (unfold RepD at h'; first | rfl | (obtain ⟨_,_,z,_⟩:=h'; cases z) | cases h')
 | v,.bl b,e,h,h'=>by
  unfold RepD at h; subst h
  cases e <;> (unfold RepD at h'; first | (cases h'; rfl) | (obtain ⟨_,_,z,_⟩:=h'; cases z) | cases h')
 | v,.int b,e,h,h'=>by
  unfold RepD at h; subst h
  cases e <;> (unfold RepD at h'; first | (cases h'; rfl) | (obtain ⟨_,_,z,_⟩:=h'; cases z) | cases h')
 | v,.str b,e,h,h'=>by
  unfold RepD at h; subst h
  cases e <;> (unfold RepD at h'; first | (cases h'; rfl) | (obtain ⟨_,_,z,_⟩:=h'; cases z) | cases h')
 | v,.tup ds,e,h,h'=>by
  unfold RepD at h
  obtain ⟨a,vs,rfl,h1,h2⟩:=h
  cases e with
  | tup es =>
   unfold RepD at h'
   obtain ⟨b,ws,z,g1,g2⟩:=h'
   cases z
   rw [I.tuple_inj g1.sq h1.sq] at g2
   rw [repDs_inj I h2 g2]
  | lst es =>
   unfold RepD at h'
   obtain ⟨b,ws,z,g1,g2⟩:=h'
   cases z
   obtain ⟨_,_,⟨o,n,e1,c1,_⟩,_⟩:=I.list (StL.sq g1)
   obtain ⟨_,_,⟨o',e2,c2,_⟩,_⟩:=I.tuple h1.sq
   rw [e1] at e2; cases e2
   rw [c1] at c2
   exact absurd c2 (by decide)
  | non=>unfold RepD at h'; cases h'
  | bl _=>unfold RepD at h'; cases h'
  | int _=>unfold RepD at h'; cases h'
  | str _=>unfold RepD at h'; cases h'
 | v,.lst ds,e,h,h'=>by
  unfold RepD at h
  obtain ⟨a,vs,rfl,h1,h2⟩:=h
  cases e with
  | lst es =>
   unfold RepD at h'
   obtain ⟨b,ws,z,g1,g2⟩:=h'
   cases z
   rw [I.list_inj (StL.sq g1) (StL.sq h1)] at g2
   rw [repDs_inj I h2 g2]
  | tup es =>
   unfold RepD at h'
   obtain ⟨b,ws,z,g1,g2⟩:=h'
   cases z
   obtain ⟨_,_,⟨o,n,e1,c1,_⟩,_⟩:=I.list (StL.sq h1)
   obtain ⟨_,_,⟨o',e2,c2,_⟩,_⟩:=I.tuple g1.sq
   rw [e1] at e2; cases e2
   rw [c1] at c2
   exact absurd c2 (by decide)
  | non=>unfold RepD at h'; cases h'
  | bl _=>unfold RepD at h'; cases h'
  | int _=>unfold RepD at h'; cases h'
  | str _=>unfold RepD at h'; cases h'
theorem repDs_inj (I:Inv X pins σ H s):∀ {vs:List V} {ds es:List D},RepDs X.K H vs ds→RepDs X.K H vs es→ds = es
 | [],[],[],_,_=>rfl
 | v :: vs,d :: ds,e :: es,h,h'=>by
  unfold RepDs at h h'
  rw [n0h I h.1 h'.1,repDs_inj I h.2 h'.2]
 | [],d :: ds,_,h,_=>by unfold RepDs at h; exact h.elim
 | v :: vs,[],_,h,_=>by unfold RepDs at h; exact h.elim
 | [],_,d :: ds,_,h=>by unfold RepDs at h; exact h.elim
 | v :: vs,_,[],_,h=>by unfold RepDs at h; exact h.elim
end
end
theorem i0i (A:Around):A.in1.units = A.units + 1:=rfl
theorem m0v:∀ {ds:List D} {j:Nat} {d:D},ds[j]? = some d→d.depth ≤ depths ds
 | [],_,_,h=>by simp at h
 | d :: ds,0,_,h=>by simp at h; subst h; unfold depths; omega
 | d :: ds,j + 1,e,h=>by
  have:=m0v (ds:=ds) (j:=j) (by simpa using h)
  unfold depths; omega
def q0h (ds es:List D) (j:Nat):Bool:=match ds[j]?,es[j]? with
 | some d,some e=>eqD d e
 | _,_=>true
theorem f0i:∀ {ds es:List D},ds.length = es.length→(List.range ds.length).all (q0h ds es) = eqDs ds es
 | [],[],_=>by simp [eqDs]
 | d :: ds,e :: es,h=>by
  have ih:=f0i (ds:=ds) (es:=es) (by simpa using h)
  rw [List.length_cons,List.range_succ_eq_map,List.all_cons,List.all_map]
  unfold eqDs
  rw [← ih]
  congr 1
 | [],_ :: _,h=>by simp at h
 | _ :: _,[],h=>by simp at h
theorem d0y:∀ {ds es:List D},ds.length ≠ es.length→eqDs ds es = false
 | [],[],h=>absurd rfl h
 | [],_ :: _,_=>by simp [eqDs]
 | _ :: _,[],_=>by simp [eqDs]
 | d :: ds,e :: es,h=>by
  unfold eqDs
  rw [d0y (ds:=ds) (es:=es) (by simpa using h),Bool.and_false]
section
variable {X:Cx} {pins:List (Addr × Obj)} {σ:St} {H:Hp} {s:Shared}
theorem j0z (I:Inv X pins σ H s) {m:Nat} (ih:∀ {A:Around} {v u:V} {vv uu:Value} {d e:D},d.depth ≤ m→A.units + m < cLine→RelV v vv→RelV u uu→RepD X.K H v d→RepD X.K H u e→SeqAt.EqAt A s vv uu (eqD d e)) {A:Around} (hu:A.units + m < cLine)
  {vs us:List V} {vvs uus:List Value} {ds es:List D} (hd:depths ds ≤ m) (rv:Vals vs vvs) (ru:Vals us uus) (hv:RepDs X.K H vs ds) (he:RepDs X.K H us es) :
  ∀ j (h1:j < vvs.toArray.size) (h2:j < uus.toArray.size),SeqAt.EqAt A s vvs.toArray[j] uus.toArray[j] (q0h ds es j):=by
 intro j h1 h2
 rw [List.size_toArray] at h1 h2
 have l1:=rv.length
 have l2:=ru.length
 have g1:vs[j]? = some vs[j]:=List.getElem?_eq_getElem (by omega)
 have g2:us[j]? = some us[j]:=List.getElem?_eq_getElem (by omega)
 obtain ⟨x,ex,rx⟩:=rv.get g1
 obtain ⟨y,ey,ry⟩:=ru.get g2
 obtain ⟨d,ed,rd⟩:=hv.getV g1
 obtain ⟨e,ee,re⟩:=he.getV g2
 rw [List.getElem?_eq_getElem h1] at ex
 rw [List.getElem?_eq_getElem h2] at ey
 cases ex
 cases ey
 have:q0h ds es j = eqD d e:=by unfold q0h; rw [ed,ee]
 rw [this,List.getElem_toArray,List.getElem_toArray]
 exact ih (Nat.le_trans (m0v ed) hd) hu rx ry rd re
theorem d1d (I:Inv X pins σ H s) (n:Nat) (ih:0 < n→∀ {A:Around} {v u:V} {vv uu:Value} {d e:D},d.depth ≤ n - 1→A.units + (n - 1) < cLine→RelV v vv→RelV u uu→RepD X.K H v d→RepD X.K H u e→SeqAt.EqAt A s vv uu (eqD d e))
  {A:Around} {v u:V} {vv uu:Value} {d e:D} (hd:d.depth ≤ n) (hu:A.units + n < cLine) (rv:RelV v vv) (ru:RelV u uu) (hv:RepD X.K H v d) (he:RepD X.K H u e):SeqAt.RcAt A s vv uu (eqD d e)∧SeqAt.EqAt A s vv uu (eqD d e):=by
 have hu0:A.units < cLine:=by omega
 have isL:∀ {a xs},StL H a xs→∃ its:List Value,Vals xs its∧s.heap.IsList a its.toArray:=fun q=>by
  obtain ⟨its,r,p,_⟩:=I.list q.sq
  exact ⟨its,r,p.isList⟩
 have isT:∀ {a xs},StT H a xs→∃ its:List Value,Vals xs its∧s.heap.IsTuple a its.toArray:=fun q=>by
  obtain ⟨its,r,p,_⟩:=I.tuple q.sq
  exact ⟨its,r,p⟩
 cases d with
 | non =>
  unfold RepD at hv; subst hv; cases rv
  cases e with
  | non=>unfold RepD at he; subst he; cases ru; exact ⟨.none_none,.same _⟩
  | bl b=>unfold RepD at he; subst he; cases ru; exact ⟨.none_bool _,.none_bool _⟩
  | int b=>unfold RepD at he; subst he; obtain ⟨t,rfl⟩:=ru; exact ⟨.none_int _ _,.none_int _ _⟩
  | str b=>unfold RepD at he; subst he; obtain ⟨t,rfl⟩:=ru; exact ⟨.none_str _ _,.none_str _ _⟩
  | tup es=>unfold RepD at he; obtain ⟨a,vs,rfl,q,_⟩:=he; cases ru; obtain ⟨its,_,q⟩:=isT q; exact ⟨.none_tuple q hu0,.none_tuple q hu0⟩
  | lst es=>unfold RepD at he; obtain ⟨a,vs,rfl,q,_⟩:=he; cases ru; obtain ⟨its,_,q⟩:=isL q; exact ⟨.none_list q hu0,.none_list q hu0⟩
 | bl x =>
  unfold RepD at hv; subst hv; cases rv
  cases e with
  | non=>unfold RepD at he; subst he; cases ru; exact ⟨.bool_none _,.bool_none _⟩
  | bl b=>unfold RepD at he; subst he; cases ru; exact ⟨.bool_bool _ _,.bool_bool _ _⟩
  | int b=>unfold RepD at he; subst he; obtain ⟨t,rfl⟩:=ru; exact ⟨.bool_int _ _ _,.bool_int _ _ _⟩
  | str b=>unfold RepD at he; subst he; obtain ⟨t,rfl⟩:=ru; exact ⟨.bool_str _ _ _,.bool_str _ _ _⟩
  | tup es=>unfold RepD at he; obtain ⟨a,vs,rfl,q,_⟩:=he; cases ru; obtain ⟨its,_,q⟩:=isT q; exact ⟨.bool_tuple _ q hu0,.bool_tuple _ q hu0⟩
  | lst es=>unfold RepD at he; obtain ⟨a,vs,rfl,q,_⟩:=he; cases ru; obtain ⟨its,_,q⟩:=isL q; exact ⟨.bool_list _ q hu0,.bool_list _ q hu0⟩
 | int x =>
  unfold RepD at hv; subst hv; obtain ⟨t0,rfl⟩:=rv
  cases e with
  | non=>unfold RepD at he; subst he; cases ru; exact ⟨.int_none _ _,.int_none _ _⟩
  | bl b=>unfold RepD at he; subst he; cases ru; exact ⟨.int_bool _ _ _,.int_bool _ _ _⟩
  | int b=>unfold RepD at he; subst he; obtain ⟨t,rfl⟩:=ru; exact ⟨.int_int _ _ _ _,.int_int _ _ _ _⟩
  | str b=>unfold RepD at he; subst he; obtain ⟨t,rfl⟩:=ru; exact ⟨.int_str _ _ _ _,.int_str _ _ _ _⟩
  | tup es=>unfold RepD at he; obtain ⟨a,vs,rfl,q,_⟩:=he; cases ru; obtain ⟨its,_,q⟩:=isT q; exact ⟨.int_tuple _ _ q hu0,.int_tuple _ _ q hu0⟩
  | lst es=>unfold RepD at he; obtain ⟨a,vs,rfl,q,_⟩:=he; cases ru; obtain ⟨its,_,q⟩:=isL q; exact ⟨.int_list _ _ q hu0,.int_list _ _ q hu0⟩
 | str x =>
  unfold RepD at hv; subst hv; obtain ⟨t0,rfl⟩:=rv
  cases e with
  | non=>unfold RepD at he; subst he; cases ru; exact ⟨.str_none _ _,.str_none _ _⟩
  | bl b=>unfold RepD at he; subst he; cases ru; exact ⟨.str_bool _ _ _,.str_bool _ _ _⟩
  | int b=>unfold RepD at he; subst he; obtain ⟨t,rfl⟩:=ru; exact ⟨.str_int _ _ _ _,.str_int _ _ _ _⟩
  | str b=>unfold RepD at he; subst he; obtain ⟨t,rfl⟩:=ru; exact ⟨.str_str _ _ _ _,.str_str _ _ _ _⟩
  | tup es=>unfold RepD at he; obtain ⟨a,vs,rfl,q,_⟩:=he; cases ru; obtain ⟨its,_,q⟩:=isT q; exact ⟨.str_tuple _ _ q hu0,.str_tuple _ _ q hu0⟩
  | lst es=>unfold RepD at he; obtain ⟨a,vs,rfl,q,_⟩:=he; cases ru; obtain ⟨its,_,q⟩:=isL q; exact ⟨.str_list _ _ q hu0,.str_list _ _ q hu0⟩
 | tup ds =>
  have hv0:=hv
  unfold RepD at hv
  obtain ⟨a,vs,rfl,q,hq⟩:=hv
  cases rv
  obtain ⟨its,r1,q1⟩:=isT q
  cases e with
  | non=>unfold RepD at he; subst he; cases ru; exact ⟨.tuple_none q1 hu0,.tuple_none q1 hu0⟩
  | bl b=>unfold RepD at he; subst he; cases ru; exact ⟨.tuple_bool _ q1 hu0,.tuple_bool _ q1 hu0⟩
  | int b=>unfold RepD at he; subst he; obtain ⟨t,rfl⟩:=ru; exact ⟨.tuple_int _ _ q1 hu0,.tuple_int _ _ q1 hu0⟩
  | str b=>unfold RepD at he; subst he; obtain ⟨t,rfl⟩:=ru; exact ⟨.tuple_str _ _ q1 hu0,.tuple_str _ _ q1 hu0⟩
  | lst es=>unfold RepD at he; obtain ⟨b,ws,rfl,g,_⟩:=he; cases ru; obtain ⟨its2,_,g1⟩:=isL g; exact ⟨.tuple_list q1 g1 hu0,.tuple_list q1 g1 hu0⟩
  | tup es =>
   have he0:=he
   unfold RepD at he
   obtain ⟨b,ws,rfl,g,hg⟩:=he
   cases ru
   obtain ⟨its2,r2,g1⟩:=isT g
   have hd':depths ds + 1 ≤ n:=by simpa [D.depth] using hd
   have l1:=r1.length
   have l2:=r2.length
   have m1:=hq.length
   have m2:=hg.length
   have rc:SeqAt.RcAt A s (.ref a) (.ref b) (eqD (.tup ds) (.tup es)):=by
    have:=SeqAt.RcAt.tuples (e:=q0h ds es) q1 g1 hu0 (j0z I (fun {A} {v} {u} {vv} {uu} {d} {e}=>ih (by omega) (A:=A)) (A:=A.in1) (by rw [i0i]; omega) (m:=n - 1) (by omega) r1 r2 hq hg)
    rw [List.size_toArray,List.size_toArray] at this
    unfold eqD
    by_cases hl:ds.length = es.length
    ·have z:(its.length == its2.length) = true:=by rw [beq_iff_eq]; omega
     have mm:min its.length its2.length = ds.length:=by omega
     rw [z,Bool.and_true,mm,f0i hl] at this
     exact this
    ·have z:(its.length == its2.length) = false:=by rw [beq_eq_false_iff_ne]; omega
     rw [z,Bool.and_false] at this
     rw [d0y hl]
     exact this
   refine ⟨rc,?_⟩
   by_cases hab:a = b
   ·subst hab
    rw [n0h I hv0 he0,d0j]
    exact .same _
   ·exact .of_refs hab rc
 | lst ds =>
  have hv0:=hv
  unfold RepD at hv
  obtain ⟨a,vs,rfl,q,hq⟩:=hv
  cases rv
  obtain ⟨its,r1,q1⟩:=isL q
  cases e with
  | non=>unfold RepD at he; subst he; cases ru; exact ⟨.list_none q1 hu0,.list_none q1 hu0⟩
  | bl b=>unfold RepD at he; subst he; cases ru; exact ⟨.list_bool _ q1 hu0,.list_bool _ q1 hu0⟩
  | int b=>unfold RepD at he; subst he; obtain ⟨t,rfl⟩:=ru; exact ⟨.list_int _ _ q1 hu0,.list_int _ _ q1 hu0⟩
  | str b=>unfold RepD at he; subst he; obtain ⟨t,rfl⟩:=ru; exact ⟨.list_str _ _ q1 hu0,.list_str _ _ q1 hu0⟩
  | tup es=>unfold RepD at he; obtain ⟨b,ws,rfl,g,_⟩:=he; cases ru; obtain ⟨its2,_,g1⟩:=isT g; exact ⟨.list_tuple q1 g1 hu0,.list_tuple q1 g1 hu0⟩
  | lst es =>
   have he0:=he
   unfold RepD at he
   obtain ⟨b,ws,rfl,g,hg⟩:=he
   cases ru
   obtain ⟨its2,r2,g1⟩:=isL g
   have hd':depths ds + 1 ≤ n:=by simpa [D.depth] using hd
   have l1:=r1.length
   have l2:=r2.length
   have m1:=hq.length
   have m2:=hg.length
   have rc:SeqAt.RcAt A s (.ref a) (.ref b) (eqD (.lst ds) (.lst es)):=by
    unfold eqD
    by_cases hl:ds.length = es.length
    ·have:=SeqAt.RcAt.lists (e:=q0h ds es) q1 g1 (by rw [List.size_toArray,List.size_toArray]; omega) hu0 (j0z I (fun {A} {v} {u} {vv} {uu} {d} {e}=>ih (by omega) (A:=A)) (A:=A.in1) (by rw [i0i]; omega) (m:=n - 1) (by omega) r1 r2 hq hg)
     rw [List.size_toArray,show its.length = ds.length by omega,f0i hl] at this
     exact this
    ·rw [d0y hl]
     exact SeqAt.RcAt.lists_lengths q1 g1 (by rw [List.size_toArray,List.size_toArray,bne_iff_ne]; omega) hu0
   refine ⟨rc,?_⟩
   by_cases hab:a = b
   ·subst hab
    rw [n0h I hv0 he0,d0j]
    exact .same _
   ·exact .of_refs hab rc
theorem x0o (I:Inv X pins σ H s):∀ (n:Nat) {A:Around} {v u:V} {vv uu:Value} {d e:D},d.depth ≤ n→A.units + n < cLine→RelV v vv→RelV u uu→RepD X.K H v d→RepD X.K H u e →
  SeqAt.RcAt A s vv uu (eqD d e)∧SeqAt.EqAt A s vv uu (eqD d e):=by
 intro n
 induction n with
 | zero=>exact fun hd hu=>d1d I 0 (fun hlt=>absurd hlt (by omega)) hd hu
 | succ n ih=>exact fun hd hu=>d1d I (n + 1) (fun _ A v u vv uu d e h1 h2 h3 h4 h5 h6=>(ih (A:=A) h1 h2 h3 h4 h5 h6).2) hd hu
end
section
variable {X:Cx} (K:PySem.W.Frag)
def rEqD (K:PySem.W.Frag):R2:=fun x y H Q=>∃ d e,RepD K H x d∧RepD K H y e∧d.depth ≤ 60∧Q (.bl (eqD d e)) H
def rNeD (K:PySem.W.Frag):R2:=fun x y H Q=>∃ d e,RepD K H x d∧RepD K H y e∧d.depth ≤ 60∧Q (.bl (!eqD d e)) H
theorem j0e (hu:X.A.units + 64 < cLine) (hK:X.K = K:=by rfl):OpR X (compareOp .Eq) (rEqD K):=by
 subst hK
 intro pins s σ H x y v u Q I rx ry h
 obtain ⟨d,e,hd,he,hz,q⟩:=h
 exact (x0o I 60 hz (by omega) rx ry hd he).1 X.prog X.w _ _ ⟨.bl _,H,I,rfl,q⟩
theorem i1c {pins:List (Addr × Obj)} {σ:St} {H:Hp} {s:Shared} (I:Inv X pins σ H s) {A:Around} {v u:V} {vv uu:Value} {d e:D} (hd:d.depth ≤ 60) (hu:A.units + 61 < cLine) (rv:RelV v vv) (ru:RelV u uu) (hv:RepD X.K H v d) (he:RepD X.K H u e) :
  SeqAt.RcNeAt A s vv uu (!eqD d e):=by
 have hu0:A.units < cLine:=by omega
 have isL:∀ {a xs},StL H a xs→∃ its:List Value,Vals xs its∧s.heap.IsList a its.toArray:=fun q=>by
  obtain ⟨its,r,p,_⟩:=I.list q.sq
  exact ⟨its,r,p.isList⟩
 have isT:∀ {a xs},StT H a xs→∃ its:List Value,Vals xs its∧s.heap.IsTuple a its.toArray:=fun q=>by
  obtain ⟨its,r,p,_⟩:=I.tuple q.sq
  exact ⟨its,r,p⟩
 cases d with
 | non =>
  unfold RepD at hv; subst hv; cases rv
  cases e with
  | non=>unfold RepD at he; subst he; cases ru; exact .none_none
  | bl b=>unfold RepD at he; subst he; cases ru; exact .none_bool _
  | int b=>unfold RepD at he; subst he; obtain ⟨t,rfl⟩:=ru; exact .none_int _ _
  | str b=>unfold RepD at he; subst he; obtain ⟨t,rfl⟩:=ru; exact .none_str _ _
  | tup es=>unfold RepD at he; obtain ⟨a,vs,rfl,q,_⟩:=he; cases ru; obtain ⟨its,_,q⟩:=isT q; exact .none_tuple q hu0
  | lst es=>unfold RepD at he; obtain ⟨a,vs,rfl,q,_⟩:=he; cases ru; obtain ⟨its,_,q⟩:=isL q; exact .none_list q hu0
 | bl x =>
  unfold RepD at hv; subst hv; cases rv
  cases e with
  | non=>unfold RepD at he; subst he; cases ru; exact .bool_none _
  | bl b=>unfold RepD at he; subst he; cases ru; exact .bool_bool _ _
  | int b=>unfold RepD at he; subst he; obtain ⟨t,rfl⟩:=ru; exact .bool_int _ _ _
  | str b=>unfold RepD at he; subst he; obtain ⟨t,rfl⟩:=ru; exact .bool_str _ _ _
  | tup es=>unfold RepD at he; obtain ⟨a,vs,rfl,q,_⟩:=he; cases ru; obtain ⟨its,_,q⟩:=isT q; exact .bool_tuple _ q hu0
  | lst es=>unfold RepD at he; obtain ⟨a,vs,rfl,q,_⟩:=he; cases ru; obtain ⟨its,_,q⟩:=isL q; exact .bool_list _ q hu0
 | int x =>
  unfold RepD at hv; subst hv; obtain ⟨t0,rfl⟩:=rv
  cases e with
  | non=>unfold RepD at he; subst he; cases ru; exact .int_none _ _
  | bl b=>unfold RepD at he; subst he; cases ru; exact .int_bool _ _ _
  | int b=>unfold RepD at he; subst he; obtain ⟨t,rfl⟩:=ru; exact .int_int _ _ _ _
  | str b=>unfold RepD at he; subst he; obtain ⟨t,rfl⟩:=ru; exact .int_str _ _ _ _
  | tup es=>unfold RepD at he; obtain ⟨a,vs,rfl,q,_⟩:=he; cases ru; obtain ⟨its,_,q⟩:=isT q; exact .int_tuple _ _ q hu0
  | lst es=>unfold RepD at he; obtain ⟨a,vs,rfl,q,_⟩:=he; cases ru; obtain ⟨its,_,q⟩:=isL q; exact .int_list _ _ q hu0
 | str x =>
  unfold RepD at hv; subst hv; obtain ⟨t0,rfl⟩:=rv
  cases e with
  | non=>unfold RepD at he; subst he; cases ru; exact .str_none _ _
  | bl b=>unfold RepD at he; subst he; cases ru; exact .str_bool _ _ _
  | int b=>unfold RepD at he; subst he; obtain ⟨t,rfl⟩:=ru; exact .str_int _ _ _ _
  | str b=>unfold RepD at he; subst he; obtain ⟨t,rfl⟩:=ru; exact .str_str _ _ _ _
  | tup es=>unfold RepD at he; obtain ⟨a,vs,rfl,q,_⟩:=he; cases ru; obtain ⟨its,_,q⟩:=isT q; exact .str_tuple _ _ q hu0
  | lst es=>unfold RepD at he; obtain ⟨a,vs,rfl,q,_⟩:=he; cases ru; obtain ⟨its,_,q⟩:=isL q; exact .str_list _ _ q hu0
 | tup ds =>
  unfold RepD at hv
  obtain ⟨a,vs,rfl,q,hq⟩:=hv
  cases rv
  obtain ⟨its,r1,q1⟩:=isT q
  cases e with
  | non=>unfold RepD at he; subst he; cases ru; exact .tuple_none q1 hu0
  | bl b=>unfold RepD at he; subst he; cases ru; exact .tuple_bool _ q1 hu0
  | int b=>unfold RepD at he; subst he; obtain ⟨t,rfl⟩:=ru; exact .tuple_int _ _ q1 hu0
  | str b=>unfold RepD at he; subst he; obtain ⟨t,rfl⟩:=ru; exact .tuple_str _ _ q1 hu0
  | lst es=>unfold RepD at he; obtain ⟨b,ws,rfl,g,_⟩:=he; cases ru; obtain ⟨its2,_,g1⟩:=isL g; exact .tuple_list q1 g1 hu0
  | tup es =>
   unfold RepD at he
   obtain ⟨b,ws,rfl,g,hg⟩:=he
   cases ru
   obtain ⟨its2,r2,g1⟩:=isT g
   have hd':depths ds + 1 ≤ 60:=by simpa [D.depth] using hd
   have l1:=r1.length
   have l2:=r2.length
   have m1:=hq.length
   have m2:=hg.length
   have:=SeqAt.RcNeAt.tuples (e:=q0h ds es) q1 g1 hu0 (j0z I (fun {A} {v} {u} {vv} {uu} {d} {e} a1 a2 a3 a4 a5 a6=>(x0o I 60 a1 a2 a3 a4 a5 a6).2) (A:=A.in1) (by rw [i0i]; omega) (m:=60) (by omega) r1 r2 hq hg)
   rw [List.size_toArray,List.size_toArray] at this
   unfold eqD
   by_cases hl:ds.length = es.length
   ·have z:(its.length == its2.length) = true:=by rw [beq_iff_eq]; omega
    have mm:min its.length its2.length = ds.length:=by omega
    rw [z,Bool.and_true,mm,f0i hl] at this
    exact this
   ·have z:(its.length == its2.length) = false:=by rw [beq_eq_false_iff_ne]; omega
    rw [z,Bool.and_false] at this
    rw [d0y hl]
    exact this
 | lst ds =>
  unfold RepD at hv
  obtain ⟨a,vs,rfl,q,hq⟩:=hv
  cases rv
  obtain ⟨its,r1,q1⟩:=isL q
  cases e with
  | non=>unfold RepD at he; subst he; cases ru; exact .list_none q1 hu0
  | bl b=>unfold RepD at he; subst he; cases ru; exact .list_bool _ q1 hu0
  | int b=>unfold RepD at he; subst he; obtain ⟨t,rfl⟩:=ru; exact .list_int _ _ q1 hu0
  | str b=>unfold RepD at he; subst he; obtain ⟨t,rfl⟩:=ru; exact .list_str _ _ q1 hu0
  | tup es=>unfold RepD at he; obtain ⟨b,ws,rfl,g,_⟩:=he; cases ru; obtain ⟨its2,_,g1⟩:=isT g; exact .list_tuple q1 g1 hu0
  | lst es =>
   unfold RepD at he
   obtain ⟨b,ws,rfl,g,hg⟩:=he
   cases ru
   obtain ⟨its2,r2,g1⟩:=isL g
   have hd':depths ds + 1 ≤ 60:=by simpa [D.depth] using hd
   have l1:=r1.length
   have l2:=r2.length
   have m1:=hq.length
   have m2:=hg.length
   unfold eqD
   by_cases hl:ds.length = es.length
   ·have:=SeqAt.RcNeAt.lists (e:=q0h ds es) q1 g1 (by rw [List.size_toArray,List.size_toArray]; omega) hu0 (j0z I (fun {A} {v} {u} {vv} {uu} {d} {e} a1 a2 a3 a4 a5 a6=>(x0o I 60 a1 a2 a3 a4 a5 a6).2) (A:=A.in1) (by rw [i0i]; omega) (m:=60) (by omega) r1 r2 hq hg)
    rw [List.size_toArray,show its.length = ds.length by omega,f0i hl] at this
    exact this
   ·rw [d0y hl]
    exact SeqAt.RcNeAt.lists_lengths q1 g1 (by rw [List.size_toArray,List.size_toArray,bne_iff_ne]; omega) hu0
theorem k0q (hu:X.A.units + 64 < cLine) (hK:X.K = K:=by rfl):OpR X (compareOp .NotEq) (rNeD K):=by
 subst hK
 intro pins s σ H x y v u Q I rx ry h
 obtain ⟨d,e,hd,he,hz,q⟩:=h
 exact i1c I hz (by omega) rx ry hd he X.prog X.w _ _ ⟨.bl _,H,I,rfl,q⟩
end
def j0b (ks:List Nat):Nat:=ks.foldl (fun r k=>r ^^^ (1 <<< k)) 0
theorem u0y (ks:List Nat) (k:Nat):j0b (ks ++ [k]) = j0b ks ^^^ (1 <<< k):=by
 unfold j0b
 rw [List.foldl_append]
 rfl
theorem x0l (k:Nat):∀ ks:List Nat,(j0b ks).testBit k = decide (ks.count k % 2 = 1):=by
 intro ks
 have gen:∀ (ks:List Nat) (r:Nat),(ks.foldl (fun r k=>r ^^^ (1 <<< k)) r).testBit k = (r.testBit k ^^ decide (ks.count k % 2 = 1)):=by
  intro ks
  induction ks with
  | nil=>intro r; simp
  | cons a t ih =>
   intro r
   rw [List.foldl_cons,ih,Nat.testBit_xor,Nat.one_shiftLeft,Nat.testBit_two_pow,List.count_cons]
   by_cases h:a = k
   ·subst h
    simp only [decide_true,beq_self_eq_true,if_true]
    rcases Nat.mod_two_eq_zero_or_one (t.count a) with p | p
    ·have q:(t.count a + 1) % 2 = 1:=by omega
     simp [p,q]
    ·have q:(t.count a + 1) % 2 = 0:=by omega
     simp [p,q]
   ·have hb:(a == k) = false:=beq_eq_false_iff_ne.mpr h
    simp [h,hb]
 have:=gen ks 0
 simpa [j0b] using this
theorem l0o {k:Nat}:∀ m:Nat,(List.range m).count k = if k < m then 1 else 0
 | 0=>by simp
 | m + 1=>by
  rw [List.range_succ,List.count_append,l0o m]
  by_cases h:m = k
  ·subst h; simp
  ·have hb:(m == k) = false:=beq_eq_false_iff_ne.mpr h
   rw [List.count_cons,hb]
   simp only [List.count_nil]
   by_cases h2:k < m
   ·rw [if_pos h2,if_pos (show k < m + 1 by omega)]; simp
   ·rw [if_neg h2,if_neg (show ¬ k < m + 1 by omega)]; simp
theorem q0d (n k:Nat):(l0k n).count k = if n.testBit k then 1 else 0:=by
 unfold l0k
 by_cases h:n.testBit k = true
 ·rw [if_pos h]
  have hk:=l0c h
  rw [List.count_filter h]
  rw [l0o,if_pos hk]
 ·rw [if_neg h]
  exact List.count_eq_zero.mpr fun m=>h (List.mem_filter.mp m).2
theorem p0a (n:Nat):j0b (l0k n) = n:=by
 apply Nat.eq_of_testBit_eq
 intro k
 rw [x0l,q0d]
 cases n.testBit k <;> simp
abbrev i1u (ks:List Nat):List V:=ks.map fun j=>V.int (j:Nat)
abbrev a0g (ks:List Nat):List D:=ks.map fun j=>D.int (j:Nat)
theorem PSs.pre {X:Cx} {sts:List Stmt} {u P:TS} (h:PSs X sts u) (hw:∀ D σ H,P D σ H→u D σ H):PSs X sts P:=fun pins s σ H D I hp=>h pins s σ H D I (hw D σ H hp)
section
variable {X:Cx}
theorem y0b {x:Str} {v:V} {pos:Pos} (h:∃ u,X.mg x = some u∧RelV v u) (hg:Gl X x) (hd:(x == ("__debug__" : Str)) = false:=by decide):PE X (.Name x pos) (tC v):=by
 obtain ⟨u,hm,r⟩:=h
 exact e0b hg hm r hd
end
structure Net where
 m:Nat
 js:List (Nat × Nat)
 os:List Nat
abbrev e0y (p:Nat × Nat):D:=.tup [.int (p.1:Nat),.int (p.2:Nat)]
def f0l (rows:List Nat) (p:Nat × Nat):List Nat:=rows ++ [rows.getD p.1 0 ^^^ rows.getD p.2 0]
def b0t (m:Nat):List Nat:=(List.range m).map fun k=>1 <<< k
def e1x (N:Net):List Nat:=N.js.foldl f0l (b0t N.m)
def okIx:Nat→List (Nat × Nat)→Prop
 | _,[]=>True
 | n,p :: r=>p.1 < p.2∧p.2 < n∧okIx (n + 1) r
def okJs:List Nat→List (Nat × Nat)→Prop
 | _,[]=>True
 | rows,p :: r=>p.1 < p.2∧p.2 < rows.length∧rows.getD p.1 0 ≠ rows.getD p.2 0∧okJs (f0l rows p) r
theorem a1x (rows:List Nat) (p:Nat × Nat):(f0l rows p).length = rows.length + 1:=by simp [f0l]
theorem c1j (js:List (Nat × Nat)):∀ rows:List Nat,(js.foldl f0l rows).length = rows.length + js.length:=by
 induction js with
 | nil=>intro rows; rfl
 | cons p r ih=>intro rows; rw [List.foldl_cons,ih,a1x,List.length_cons]; omega
theorem r0g (m:Nat):(b0t m).length = m:=by simp [b0t]
def tyD:D→String
 | .non => "NoneType" | .bl _ => "bool" | .int _ => "int" | .str _ => "str" | .tup _ => "tuple" | .lst _ => "list"
theorem l0s (K:PySem.W.Frag) {X:Cx} (hK:X.K = K:=by rfl):h0c X (.builtin "isinstance") (fun xs H Q=>∃ x d T b,xs = [x,.ty T]∧RepD K H x d∧isaT (tyD d) T = some b∧Q (.bl b) H):=by
 subst hK
 intro pins s σ H xs us Q I r h
 obtain ⟨x,d,T,b,rfl,hd,e,q⟩:=h
 cases r with
 | cons r1 rr =>
  cases rr with
  | cons r2 rr =>
   cases rr
   cases (show _ = Value.type T from r2)
   have e':∀ {t:String},tyD d = t→PySem.W.kitOne X.K (.type t) (.type T) = some b:=fun {t} z=>by rw [← z]; exact b1v.trans e
   have fin:∀ tk,EP X pins σ Q (.bool b) { s with toks:=tk }:=fun tk=>⟨.bl b,H,I.tok tk,rfl,q⟩
   cases d with
   | non=>unfold RepD at hd; subst hd; exact i0h I r1 .non (e' rfl) fin
   | bl y=>unfold RepD at hd; subst hd; exact i0h I r1 (.bl y) (e' rfl) fin
   | int y=>unfold RepD at hd; subst hd; exact i0h I r1 (.int y) (e' rfl) fin
   | str y=>unfold RepD at hd; subst hd; exact i0h I r1 (.str y) (e' rfl) fin
   | tup ds =>
    unfold RepD at hd
    obtain ⟨a,vs,rfl,hq,_⟩:=hd
    cases r1
    obtain ⟨its,_,⟨o,h1,h2,_⟩,_⟩:=I.tuple hq.sq
    exact PySem.W.kia_one PySem.W.kitx_tuple I.kIn ⟨o,h1,h2⟩ (e' rfl) (fun z=>nomatch z) fin
   | lst ds =>
    unfold RepD at hd
    obtain ⟨a,vs,rfl,hq,_⟩:=hd
    cases r1
    obtain ⟨its,_,⟨o,n,h1,h2,_⟩,_⟩:=I.list (StL.sq hq)
    exact PySem.W.kia_one PySem.W.kitx_list I.kIn ⟨o,h1,h2⟩ (e' rfl) (fun z=>nomatch z) fin
def f0c (K:PySem.W.Frag) (H:Hp):List V→List (Nat × Nat)→Prop
 | [],[]=>True
 | v :: vs,p :: ps=>(∃ a,v = .ref a∧StT H a [.int (p.1:Nat),.int (p.2:Nat)])∧f0c K H vs ps
 | _,_=>False
section
variable {K:PySem.W.Frag} {H H':Hp}
def s0r (K:PySem.W.Frag) (H H':Hp):Prop:=∀ a xs,StT H a xs→StT H' a xs
theorem s0r.trans {H1:Hp} (a:s0r K H H1) (b:s0r K H1 H'):s0r K H H':=fun x xs q=>b x xs (a x xs q)
theorem f0c.keep (k:s0r K H H'):∀ {vs:List V} {ps:List (Nat × Nat)},f0c K H vs ps→f0c K H' vs ps
 | [],[],_=>trivial
 | v :: vs,p :: ps,⟨⟨a,e,h⟩,t⟩=>⟨⟨a,e,k _ _ h⟩,t.keep k⟩
 | [],_ :: _,h=>h.elim
 | _ :: _,[],h=>h.elim
theorem f0c.snoc {v:V} {p:Nat × Nat} (hv:∃ a,v = .ref a∧StT H a [.int (p.1:Nat),.int (p.2:Nat)]):∀ {vs:List V} {ps:List (Nat × Nat)},f0c K H vs ps→f0c K H (vs ++ [v]) (ps ++ [p])
 | [],[],_=>⟨hv,trivial⟩
 | _ :: _,_ :: _,⟨h,t⟩=>⟨h,t.snoc hv⟩
 | [],_ :: _,h=>h.elim
 | _ :: _,[],h=>h.elim
theorem f0c.length:∀ {vs:List V} {ps:List (Nat × Nat)},f0c K H vs ps→vs.length = ps.length
 | [],[],_=>rfl
 | _ :: _,_ :: _,⟨_,t⟩=>by rw [List.length_cons,List.length_cons,t.length]
 | [],_ :: _,h=>h.elim
 | _ :: _,[],h=>h.elim
theorem Grow.keepT {t:Addr} {kvs:List (Key × V)} (g:Grow t H H') (ht:H t = some (.dK kvs)):s0r K H H':=fun _ _ q=>g _ _ q (j0l q ht (by intro z; cases z))
theorem Same.keepT (s:Same H H'):s0r K H H':=fun _ _ q=>s _ _ q
end
structure Mid (K:PySem.W.Frag) (t lr lj:Addr) (m:Nat) (js:List (Nat × Nat)) (H0 H:Hp):Prop where
 rows:H lr = some (.lst (i1u (js.foldl f0l (b0t m))))
 joins:∃ ps,H lj = some (.lst ps)∧f0c K H ps js
 ok:okJs (b0t m) js
 gr:Grow t H0 H
 fr:H0 lr = none
 fj:H0 lj = none
 ne:lr ≠ lj
 td:∃ kvs,H t = some (.dK kvs)
theorem Mid.grow {K:PySem.W.Frag} {t lr lj:Addr} {m:Nat} {js:List (Nat × Nat)} {H0 H H':Hp} (M:Mid K t lr lj m js H0 H) (g:Grow t H H') (T:∃ kvs,H' t = some (.dK kvs)):Mid K t lr lj m js H0 H':=by
 obtain ⟨kvs,ht⟩:=M.td
 obtain ⟨ps,h1,h2⟩:=M.joins
 exact ⟨g _ _ M.rows (j0l M.rows ht (by intro z; cases z)),⟨ps,g _ _ h1 (j0l h1 ht (by intro z; cases z)),h2.keep (g.keepT ht)⟩,M.ok,M.gr.trans g,M.fr,M.fj,M.ne,T⟩
theorem Mid.len {K:PySem.W.Frag} {t lr lj:Addr} {m:Nat} {js:List (Nat × Nat)} {H0 H:Hp} (M:Mid K t lr lj m js H0 H):(i1u (js.foldl f0l (b0t m))).length = m + js.length:=by
 rw [List.length_map,c1j,r0g]
inductive Sv where
 | un | vl (d:D) | ow (ds:List D) | tp (n:Nat) | dk (kvs:List (Key × D)) | dt (kvs:List (List Key × D)) | ex (C:Addr) (fs:Option (List (Str × D))) | sc (ns:List Int) | px (d:D) (C:Addr) (fs:Option (List (Str × D)))
def Sv.own:Sv→Bool
 | .ow _=>true
 | .tp _=>true
 | .dk _=>true
 | .dt _=>true
 | _=>false
abbrev En:=List Sv
inductive R where
 | d (d:D) | o (i:Nat) | n (s:Sv) | t (n:String) | x (s:Sv)
abbrev R.f (ds:List D):R:=.n (.ow ds)
def gt:En→Nat→Sv
 | [],_=>.un
 | s :: _,0=>s
 | _ :: r,n + 1=>gt r n
def pt:En→Nat→Sv→En
 | [],_,_=>[]
 | _ :: r,0,s=>s :: r
 | x :: r,n + 1,s=>x :: pt r n s
theorem h0e:∀ (ρ:En) (i:Nat) (s:Sv),(pt ρ i s).length = ρ.length
 | [],_,_=>rfl
 | _ :: _,0,_=>rfl
 | x :: r,n + 1,s=>by simp [pt,h0e r n s]
theorem c0k:∀ (ρ:En) (i j:Nat) (s:Sv),i ≠ j→gt (pt ρ i s) j = gt ρ j
 | [],_,_,_,_=>rfl
 | _ :: _,0,0,_,h=>absurd rfl h
 | _ :: _,0,j + 1,_,_=>rfl
 | x :: r,i + 1,0,s,_=>rfl
 | x :: r,i + 1,j + 1,s,h=>c0k r i j s (by omega)
theorem n0x:∀ (ρ:En) (i:Nat) (s:Sv),i < ρ.length→gt (pt ρ i s) i = s
 | [],_,_,h=>by simp at h
 | _ :: _,0,_,_=>rfl
 | x :: r,i + 1,s,h=>n0x r i s (by simpa using h)
theorem m0t:∀ (ρ:En) (i:Nat),ρ.length ≤ i→gt ρ i = .un
 | [],_,_=>rfl
 | x :: r,0,h=>by simp at h
 | x :: r,i + 1,h=>m0t r i (by simpa using h)
theorem i0b {ρ:En} {i:Nat} (h:(gt ρ i).own = true):i < ρ.length:=by
 rcases Nat.lt_or_ge i ρ.length with q | q
 ·exact q
 ·rw [m0t ρ i q] at h; cases h
def b0q (σ:St) (ρ:En) (a:Addr):Prop:=∃ i,(gt ρ i).own = true∧σ[i]? = some (some (.ref a))
open Classical in
noncomputable def hid (H:Hp) (S:Addr→Prop):Hp:=fun a=>if S a then none else H a
theorem d0b {H:Hp} {S:Addr→Prop} {a:Addr} {o:HO}:hid H S a = some o↔¬ S a∧H a = some o:=by
 unfold hid
 split
 ·rename_i h; simp [h]
 ·rename_i h; simp [h]
theorem f0h {H:Hp} {S:Addr→Prop} {a:Addr} {o:HO} (h:¬ S a) (e:H a = some o):hid H S a = some o:=d0b.mpr ⟨h,e⟩
theorem b0k {H H':Hp} {S S':Addr→Prop} (h:∀ a o,H a = some o→¬ S a→H' a = some o∧¬ S' a):Same (hid H S) (hid H' S'):=fun a o e=>by
 obtain ⟨n,e⟩:=d0b.mp e
 obtain ⟨e',n'⟩:=h a o e n
 exact f0h n' e'
theorem c0j {H:Hp} {S:Addr→Prop}:Same (hid H S) H:=fun a o e=>(d0b.mp e).2
structure Fr where
 H0:Hp
 Z:Addr→Prop
 M:Addr→Prop
 I:Nat→Addr→Prop
 P:Nat→Addr→Prop
def Fr.pin (F:Fr) (i:Nat) (a:Addr):Prop:=F.I i a ∨ F.P i a
def hs (F:Fr) (σ:St) (ρ:En):Addr→Prop:=fun a=>F.Z a ∨ b0q σ ρ a
def exP (e C:Addr) (od:Option Addr):Heap→Prop:=fun h=>∃ oe vs,h.get? e = some oe∧oe.cls = .ref C∧oe.dict = od∧oe.data = .fields vs
def exD (K:PySem.W.Frag) (Hh:Hp):Option (List (Str × D))→Option Addr→Prop
 | none,none=>True
 | some fs,some dx=>∃ ks,Hh dx = some (.xd ks)∧ks.map Prod.fst = fs.map Prod.fst∧RepDs K Hh (ks.map Prod.snd) (fs.map Prod.snd)
 | _,_=>False
theorem exD.same {K:PySem.W.Frag} {Hh Hh':Hp}:∀ {fs:Option (List (Str × D))} {od:Option Addr},exD K Hh fs od→Same Hh Hh'→exD K Hh' fs od
 | none,none,h,_=>h
 | some fs,some dx,⟨ks,h1,h2,h3⟩,g=>⟨ks,g _ _ h1,h2,h3.same g⟩
 | none,some _,h,_=>h.elim
 | some _,none,h,_=>h.elim
def SvOk (K:PySem.W.Frag) (Hh H:Hp) (v:Option (Option V)):Sv→Prop
 | .px d C fs=>∃ p x e od,v = some (some (.ref p))∧Hh p = some (.tup [x,.ref e])∧RepD K Hh x d∧Hh e = some (.ext (exP e C od))∧exD K Hh fs od
 | .sc ns=>∃ c,v = some (some (.ref c))∧SqL K Hh c (List.map V.int ns)
 | .ex C fs=>∃ e od,v = some (some (.ref e))∧Hh e = some (.ext (exP e C od))∧exD K Hh fs od
 | .un=>True
 | .vl d=>∃ x,v = some (some x)∧RepD K Hh x d
 | .ow ds=>∃ l vs,v = some (some (.ref l))∧H l = some (.lst vs)∧RepDs K Hh vs ds
 | .tp n=>∃ t c ns sp lf,v = some (some (.ref t))∧H t = some (.dK (c0r c sp lf))∧SqL K Hh c (List.map V.int ns)∧0 ≤ sp∧sp ≤ n∧0 ≤ lf
 | .dk kvs=>∃ t ks,v = some (some (.ref t))∧H t = some (.dK ks)∧ks.map Prod.fst = kvs.map Prod.fst∧RepDs K Hh (ks.map Prod.snd) (kvs.map Prod.snd)
 | .dt kvs=>∃ t ks,v = some (some (.ref t))∧H t = some (.dT ks)∧ks.map Prod.fst = kvs.map Prod.fst∧RepDs K Hh (ks.map Prod.snd) (kvs.map Prod.snd)
theorem SvOk.keep {K:PySem.W.Frag} {Hh Hh' H H':Hp} {v:Option (Option V)} {s:Sv} (h:SvOk K Hh H v s) (g:Same Hh Hh') (k:∀ l o,s.own = true→v = some (some (.ref l))→H l = some o→H' l = some o):SvOk K Hh' H' v s:=by
 cases s with
 | un=>trivial
 | vl d=>obtain ⟨x,e,r⟩:=h; exact ⟨x,e,r.same g⟩
 | ow ds=>obtain ⟨l,vs,e,a,r⟩:=h; exact ⟨l,vs,e,k _ _ rfl e a,r.same g⟩
 | tp n=>obtain ⟨t,c,ns,sp,lf,e,a,b,r⟩:=h; exact ⟨t,c,ns,sp,lf,e,k _ _ rfl e a,g.seq b,r⟩
 | dk kvs=>obtain ⟨t,ks,e,a,b,r⟩:=h; exact ⟨t,ks,e,k _ _ rfl e a,b,r.same g⟩
 | dt kvs=>obtain ⟨t,ks,e,a,b,r⟩:=h; exact ⟨t,ks,e,k _ _ rfl e a,b,r.same g⟩
 | ex C fs=>obtain ⟨t,od,e,a,b⟩:=h; exact ⟨t,od,e,g _ _ a,b.same g⟩
 | sc ns=>obtain ⟨c,e,a⟩:=h; exact ⟨c,e,g.seq a⟩
 | px d C fs=>obtain ⟨p,x,e,od,a,b,c,d',e'⟩:=h; exact ⟨p,x,e,od,a,g _ _ b,c.same g,g _ _ d',e'.same g⟩
theorem SvOk.alive {K:PySem.W.Frag} {Hh H:Hp} {v:Option (Option V)} {s:Sv} (h:SvOk K Hh H v s) (ho:s.own = true):∃ l o,v = some (some (.ref l))∧H l = some o:=by
 cases s with
 | un=>cases ho
 | vl d=>cases ho
 | ow ds=>obtain ⟨l,vs,e,a,r⟩:=h; exact ⟨l,_,e,a⟩
 | tp n=>obtain ⟨t,c,ns,sp,lf,e,a,b,r⟩:=h; exact ⟨t,_,e,a⟩
 | dk kvs=>obtain ⟨t,ks,e,a,b,r⟩:=h; exact ⟨t,_,e,a⟩
 | dt kvs=>obtain ⟨t,ks,e,a,b,r⟩:=h; exact ⟨t,_,e,a⟩
 | ex C fs=>cases ho
 | sc ns=>cases ho
 | px d C fs=>cases ho
def Nt (H:Hp) (a:Addr):Prop:=H a ≠ none∧∀ xs,H a ≠ some (.tup xs)
theorem i1s {H:Hp} {a l:Addr} {o:HO} (al:a ≠ l) (h:Nt H a):Nt (upd H l o) a:=by unfold Nt; rw [a0l al]; exact h
structure Rel (K:PySem.W.Frag) (F:Fr) (σ:St) (ρ:En) (H:Hp):Prop where
 len:σ.length = ρ.length
 fr:∀ a o,F.H0 a = some o→¬ F.M a→H a = some o
 zl:∀ a,F.Z a→Nt H a
 zo:∀ a,b0q σ ρ a→¬ F.Z a
 ow:∀ i a,(gt ρ i).own = true→σ[i]? = some (some (.ref a))→(F.I i a∧F.M a) ∨ F.H0 a = none
 mi:∀ i a,F.pin i a→σ[i]? = some (some (.ref a))
 ml:∀ a,F.M a→F.H0 a ≠ none
 ma:∀ a,F.M a→H a ≠ none
 nd:∀ i j a,(gt ρ i).own = true→(gt ρ j).own = true→σ[i]? = some (some (.ref a))→σ[j]? = some (some (.ref a))→i = j
 sl:∀ i,SvOk K (hid H (hs F σ ρ)) H σ[i]? (gt ρ i)
structure Kp (σ:St) (ρ ρ':En) (H H':Hp):Prop where
 st:∀ a o,H a = some o→¬ b0q σ ρ a→H' a = some o
 sb:∀ i,(gt ρ' i).own = true→(gt ρ i).own = true
theorem Kp.so {σ:St} {ρ ρ':En} {H H':Hp} (k:Kp σ ρ ρ' H H') {a:Addr} (h:b0q σ ρ' a):b0q σ ρ a:=by
 obtain ⟨i,hi,e⟩:=h
 exact ⟨i,k.sb i hi,e⟩
theorem Kp.refl {σ:St} {ρ:En} {H:Hp}:Kp σ ρ ρ H H:=⟨fun _ _ e _=>e,fun _ h=>h⟩
theorem Kp.trans {σ:St} {ρ ρ1 ρ2:En} {H H1 H2:Hp} (a:Kp σ ρ ρ1 H H1) (b:Kp σ ρ1 ρ2 H1 H2):Kp σ ρ ρ2 H H2 :=
 ⟨fun x o e n=>b.st x o (a.st x o e n) fun z=>n (a.so z),fun x z=>a.sb x (b.sb x z)⟩
theorem Kp.fresh {σ:St} {ρ:En} {H:Hp} {l:Addr} {o:HO} (h:H l = none):Kp σ ρ ρ H (upd H l o) :=
 ⟨fun a u e _=>by rw [a0l (b0c e h)]; exact e,fun _ h=>h⟩
section
variable {K:PySem.W.Frag} {F:Fr} {σ:St} {ρ ρ':En} {H H':Hp}
theorem e0q (r:Rel K F σ ρ H) {a:Addr} (h:b0q σ ρ a):H a ≠ none:=by
 obtain ⟨i,hi,e⟩:=h
 obtain ⟨l,o,e',h'⟩:=(r.sl i).alive hi
 rw [e] at e'; injection e' with e'; injection e' with e'; injection e' with e'
 rw [e',h']; exact fun z=>nomatch z
theorem t0x (r:Rel K F σ ρ H) {a:Addr} (h:hs F σ ρ a):H a ≠ none:=by
 rcases h with h | h
 ·exact (r.zl a h).1
 ·exact e0q r h
theorem SvOk.nt {K:PySem.W.Frag} {Hh H:Hp} {v:Option (Option V)} {s:Sv} (h:SvOk K Hh H v s) (ho:s.own = true):∃ l,v = some (some (.ref l))∧Nt H l:=by
 cases s with
 | un=>cases ho
 | vl d=>cases ho
 | ow ds=>obtain ⟨l,vs,e,a,r⟩:=h; exact ⟨l,e,by rw [a]; exact (fun z=>nomatch z),by rw [a]; exact fun _ z=>nomatch z⟩
 | tp n=>obtain ⟨l,c,ns,sp,lf,e,a,b,r⟩:=h; exact ⟨l,e,by rw [a]; exact (fun z=>nomatch z),by rw [a]; exact fun _ z=>nomatch z⟩
 | dk kvs=>obtain ⟨l,ks,e,a,b,r⟩:=h; exact ⟨l,e,by rw [a]; exact (fun z=>nomatch z),by rw [a]; exact fun _ z=>nomatch z⟩
 | dt kvs=>obtain ⟨l,ks,e,a,b,r⟩:=h; exact ⟨l,e,by rw [a]; exact (fun z=>nomatch z),by rw [a]; exact fun _ z=>nomatch z⟩
 | ex C fs=>cases ho
 | sc ns=>cases ho
 | px d C fs=>cases ho
theorem t0n (r:Rel K F σ ρ H) {a:Addr} (h:b0q σ ρ a):Nt H a:=by
 obtain ⟨i,hi,e⟩:=h
 obtain ⟨l,e',h'⟩:=(r.sl i).nt hi
 rw [e] at e'; injection e' with e'; injection e' with e'; injection e' with e'
 rw [e']; exact h'
theorem c1a (r:Rel K F σ ρ H) {a:Addr} (h:hs F σ ρ a):Nt H a:=by
 rcases h with h | h
 ·exact r.zl a h
 ·exact t0n r h
theorem g0o (r:Rel K F σ ρ H) {l:Addr} (h:H l = none):¬ hs F σ ρ l:=fun z=>t0x r z h
theorem c1i (r:Rel K F σ ρ H) {l:Addr} (h:H l = none):F.H0 l = none:=by
 cases h0:F.H0 l with
 | none=>rfl
 | some o =>
  by_cases q:F.M l
  ·exact absurd h (r.ma l q)
  ·have:=r.fr l o h0 q
   rw [h] at this; cases this
theorem Kp.vis (k:Kp σ ρ ρ' H H'):Same (hid H (hs F σ ρ)) (hid H' (hs F σ ρ')):=b0k fun a o e n =>
 ⟨k.st a o e fun z=>n (.inr z),fun z=>by
  rcases z with z | z
  ·exact n (.inl z)
  ·exact n (.inr (k.so z))⟩
theorem v0p {a:Addr} (g:Same H H') (h:H a ≠ none):H' a ≠ none:=fun e=>by
 cases h':H a with
 | none=>exact h h'
 | some o=>rw [g a o h'] at e; cases e
theorem f1z {a:Addr} (g:Same H H') (h:Nt H a):Nt H' a:=by
 cases h':H a with
 | none=>exact (h.1 h').elim
 | some o =>
  have e:=g a o h'
  unfold Nt
  rw [e,← h']; exact h
theorem Rel.grow (r:Rel K F σ ρ H) (g:Same H H'):Rel K F σ ρ H' where
 len:=r.len
 fr:=fun a o e n=>g a o (r.fr a o e n)
 zl:=fun a z=>f1z g (r.zl a z)
 zo:=r.zo
 ow:=r.ow
 mi:=r.mi
 ml:=r.ml
 ma:=fun a z=>v0p g (r.ma a z)
 nd:=r.nd
 sl:=fun i=>(r.sl i).keep (b0k fun a o e n=>⟨g a o e,n⟩) fun l o _ _ e=>g l o e
theorem Rel.fresh (r:Rel K F σ ρ H) {l:Addr} {o:HO} (h:H l = none):Rel K F σ ρ (upd H l o):=r.grow ((Same.refl H).new h)
theorem t0f:∀ (ρ:En) (i:Nat) (s:Sv),ρ.length ≤ i→pt ρ i s = ρ
 | [],_,_,_=>rfl
 | x :: r,0,s,h=>by simp at h
 | x :: r,i + 1,s,h=>by simp [pt,t0f r i s (by simpa using h)]
theorem e0c {i j:Nat} {s:Sv} (hs:s.own = false) (hj:(gt (pt ρ i s) j).own = true):i ≠ j∧(gt ρ j).own = true:=by
 by_cases ij:i = j
 ·subst ij
  rcases Nat.lt_or_ge i ρ.length with q | q
  ·rw [n0x ρ i s q,hs] at hj; cases hj
  ·rw [m0t _ i (by rw [h0e]; exact q)] at hj; cases hj
 ·rw [c0k ρ i j s ij] at hj
  exact ⟨ij,hj⟩
theorem Rel.setS (r:Rel K F σ ρ H) {i:Nat} {v:V} {s:Sv} (hs':s.own = false) (hd:SvOk K (hid H (hs F σ ρ)) H (some (some v)) s) (hm:∀ a,¬ F.pin i a):Rel K F (σ.set i (some v)) (pt ρ i s) H:=by
 rcases Nat.lt_or_ge i ρ.length with hi | hi
 case inr =>
  rw [t0f ρ i s hi,List.set_eq_of_length_le (by rw [r.len]; exact hi)]; exact r
 have sub:∀ a,b0q (σ.set i (some v)) (pt ρ i s) a→b0q σ ρ a:=fun a ⟨j,hj,e⟩=>by
  obtain ⟨ij,hj⟩:=e0c hs' hj
  rw [List.getElem?_set_ne ij] at e
  exact ⟨j,hj,e⟩
 have vis:Same (hid H (hs F σ ρ)) (hid H (hs F (σ.set i (some v)) (pt ρ i s))):=b0k fun a o e n=>⟨e,fun z=>n (z.imp id (sub a))⟩
 refine ⟨by rw [List.length_set,h0e,r.len],r.fr,r.zl,fun a h=>r.zo a (sub a h),fun j a hj e=>?_,fun j a h=>?_,r.ml,r.ma,fun j k a hj hk ej ek=>?_,fun j=>?_⟩
 ·obtain ⟨ij,hj⟩:=e0c hs' hj
  rw [List.getElem?_set_ne ij] at e
  exact r.ow j a hj e
 ·have:i ≠ j:=fun e=>hm a (e ▸ h)
  rw [List.getElem?_set_ne this]; exact r.mi j a h
 ·obtain ⟨nj,hj⟩:=e0c hs' hj
  obtain ⟨nk,hk⟩:=e0c hs' hk
  rw [List.getElem?_set_ne nj] at ej
  rw [List.getElem?_set_ne nk] at ek
  exact r.nd j k a hj hk ej ek
 ·by_cases ij:i = j
  ·subst ij
   rw [n0x ρ i _ hi,List.getElem?_set_self (by rw [r.len]; exact hi)]
   exact hd.keep vis fun l o ho=>by rw [hs'] at ho; cases ho
  ·rw [c0k ρ i j _ ij,List.getElem?_set_ne ij]
   exact (r.sl j).keep vis fun l o _ _ e=>e
theorem Rel.set (r:Rel K F σ ρ H) {i:Nat} {v:V} {d:D} (hd:RepD K (hid H (hs F σ ρ)) v d) (hm:∀ a,¬ F.pin i a):Rel K F (σ.set i (some v)) (pt ρ i (.vl d)) H :=
 r.setS rfl ⟨v,rfl,hd⟩ hm
theorem Rel.setF (r:Rel K F σ ρ H) {i:Nat} {l:Addr} {o:HO} {s:Sv} (hs':s.own = true) (hd:SvOk K (hid H (hs F σ ρ)) (upd H l o) (some (some (.ref l))) s) (hn:H l = none) (hm:∀ a,¬ F.pin i a) :
  Rel K F (σ.set i (some (.ref l))) (pt ρ i s) (upd H l o):=by
 have rf:=r.fresh (o:=o) hn
 rcases Nat.lt_or_ge i ρ.length with hi | hi
 case inr =>
  rw [t0f ρ i s hi,List.set_eq_of_length_le (by rw [r.len]; exact hi)]; exact rf
 have at1:∀ {a},(σ.set i (some (V.ref l)))[i]? = some (some (.ref a))→a = l:=fun e=>by
  rw [List.getElem?_set_self (by rw [r.len]; exact hi)] at e
  injection e with e; injection e with e; injection e with e
  exact e.symm
 have sub:∀ a,b0q (σ.set i (some (.ref l))) (pt ρ i s) a→b0q σ ρ a ∨ a = l:=fun a h=>by
  obtain ⟨j,hj,e⟩:=h
  by_cases ij:i = j
  ·subst ij; exact .inr (at1 e)
  ·rw [c0k ρ i j _ ij] at hj
   rw [List.getElem?_set_ne ij] at e
   exact .inl ⟨j,hj,e⟩
 have vis:Same (hid H (hs F σ ρ)) (hid (upd H l o) (hs F (σ.set i (some (.ref l))) (pt ρ i s))):=b0k fun a u e n=>by
  have al:=b0c e hn
  refine ⟨by rw [a0l al]; exact e,fun z=>?_⟩
  rcases z with z | z
  ·exact n (.inl z)
  ·rcases sub a z with z | z
   ·exact n (.inr z)
   ·exact al z
 have nol:∀ j,(gt ρ j).own = true→σ[j]? ≠ some (some (.ref l)):=fun j hj e=>e0q r ⟨j,hj,e⟩ hn
 refine ⟨by rw [List.length_set,h0e,r.len],rf.fr,rf.zl,fun a h=>?_,fun j a hj e=>?_,fun j a h=>?_,r.ml,rf.ma,fun j k a hj hk ej ek=>?_,fun j=>?_⟩
 ·rcases sub a h with h | h
  ·exact r.zo a h
  ·subst h; exact fun z=>(r.zl _ z).1 hn
 ·by_cases ij:i = j
  ·subst ij
   rw [at1 e]; exact .inr (c1i r hn)
  ·rw [c0k ρ i j _ ij] at hj
   rw [List.getElem?_set_ne ij] at e
   exact r.ow j a hj e
 ·have:i ≠ j:=fun e=>hm a (e ▸ h)
  rw [List.getElem?_set_ne this]; exact r.mi j a h
 ·by_cases nj:i = j
  ·by_cases nk:i = k
   ·omega
   ·subst nj
    have:=at1 ej
    subst this
    rw [c0k ρ i k _ nk] at hk
    rw [List.getElem?_set_ne nk] at ek
    exact absurd ek (nol k hk)
  ·rw [c0k ρ i j _ nj] at hj
   rw [List.getElem?_set_ne nj] at ej
   by_cases nk:i = k
   ·subst nk
    have:=at1 ek
    subst this
    exact absurd ej (nol j hj)
   ·rw [c0k ρ i k _ nk] at hk
    rw [List.getElem?_set_ne nk] at ek
    exact r.nd j k a hj hk ej ek
 ·by_cases ij:i = j
  ·subst ij
   rw [n0x ρ i _ hi,List.getElem?_set_self (by rw [r.len]; exact hi)]
   exact hd.keep vis fun _ _ _ _ e=>e
  ·rw [c0k ρ i j _ ij,List.getElem?_set_ne ij]
   exact (r.sl j).keep vis fun a o ho e h=>by
    rw [a0l (b0c h hn)]; exact h
theorem Rel.write (r:Rel K F σ ρ H) {i:Nat} {l:Addr} {o:HO} {s:Sv} (hi:(gt ρ i).own = true) (el:σ[i]? = some (some (.ref l))) (hs':s.own = true) (new:SvOk K (hid H (hs F σ ρ)) (upd H l o) (some (some (.ref l))) s):Rel K F σ (pt ρ i s) (upd H l o)∧Kp σ ρ (pt ρ i s) H (upd H l o):=by
 have lt:=i0b hi
 have own':∀ j,(gt (pt ρ i s) j).own = true→(gt ρ j).own = true:=fun j h=>by
  by_cases ij:i = j
  ·subst ij; exact hi
  ·rw [c0k ρ i j _ ij] at h; exact h
 have sub:∀ a,b0q σ (pt ρ i s) a→b0q σ ρ a:=fun a ⟨j,hj,e⟩=>⟨j,own' j hj,e⟩
 have hso:b0q σ ρ l:=⟨i,hi,el⟩
 have vis:Same (hid H (hs F σ ρ)) (hid (upd H l o) (hs F σ (pt ρ i s))):=b0k fun a u e n=>by
  have al:a ≠ l:=fun z=>n (.inr (z ▸ hso))
  exact ⟨by rw [a0l al]; exact e,fun z=>n (z.imp id (sub a))⟩
 have up:∀ {a},H a ≠ none→(upd H l o) a ≠ none:=fun {a} h e=>by
  by_cases al:a = l
  ·subst al; rw [a0v] at e; cases e
  ·rw [a0l al] at e; exact h e
 refine ⟨⟨by rw [h0e,r.len],fun a u e n=>?_,fun a z=>i1s (fun q=>r.zo l hso (q ▸ z)) (r.zl a z),fun a h=>r.zo a (sub a h),fun j a hj e=>r.ow j a (own' j hj) e,r.mi,r.ml,fun a z=>up (r.ma a z),fun j k a hj hk ej ek=>r.nd j k a (own' j hj) (own' k hk) ej ek,fun j=>?_⟩,⟨fun a u e n=>?_,own'⟩⟩
 ·have al:a ≠ l:=fun z=>by
   subst z
   rcases r.ow i _ hi el with ⟨_,q⟩ | q
   ·exact n q
   ·rw [e] at q; cases q
  rw [a0l al]; exact r.fr a u e n
 ·by_cases ij:i = j
  ·subst ij
   rw [n0x ρ i s lt,el]
   exact new.keep vis fun _ _ _ _ e=>e
  ·rw [c0k ρ i j _ ij]
   refine (r.sl j).keep vis fun a u ho e h=>?_
   have al:a ≠ l:=fun z=>ij (r.nd i j l hi ho el (z ▸ e))
   rw [a0l al]; exact h
 ·have al:a ≠ l:=fun z=>n (z ▸ hso)
  rw [a0l al]; exact e
theorem Rel.frz (r:Rel K F σ ρ H) {i:Nat} {ds:List D} (hi:gt ρ i = .ow ds):∃ l,σ[i]? = some (some (.ref l))∧Rel K F σ (pt ρ i (.vl (.lst ds))) H∧Kp σ ρ (pt ρ i (.vl (.lst ds))) H H∧RepD K (hid H (hs F σ (pt ρ i (.vl (.lst ds))))) (.ref l) (.lst ds):=by
 have ho:(gt ρ i).own = true:=by rw [hi]; rfl
 have lt:=i0b ho
 have q:=r.sl i
 rw [hi] at q
 obtain ⟨l,vs,el,hl,hd⟩:=q
 have own':∀ j,(gt (pt ρ i (.vl (.lst ds))) j).own = true→i ≠ j∧(gt ρ j).own = true:=fun j h=>e0c rfl h
 have sub:∀ a,b0q σ (pt ρ i (.vl (.lst ds))) a→b0q σ ρ a∧a ≠ l:=fun a ⟨j,hj,e⟩=>by
  obtain ⟨ij,hj⟩:=own' j hj
  exact ⟨⟨j,hj,e⟩,fun z=>ij (r.nd i j l ho hj el (z ▸ e))⟩
 have vis:Same (hid H (hs F σ ρ)) (hid H (hs F σ (pt ρ i (.vl (.lst ds))))):=b0k fun a u e n=>⟨e,fun z=>n (z.imp id fun z=>(sub a z).1)⟩
 have vl:¬ hs F σ (pt ρ i (.vl (.lst ds))) l:=fun z=>by
  rcases z with z | z
  ·exact r.zo l ⟨i,ho,el⟩ z
  ·exact (sub l z).2 rfl
 have rd:RepD K (hid H (hs F σ (pt ρ i (.vl (.lst ds))))) (.ref l) (.lst ds):=by
  unfold RepD
  exact ⟨l,vs,rfl,f0h vl hl,hd.same vis⟩
 refine ⟨l,el,⟨by rw [h0e,r.len],r.fr,r.zl,fun a h=>r.zo a (sub a h).1,fun j a hj e=>r.ow j a (own' j hj).2 e,r.mi,r.ml,r.ma,fun j k a hj hk ej ek=>r.nd j k a (own' j hj).2 (own' k hk).2 ej ek,fun j=>?_⟩,⟨fun _ _ e _=>e,fun j h=>(own' j h).2⟩,rd⟩
 by_cases ij:i = j
 ·subst ij
  rw [n0x ρ i _ lt,el]
  exact ⟨_,rfl,rd⟩
 ·rw [c0k ρ i j _ ij]
  exact (r.sl j).keep vis fun a u _ _ h=>h
end
def RelR (K:PySem.W.Frag) (F:Fr) (σ:St) (ρ:En) (v:V) (H:Hp):R→Prop
 | .d d=>Rel K F σ ρ H∧RepD K (hid H (hs F σ ρ)) v d
 | .o i=>Rel K F σ ρ H∧σ[i]? = some (some v)
 | .n s=>∃ Hb l o,Rel K F σ ρ Hb∧s.own = true∧SvOk K (hid Hb (hs F σ ρ)) (upd Hb l o) (some (some (.ref l))) s∧Hb l = none∧H = upd Hb l o∧v = .ref l
 | .t n=>Rel K F σ ρ H∧v = .ty n
 | .x s=>Rel K F σ ρ H∧s.own = false∧SvOk K (hid H (hs F σ ρ)) H (some (some v)) s
def Out (K:PySem.W.Frag) (F:Fr) (σ:St) (ρ:En) (H:Hp) (ρ':En) (v:V) (H':Hp):R→Prop
 | .d d=>Rel K F σ ρ' H'∧Kp σ ρ ρ' H H'∧RepD K (hid H' (hs F σ ρ')) v d
 | .o i=>Rel K F σ ρ' H'∧Kp σ ρ ρ' H H'∧σ[i]? = some (some v)
 | .n s=>∃ Hb l o,Rel K F σ ρ' Hb∧Kp σ ρ ρ' H Hb∧s.own = true∧SvOk K (hid Hb (hs F σ ρ')) (upd Hb l o) (some (some (.ref l))) s∧Hb l = none∧H' = upd Hb l o∧v = .ref l
 | .t n=>Rel K F σ ρ' H'∧Kp σ ρ ρ' H H'∧v = .ty n
 | .x s=>Rel K F σ ρ' H'∧Kp σ ρ ρ' H H'∧s.own = false∧SvOk K (hid H' (hs F σ ρ')) H' (some (some v)) s
def InF (K:PySem.W.Frag) (F:Fr) (σ:St) (ρ:En) (H:Hp) (v:V):R→Prop
 | .d d=>RepD K (hid H (hs F σ ρ)) v d
 | .o i=>σ[i]? = some (some v)
 | .n _=>True
 | .t n=>v = .ty n
 | .x s=>s.own = false∧SvOk K (hid H (hs F σ ρ)) H (some (some v)) s
def R.frz:R→R
 | .n (.ow ds)=>.d (.lst ds)
 | r=>r
inductive InFs (K:PySem.W.Frag) (F:Fr) (σ:St) (ρ:En) (H:Hp):List V→List R→Prop
 | nil:InFs K F σ ρ H [] []
 | cons {v:V} {r:R} {vs:List V} {rs:List R}:InF K F σ ρ H v r→InFs K F σ ρ H vs rs→InFs K F σ ρ H (v :: vs) (r :: rs)
def view (ρ:En):R→Option D
 | .d d=>some d
 | .o i=>(match gt ρ i with | .ow ds=>some (.lst ds) | .vl d=>some d | _=>none)
 | _=>none
section
variable {K:PySem.W.Frag} {F:Fr} {σ:St} {ρ ρ':En} {H H':Hp} {v:V} {r:R}
theorem InF.keep (h:InF K F σ ρ H v r) (k:Kp σ ρ ρ' H H'):InF K F σ ρ' H' v r:=by
 cases r with
 | d d=>exact RepD.same h k.vis
 | o i=>exact h
 | n s=>exact h
 | t n=>exact h
 | x s=>exact ⟨h.1,h.2.keep k.vis fun l o ho=>by rw [h.1] at ho; cases ho⟩
theorem InFs.keep {vs:List V} {rs:List R} (h:InFs K F σ ρ H vs rs) (k:Kp σ ρ ρ' H H'):InFs K F σ ρ' H' vs rs:=by
 induction h with
 | nil=>exact .nil
 | cons a _ ih=>exact .cons (a.keep k) ih
theorem Out.inF (h:Out K F σ ρ H ρ' v H' r):Rel K F σ ρ' H'∧Kp σ ρ ρ' H H'∧InF K F σ ρ' H' v r.frz:=by
 cases r with
 | d d=>exact ⟨h.1,h.2.1,h.2.2⟩
 | o i=>exact ⟨h.1,h.2.1,h.2.2⟩
 | t n=>exact ⟨h.1,h.2.1,h.2.2⟩
 | x s=>exact ⟨h.1,h.2.1,h.2.2⟩
 | n s =>
  obtain ⟨Hb,l,o,a,k0,hs',b,c,rfl,rfl⟩:=h
  have k:Kp σ ρ' ρ' Hb (upd Hb l o):=Kp.fresh c
  refine ⟨a.fresh c,k0.trans k,?_⟩
  cases s with
  | un=>trivial
  | vl d=>trivial
  | tp n=>trivial
  | dk n=>trivial
  | dt n=>trivial
  | ex n m=>trivial
  | sc n=>trivial
  | px n m k=>trivial
  | ow ds =>
   obtain ⟨l',vs,e,h1,h2⟩:=b
   injection e with e; injection e with e; injection e with e; subst e
   show RepD K _ (.ref l) (.lst ds)
   unfold RepD
   exact ⟨l,vs,rfl,f0h (g0o a c) h1,h2.same k.vis⟩
theorem Out.rel (h:Out K F σ ρ H ρ' v H' r):RelR K F σ ρ' v H' r:=by
 cases r with
 | d d=>exact ⟨h.1,h.2.2⟩
 | o i=>exact ⟨h.1,h.2.2⟩
 | t n=>exact ⟨h.1,h.2.2⟩
 | x s=>exact ⟨h.1,h.2.2⟩
 | n s =>
  obtain ⟨Hb,l,o,a,k0,hs',b,c,e1,e2⟩:=h
  exact ⟨Hb,l,o,a,hs',b,c,e1,e2⟩
theorem Out.after {ρ1:En} {H1:Hp} (k:Kp σ ρ ρ1 H H1) (h:Out K F σ ρ1 H1 ρ' v H' r):Out K F σ ρ H ρ' v H' r:=by
 cases r with
 | d d=>exact ⟨h.1,k.trans h.2.1,h.2.2⟩
 | o i=>exact ⟨h.1,k.trans h.2.1,h.2.2⟩
 | t n=>exact ⟨h.1,k.trans h.2.1,h.2.2⟩
 | x s=>exact ⟨h.1,k.trans h.2.1,h.2.2⟩
 | n s =>
  obtain ⟨Hb,l,o,a,k0,hs',b,c,e1,e2⟩:=h
  exact ⟨Hb,l,o,a,k.trans k0,hs',b,c,e1,e2⟩
theorem e0h {d:D} (a:Rel K F σ ρ H) (h:InF K F σ ρ H v r) (e:view ρ r = some d):RepD K H v d:=by
 cases r with
 | d d'=>injection e with e; subst e; exact RepD.same h c0j
 | t n=>cases e
 | x s=>cases e
 | n s=>cases e
 | o i =>
  have q:=a.sl i
  unfold view at e
  cases hg:gt ρ i with
  | un=>simp [hg] at e
  | tp n=>simp [hg] at e
  | dk n=>simp [hg] at e
  | dt n=>simp [hg] at e
  | ex n m=>simp [hg] at e
  | sc n=>simp [hg] at e
  | px n m k=>simp [hg] at e
  | vl d' =>
   simp [hg] at e
   subst e
   rw [hg] at q
   obtain ⟨x,e1,r1⟩:=q
   rw [show σ[i]? = _ from h] at e1
   injection e1 with e1; injection e1 with e1; subst e1
   exact r1.same c0j
  | ow ds =>
   simp [hg] at e
   subst e
   rw [hg] at q
   obtain ⟨l,vs,e1,r1,r2⟩:=q
   rw [show σ[i]? = _ from h] at e1
   injection e1 with e1; injection e1 with e1; subst e1
   unfold RepD
   exact ⟨l,vs,rfl,r1,r2.same c0j⟩
theorem d0o {ds:List D} (a:Rel K F σ ρ H) (h:InF K F σ ρ H v r) (e:view ρ r = some (.lst ds)):∃ l vs,v = .ref l∧SqL K H l vs∧RepDs K (hid H (hs F σ ρ)) vs ds:=by
 cases r with
 | d d' =>
  injection e with e; subst e
  have h':RepD K _ v (.lst ds):=h
  unfold RepD at h'
  obtain ⟨l,vs,e,q,r⟩:=h'
  exact ⟨l,vs,e,c0j.seq (StL.sq q),r⟩
 | t n=>cases e
 | x s=>cases e
 | n s=>cases e
 | o i =>
  have q:=a.sl i
  unfold view at e
  cases hg:gt ρ i with
  | un=>simp [hg] at e
  | tp n=>simp [hg] at e
  | dk n=>simp [hg] at e
  | dt n=>simp [hg] at e
  | ex n m=>simp [hg] at e
  | sc n=>simp [hg] at e
  | px n m k=>simp [hg] at e
  | vl d' =>
   simp [hg] at e
   subst e
   rw [hg] at q
   obtain ⟨x,e1,r1⟩:=q
   rw [show σ[i]? = _ from h] at e1
   injection e1 with e1; injection e1 with e1; subst e1
   unfold RepD at r1
   obtain ⟨l,vs,e,q,r⟩:=r1
   exact ⟨l,vs,e,c0j.seq (StL.sq q),r⟩
  | ow ds =>
   simp [hg] at e
   subst e
   rw [hg] at q
   obtain ⟨l,vs,e1,r1,r2⟩:=q
   rw [show σ[i]? = _ from h] at e1
   injection e1 with e1; injection e1 with e1; subst e1
   exact ⟨l,vs,rfl,SqL.of r1,r2⟩
theorem h0s {ds:List D} (a:Rel K F σ ρ H) (h:InF K F σ ρ H v r) (e:view ρ r = some (.tup ds)):∃ l vs,v = .ref l∧SqT K H l vs∧RepDs K (hid H (hs F σ ρ)) vs ds∧StT (hid H (hs F σ ρ)) l vs:=by
 have go:∀ {x:V},RepD K (hid H (hs F σ ρ)) x (.tup ds)→∃ l vs,x = .ref l∧SqT K H l vs∧RepDs K (hid H (hs F σ ρ)) vs ds∧StT (hid H (hs F σ ρ)) l vs:=fun h'=>by
  unfold RepD at h'
  obtain ⟨l,vs,e,q,r⟩:=h'
  exact ⟨l,vs,e,c0j.seqT q.sq,r,q⟩
 cases r with
 | d d'=>injection e with e; subst e; exact go h
 | t n=>cases e
 | x s=>cases e
 | n s=>cases e
 | o i =>
  have q:=a.sl i
  unfold view at e
  cases hg:gt ρ i with
  | un=>simp [hg] at e
  | tp n=>simp [hg] at e
  | dk n=>simp [hg] at e
  | dt n=>simp [hg] at e
  | ex n m=>simp [hg] at e
  | sc n=>simp [hg] at e
  | px n m k=>simp [hg] at e
  | ow ds'=>simp [hg] at e
  | vl d' =>
   simp [hg] at e
   subst e
   rw [hg] at q
   obtain ⟨x,e1,r1⟩:=q
   rw [show σ[i]? = _ from h] at e1
   injection e1 with e1; injection e1 with e1; subst e1
   exact go r1
end
abbrev Ko:=R→En→Prop
abbrev AE:=En→Ko→Prop
abbrev AT:=En→(Bool→En→Prop)→Prop
abbrev AA:=En→(List R→En→Prop)→Prop
structure AEnds where
 nx:En→Prop
 rt:R→En→Prop
 bk:En→Prop
 ct:En→Prop
abbrev AS:=AEnds→En→Prop
def Beh (K:PySem.W.Frag) (F:Fr) (σ:St) (ρ:En) (H:Hp) (q:Ko) (Q:VK):Prop:=∀ r ρ' v H',q r ρ'→Out K F σ ρ H ρ' v H' r→Q v H'
def TEok (K:PySem.W.Frag) (t:TE) (a:AE):Prop:=∀ F σ ρ H q Q,Rel K F σ ρ H→a ρ q→Beh K F σ ρ H q Q→t σ H Q
def TTok (K:PySem.W.Frag) (t:TT) (a:AT):Prop:=∀ F σ ρ H q Q,Rel K F σ ρ H→a ρ q→(∀ b ρ' H',q b ρ'→Rel K F σ ρ' H'→Kp σ ρ ρ' H H'→Q b H')→t σ H Q
def TAok (K:PySem.W.Frag) (t:TA) (a:AA):Prop:=∀ F σ ρ H q Q,Rel K F σ ρ H→a ρ q→(∀ rs ρ' vs H',q rs ρ'→Rel K F σ ρ' H'→InFs K F σ ρ' H' vs rs→Kp σ ρ ρ' H H'→Q vs H')→t σ H Q
def OpOk (K:PySem.W.Frag) (r:R2) (g:R→R→AE):Prop:=∀ F σ ρ H x y r1 r2 q Q,Rel K F σ ρ H→InF K F σ ρ H x r1→InF K F σ ρ H y r2→g r1 r2 ρ q→Beh K F σ ρ H q Q→r x y H Q
def CbOk (K:PySem.W.Frag) (r:List V→Hp→VK→Prop) (g:List R→AE):Prop:=∀ F σ ρ H vs rs q Q,Rel K F σ ρ H→InFs K F σ ρ H vs rs→g rs ρ q→Beh K F σ ρ H q Q→r vs H Q
section
variable {K:PySem.W.Frag} {F:Fr} {σ:St} {ρ ρ':En} {H H':Hp} {v:V} {r:R} {q:Ko} {Q:VK}
theorem Beh.dat (b:Beh K F σ ρ H q Q) (a:Rel K F σ ρ H) {d:D} (hq:q (.d d) ρ) (h:RepD K (hid H (hs F σ ρ)) v d):Q v H:=b (.d d) ρ v H hq ⟨a,.refl,h⟩
theorem Beh.int (b:Beh K F σ ρ H q Q) (a:Rel K F σ ρ H) {i:Int} (hq:q (.d (.int i)) ρ):Q (.int i) H:=b.dat a hq (by unfold RepD; rfl)
theorem Beh.bl (b:Beh K F σ ρ H q Q) (a:Rel K F σ ρ H) {i:Bool} (hq:q (.d (.bl i)) ρ):Q (.bl i) H:=b.dat a hq (by unfold RepD; rfl)
theorem Beh.non (b:Beh K F σ ρ H q Q) (a:Rel K F σ ρ H) (hq:q (.d .non) ρ):Q .non H:=b.dat a hq (by unfold RepD; rfl)
theorem Beh.str (b:Beh K F σ ρ H q Q) (a:Rel K F σ ρ H) {x:Str} (hq:q (.d (.str x)) ρ):Q (.str x) H:=b.dat a hq (by unfold RepD; rfl)
theorem Beh.new (b:Beh K F σ ρ H q Q) (a:Rel K F σ ρ H) {ds:List D} {vs:List V} {l:Addr} (hq:q (.f ds) ρ) (hd:RepDs K (hid H (hs F σ ρ)) vs ds) (hl:H l = none):Q (.ref l) (upd H l (.lst vs)) :=
 b (.f ds) ρ _ _ hq ⟨H,l,_,a,.refl,rfl,⟨l,vs,rfl,a0v,hd⟩,hl,rfl,rfl⟩
theorem Beh.newT (b:Beh K F σ ρ H q Q) (a:Rel K F σ ρ H) {ds:List D} {vs:List V} {l:Addr} (hq:q (.d (.tup ds)) ρ) (hd:RepDs K (hid H (hs F σ ρ)) vs ds) (hl:H l = none):Q (.ref l) (upd H l (.tup vs)):=by
 have k:Kp σ ρ ρ H (upd H l (.tup vs)):=Kp.fresh hl
 refine b (.d (.tup ds)) ρ _ _ hq ⟨a.fresh hl,k,?_⟩
 unfold RepD
 exact ⟨l,vs,rfl,(f0h (g0o a hl) a0v),hd.same k.vis⟩
theorem Beh.after {ρ1:En} {H1:Hp} (b:Beh K F σ ρ H q Q) (k:Kp σ ρ ρ1 H H1):Beh K F σ ρ1 H1 q Q:=fun r ρ' v H' hq h=>b r ρ' v H' hq (.after k h)
def aVar (i:Nat):AE:=fun ρ q=>match gt ρ i with
 | .un=>False
 | .vl d=>q (.d d) ρ
 | .ow _=>q (.o i) ρ
 | .tp _=>q (.o i) ρ
 | .dk _=>q (.o i) ρ
 | .dt _=>q (.o i) ρ
 | .ex _ _=>q (.o i) ρ
 | .sc _=>q (.o i) ρ
 | .px _ _ _=>q (.o i) ρ
theorem a0b {i:Nat}:TEok K (tVar i) (aVar i):=by
 intro F σ ρ H q Q a h b
 have s:=a.sl i
 unfold aVar at h
 cases hg:gt ρ i with
 | un=>rw [hg] at h; exact h.elim
 | vl d =>
  rw [hg] at h s
  obtain ⟨x,e,r⟩:=s
  exact ⟨x,e,b _ _ _ _ h ⟨a,.refl,r⟩⟩
 | ow ds =>
  rw [hg] at h s
  obtain ⟨l,vs,e,_⟩:=s
  exact ⟨_,e,b _ _ _ _ h ⟨a,.refl,e⟩⟩
 | tp n =>
  rw [hg] at h s
  obtain ⟨l,c,ns,sp,lf,e,_⟩:=s
  exact ⟨_,e,b _ _ _ _ h ⟨a,.refl,e⟩⟩
 | dk kvs =>
  rw [hg] at h s
  obtain ⟨l,ks,e,_⟩:=s
  exact ⟨_,e,b _ _ _ _ h ⟨a,.refl,e⟩⟩
 | dt kvs =>
  rw [hg] at h s
  obtain ⟨l,ks,e,_⟩:=s
  exact ⟨_,e,b _ _ _ _ h ⟨a,.refl,e⟩⟩
 | ex C fs =>
  rw [hg] at h s
  obtain ⟨l,ks,e,_⟩:=s
  exact ⟨_,e,b _ _ _ _ h ⟨a,.refl,e⟩⟩
 | sc ns =>
  rw [hg] at h s
  obtain ⟨l,e,_⟩:=s
  exact ⟨_,e,b _ _ _ _ h ⟨a,.refl,e⟩⟩
 | px d C fs =>
  rw [hg] at h s
  obtain ⟨l,x,e',od,e,_⟩:=s
  exact ⟨_,e,b _ _ _ _ h ⟨a,.refl,e⟩⟩
def aC (r:R):AE:=fun ρ q=>q r ρ
theorem a0o {i:Int}:TEok K (tC (.int i)) (aC (.d (.int i))):=fun _ _ _ _ _ _ a h b=>b.int a h
theorem h0d {i:Bool}:TEok K (tC (.bl i)) (aC (.d (.bl i))):=fun _ _ _ _ _ _ a h b=>b.bl a h
theorem w0l {i:Str}:TEok K (tC (.str i)) (aC (.d (.str i))):=fun _ _ _ _ _ _ a h b=>b.str a h
theorem e0l:TEok K (tC .non) (aC (.d .non)):=fun _ _ _ _ _ _ a h b=>b.non a h
theorem w0k {n:String}:TEok K (tC (.ty n)) (aC (.t n)):=fun _ _ _ _ _ _ a h b=>b _ _ _ _ h ⟨a,.refl,rfl⟩
def aOp (g:R→R→AE) (a b:AE):AE:=fun ρ q=>a ρ fun r1 ρ1=>b ρ1 fun r2 ρ2=>g r1.frz r2.frz ρ2 q
variable {t t' ta tb tc:TE} {a b c:AE} {rr:R2} {g:R→R→AE}
theorem a0s (ho:OpOk K rr g) (ha:TEok K ta a) (hb:TEok K tb b):TEok K (tOp rr ta tb) (aOp g a b):=by
 intro F σ ρ H q Q r h k
 refine ha F σ ρ H _ _ r h fun r1 ρ1 x H1 h1 rel1=>?_
 obtain ⟨r',k1,i1⟩:=rel1.inF
 refine hb F σ ρ1 H1 _ _ r' h1 fun r2 ρ2 y H2 h2 rel2=>?_
 obtain ⟨r'',k2,i2⟩:=rel2.inF
 exact ho F σ ρ2 H2 x y _ _ q Q r'' (i1.keep k2) i2 h2 (k.after (k1.trans k2))
def gI (C:Int→Int→Prop) (f:Int→Int→D):R→R→AE:=fun r1 r2 ρ q=>match r1,r2 with
 | .d (.int i),.d (.int j)=>C i j∧q (.d (f i j)) ρ
 | _,_=>False
theorem j1m {C:Int→Int→Prop} {f:Int→Int→D} {r1 r2:R} (h:gI C f r1 r2 ρ q):∃ i j,r1 = .d (.int i)∧r2 = .d (.int j)∧C i j∧q (.d (f i j)) ρ:=by
 unfold gI at h
 split at h
 ·exact ⟨_,_,rfl,rfl,h⟩
 ·exact h.elim
theorem InF.int {i:Int} (h:InF K F σ ρ H v (.d (.int i))):v = .int i:=by
 unfold InF RepD at h; exact h
theorem InF.blv {i:Bool} (h:InF K F σ ρ H v (.d (.bl i))):v = .bl i:=by
 unfold InF RepD at h; exact h
theorem f0r {C:Int→Int→Prop} {f:Int→Int→Int}:OpOk K (rI C fun i j=>.int (f i j)) (gI C fun i j=>.int (f i j)):=by
 intro F σ ρ H x y r1 r2 q Q a h1 h2 h b
 obtain ⟨i,j,rfl,rfl,c,h⟩:=j1m h
 exact ⟨i,j,h1.int,h2.int,c,b.int a h⟩
def gI0 (f:Int→Int→D):R→R→AE:=fun r1 r2 ρ q=>match r1,r2 with
 | .d (.int i),.d (.int j)=>q (.d (f i j)) ρ
 | _,_=>False
theorem z0h {f:Int→Int→D} {r1 r2:R} (h:gI0 f r1 r2 ρ q):∃ i j,r1 = .d (.int i)∧r2 = .d (.int j)∧q (.d (f i j)) ρ:=by
 unfold gI0 at h
 split at h
 ·exact ⟨_,_,rfl,rfl,h⟩
 ·exact h.elim
theorem c0q {f:Int→Int→Int}:OpOk K (rI0 fun i j=>.int (f i j)) (gI0 fun i j=>.int (f i j)):=by
 intro F σ ρ H x y r1 r2 q Q a h1 h2 h b
 obtain ⟨i,j,rfl,rfl,h⟩:=z0h h
 exact ⟨i,j,h1.int,h2.int,b.int a h⟩
theorem g0k {f:Int→Int→Bool}:OpOk K (rI0 fun i j=>.bl (f i j)) (gI0 fun i j=>.bl (f i j)):=by
 intro F σ ρ H x y r1 r2 q Q a h1 h2 h b
 obtain ⟨i,j,rfl,rfl,h⟩:=z0h h
 exact ⟨i,j,h1.int,h2.int,b.bl a h⟩
@[irreducible] def gEq (neg:Bool):R→R→AE:=fun r1 r2 ρ q=>match view ρ r1,view ρ r2 with
 | some d,some e=>d.depth ≤ 60∧q (.d (.bl (if neg then !eqD d e else eqD d e))) ρ
 | _,_=>False
theorem z0i {neg:Bool} {r1 r2:R} (h:gEq neg r1 r2 ρ q):∃ d e,view ρ r1 = some d∧view ρ r2 = some e∧d.depth ≤ 60∧q (.d (.bl (if neg then !eqD d e else eqD d e))) ρ:=by
 unfold gEq at h
 split at h
 ·rename_i d e h1 h2; exact ⟨d,e,h1,h2,h⟩
 ·exact h.elim
theorem j0f:OpOk K (rEqD K) (gEq false):=by
 intro F σ ρ H x y r1 r2 q Q a h1 h2 h b
 obtain ⟨d,e,e1,e2,c,h⟩:=z0i h
 exact ⟨d,e,e0h a h1 e1,e0h a h2 e2,c,b.bl a h⟩
theorem k0r:OpOk K (rNeD K) (gEq true):=by
 intro F σ ρ H x y r1 r2 q Q a h1 h2 h b
 obtain ⟨d,e,e1,e2,c,h⟩:=z0i h
 exact ⟨d,e,e0h a h1 e1,e0h a h2 e2,c,b.bl a h⟩
@[irreducible] def gIx:R→R→AE:=fun r1 r2 ρ q=>match view ρ r1,r2 with
 | some (.lst ds),.d (.int i)=>(match atI ds i with | some d=>q (.d d) ρ | none=>False)
 | some (.tup ds),.d (.int i)=>(match atI ds i with | some d=>q (.d d) ρ | none=>False)
 | _,_=>False
theorem a1g {Hh:Hp} {vs:List V} {ds:List D} {i:Int} {d:D} (h:RepDs K Hh vs ds) (e:atI ds i = some d):∃ v,atI vs i = some v∧RepD K Hh v d:=by
 unfold atI at e ⊢
 rw [h.length]
 cases hx:ixN ds.length i with
 | none=>rw [hx] at e; cases e
 | some j =>
  rw [hx] at e
  exact h.get e
theorem f0f:OpOk K (rIx K) gIx:=by
 intro F σ ρ H x y r1 r2 q Q a h1 h2 h b
 unfold gIx at h
 split at h
 ·rename_i ds i e1
  split at h
  ·rename_i d e
   obtain ⟨l,vs,rfl,sq,rd⟩:=d0o a h1 e1
   obtain ⟨v,e2,rv⟩:=a1g rd e
   exact .inl ⟨l,vs,i,v,rfl,h2.int,sq,e2,b.dat a h rv⟩
  ·exact h.elim
 ·rename_i ds i e1
  split at h
  ·rename_i d e
   obtain ⟨l,vs,rfl,sq,rd,_⟩:=h0s a h1 e1
   obtain ⟨v,e2,rv⟩:=a1g rd e
   exact .inr (.inl ⟨l,vs,i,v,rfl,h2.int,sq,e2,b.dat a h rv⟩)
  ·exact h.elim
 ·exact h.elim
def l1p (a b:AE):AE:=fun ρ q=>a ρ fun r ρ1=>match r with
 | .d (.bl c)=>if c = true then b ρ1 q else q (.d (.bl false)) ρ1
 | _=>False
def l1h (a:AE):AE:=fun ρ q=>a ρ fun r ρ1=>match r with
 | .d (.bl c)=>q (.d (.bl (!c))) ρ1
 | _=>False
theorem g0u (ha:TEok K ta a) (hb:TEok K tb b):TEok K (h1w ta tb) (l1p a b):=by
 intro F σ ρ H q Q r h k
 refine ha F σ ρ H _ _ r h fun r1 ρ1 x H1 h1 rel1=>?_
 split at h1
 ·rename_i c
  obtain ⟨r',k1,i1⟩:=rel1.inF
  refine ⟨c,i1.blv,?_⟩
  cases c with
  | true=>exact hb F σ ρ1 H1 q Q r' h1 (k.after k1)
  | false=>exact (k.after k1).bl r' h1
 ·exact h1.elim
theorem a1u (ha:TEok K ta a):TEok K (h1u ta) (l1h a):=by
 intro F σ ρ H q Q r h k
 refine ha F σ ρ H _ _ r h fun r1 ρ1 x H1 h1 rel1=>?_
 split at h1
 ·rename_i c
  obtain ⟨r',k1,i1⟩:=rel1.inF
  exact ⟨c,i1.blv,(k.after k1).bl r' h1⟩
 ·exact h1.elim
variable {tt tu:TT} {at' au:AT}
def aB (a:AE):AT:=fun ρ q=>a ρ fun r ρ1=>match r with
 | .d (.bl c)=>q c ρ1
 | _=>False
theorem o0q (ha:TEok K ta a):TTok K (tB ta) (aB a):=by
 intro F σ ρ H q Q r h k
 refine ha F σ ρ H _ _ r h fun r1 ρ1 x H1 h1 rel1=>?_
 split at h1
 ·rename_i c
  obtain ⟨r',k1,i1⟩:=rel1.inF
  exact ⟨c,i1.blv,k _ _ _ h1 r' k1⟩
 ·exact h1.elim
theorem a0z (ha:TEok K ta a):TTok K (h1s ta) (aB a):=o0q ha
def aAnd (a b:AT):AT:=fun ρ q=>a ρ fun c ρ1=>if c = true then b ρ1 q else q false ρ1
def aOr (a b:AT):AT:=fun ρ q=>a ρ fun c ρ1=>if c = true then q true ρ1 else b ρ1 q
def aNot (a:AT):AT:=fun ρ q=>a ρ fun c ρ1=>q (!c) ρ1
theorem a1r (ha:TTok K tt at') (hb:TTok K tu au):TTok K (tAnd tt tu) (aAnd at' au):=by
 intro F σ ρ H q Q r h k
 refine ha F σ ρ H _ _ r h fun c ρ1 H1 h1 r1 k1=>?_
 cases c with
 | true=>exact hb F σ ρ1 H1 q Q r1 h1 fun b ρ2 H2 h2 r2 k2=>k _ _ _ h2 r2 (k1.trans k2)
 | false=>exact k _ _ _ h1 r1 k1
theorem e1h (ha:TTok K tt at') (hb:TTok K tu au):TTok K (tOr tt tu) (aOr at' au):=by
 intro F σ ρ H q Q r h k
 refine ha F σ ρ H _ _ r h fun c ρ1 H1 h1 r1 k1=>?_
 cases c with
 | true=>exact k _ _ _ h1 r1 k1
 | false=>exact hb F σ ρ1 H1 q Q r1 h1 fun b ρ2 H2 h2 r2 k2=>k _ _ _ h2 r2 (k1.trans k2)
theorem n0b (ha:TTok K tt at'):TTok K (tNot tt) (aNot at'):=fun F σ ρ H q Q r h k=>ha F σ ρ H _ _ r h fun c ρ1 H1 h1 r1 k1=>k _ _ _ h1 r1 k1
def truD:D→Bool
 | .non=>false
 | .bl b=>b
 | .int i=>i != 0
 | .str _=>true
 | .tup ds=>!ds.isEmpty
 | .lst ds=>!ds.isEmpty
def aTru (a:AE):AT:=fun ρ q=>a ρ fun r ρ1=>match view ρ1 r.frz with
 | some (.str _)=>False
 | some d=>q (truD d) ρ1
 | none=>False
theorem l0h {Hh:Hp} {vs:List V} {ds:List D} (h:RepDs K Hh vs ds):vs.isEmpty = ds.isEmpty:=by
 have:=h.length
 cases vs <;> cases ds <;> simp_all
theorem j0q (ha:TEok K ta a):TTok K (fun σ H Q=>ta σ H fun x H'=>∃ k,TruV K x H' k∧Q k H') (aTru a):=by
 intro F σ ρ H q Q r h k
 refine ha F σ ρ H _ _ r h fun r1 ρ1 x H1 h1 rel1=>?_
 obtain ⟨r',k1,i1⟩:=rel1.inF
 cases e:view ρ1 r1.frz with
 | none=>rw [e] at h1; exact h1.elim
 | some d =>
  rw [e] at h1
  have rd:=e0h r' i1 e
  cases d with
  | str x=>exact h1.elim
  | non=>unfold RepD at rd; subst rd; exact ⟨_,rfl,k _ _ _ h1 r' k1⟩
  | bl b=>unfold RepD at rd; subst rd; exact ⟨_,rfl,k _ _ _ h1 r' k1⟩
  | int b=>unfold RepD at rd; subst rd; exact ⟨_,rfl,k _ _ _ h1 r' k1⟩
  | tup ds =>
   unfold RepD at rd
   obtain ⟨p,vs,rfl,sq,rr⟩:=rd
   exact ⟨_,.inr (.inl ⟨vs,sq,by rw [l0h rr]; rfl⟩),k _ _ _ h1 r' k1⟩
  | lst ds =>
   unfold RepD at rd
   obtain ⟨p,vs,rfl,sq,rr⟩:=rd
   exact ⟨_,.inl ⟨vs,sq,by rw [l0h rr]; rfl⟩,k _ _ _ h1 r' k1⟩
def aIf (c:AT) (a b:AE):AE:=fun ρ q=>c ρ fun k ρ1=>if k = true then a ρ1 q else b ρ1 q
theorem c1w (hc:TTok K tt at') (ha:TEok K ta a) (hb:TEok K tb b):TEok K (tIf tt ta tb) (aIf at' a b):=by
 intro F σ ρ H q Q r h k
 refine hc F σ ρ H _ _ r h fun c ρ1 H1 h1 r1 k1=>?_
 cases c with
 | true=>exact ha F σ ρ1 H1 q Q r1 h1 (k.after k1)
 | false=>exact hb F σ ρ1 H1 q Q r1 h1 (k.after k1)
variable {ts:TA} {as:AA}
def aNil:AA:=fun ρ q=>q [] ρ
def g1t (a:AE) (as:AA):AA:=fun ρ q=>a ρ fun r ρ1=>as ρ1 fun rs ρ2=>q (r.frz :: rs) ρ2
theorem a0d:TAok K tNil aNil:=fun F σ ρ H q Q r h k=>k _ _ _ _ h r .nil .refl
theorem a0a (ha:TEok K ta a) (hs:TAok K ts as):TAok K (u0w ta ts) (g1t a as):=by
 intro F σ ρ H q Q r h k
 refine ha F σ ρ H _ _ r h fun r1 ρ1 x H1 h1 rel1=>?_
 obtain ⟨r',k1,i1⟩:=rel1.inF
 refine hs F σ ρ1 H1 _ _ r' h1 fun rs ρ2 vs H2 h2 r2 i2 k2=>?_
 exact k _ _ _ _ h2 r2 (.cons (i1.keep k2) i2) (k1.trans k2)
def sto:List R→En→(List D→En→Prop)→Prop
 | [],ρ,q=>q [] ρ
 | .d d :: rs,ρ,q=>sto rs ρ fun ds ρ'=>q (d :: ds) ρ'
 | .o i :: rs,ρ,q=>(match gt ρ i with
  | .ow ds=>sto rs (pt ρ i (.vl (.lst ds))) fun es ρ'=>q (.lst ds :: es) ρ'
  | .vl d=>sto rs ρ fun es ρ'=>q (d :: es) ρ'
  | _=>False)
 | _ :: _,_,_=>False
theorem f0y:∀ {vs:List V} {rs:List R} {ρ:En} {q:List D→En→Prop},Rel K F σ ρ H→InFs K F σ ρ H vs rs→sto rs ρ q→∃ ds ρ',q ds ρ'∧Rel K F σ ρ' H∧Kp σ ρ ρ' H H∧RepDs K (hid H (hs F σ ρ')) vs ds
 | _,_,ρ,q,r,.nil,h=>⟨[],ρ,h,r,.refl,.nil⟩
 | _,_,ρ,q,r,.cons (v:=v) (r:=rr) (vs:=vs) (rs:=rs) a t,h=>by
  cases rr with
  | n s=>exact h.elim
  | t n=>exact h.elim
  | x s=>exact h.elim
  | d d =>
   obtain ⟨ds,ρ',hq,r',k,rd⟩:=f0y r t (show sto rs ρ _ from h)
   exact ⟨d :: ds,ρ',hq,r',k,.cons (RepD.same a k.vis) rd⟩
  | o i =>
   have s:=r.sl i
   unfold sto at h
   cases hg:gt ρ i with
   | un=>rw [hg] at h; exact h.elim
   | tp n=>rw [hg] at h; exact h.elim
   | dk n=>rw [hg] at h; exact h.elim
   | dt n=>rw [hg] at h; exact h.elim
   | ex n m=>rw [hg] at h; exact h.elim
   | sc n=>rw [hg] at h; exact h.elim
   | px n m k=>rw [hg] at h; exact h.elim
   | vl d =>
    rw [hg] at h s
    obtain ⟨x,e,rd1⟩:=s
    rw [show σ[i]? = _ from a] at e
    injection e with e; injection e with e; subst e
    obtain ⟨ds,ρ',hq,r',k,rd⟩:=f0y r t h
    exact ⟨d :: ds,ρ',hq,r',k,.cons (rd1.same k.vis) rd⟩
   | ow ds =>
    rw [hg] at h
    obtain ⟨l,e,r1,k1,rd1⟩:=r.frz hg
    rw [show σ[i]? = _ from a] at e
    injection e with e; injection e with e; subst e
    obtain ⟨es,ρ',hq,r',k,rd⟩:=f0y r1 (t.keep k1) h
    exact ⟨_,ρ',hq,r',k1.trans k,.cons (rd1.same k.vis) rd⟩
theorem small {n:Nat} (h:n ≤ 1000000):n ≤ sizeLine:=by unfold sizeLine; omega
theorem o0v {n:Nat} (h:n ≤ 1000000):n < sizeLine:=by unfold sizeLine; omega
def aTup (as:AA):AE:=fun ρ q=>as ρ fun rs ρ1=>sto rs ρ1 fun ds ρ2=>ds.length ≤ 1000000∧q (.d (.tup ds)) ρ2
def aLst (as:AA):AE:=fun ρ q=>as ρ fun rs ρ1=>sto rs ρ1 fun ds ρ2=>ds.length ≤ 1000000∧q (.f ds) ρ2
theorem d0d (hs:TAok K ts as):TEok K (tTup ts) (aTup as):=by
 intro F σ ρ H q Q r h k
 refine hs F σ ρ H _ _ r h fun rs ρ1 vs H1 h1 r1 i1 k1=>?_
 obtain ⟨ds,ρ2,⟨hz,hq⟩,r2,k2,rd⟩:=f0y r1 i1 h1
 exact ⟨small (by rw [rd.length]; exact hz),fun p hp=>((k.after k1).after k2).newT r2 hq rd hp⟩
theorem c0w (hs:TAok K ts as):TEok K (tLst ts) (aLst as):=by
 intro F σ ρ H q Q r h k
 refine hs F σ ρ H _ _ r h fun rs ρ1 vs H1 h1 r1 i1 k1=>?_
 obtain ⟨ds,ρ2,⟨hz,hq⟩,r2,k2,rd⟩:=f0y r1 i1 h1
 exact ⟨small (by rw [rd.length]; exact hz),fun p hp=>((k.after k1).after k2).new r2 hq rd hp⟩
def aCB (g:List R→AE) (as:AA):AE:=fun ρ q=>as ρ fun rs ρ1=>g rs ρ1 q
theorem c0z {rb:List V→Hp→VK→Prop} {g:List R→AE} (hb:CbOk K rb g) (hs:TAok K ts as):TEok K (tCB rb ts) (aCB g as):=by
 intro F σ ρ H q Q r h k
 exact hs F σ ρ H _ _ r h fun rs ρ1 vs H1 h1 r1 i1 k1=>hb F σ ρ1 H1 vs rs q Q r1 i1 h1 (k.after k1)
theorem InFs.one {vs:List V} {r1:R} (h:InFs K F σ ρ H vs [r1]):∃ x,vs = [x]∧InF K F σ ρ H x r1:=by
 cases h with | cons a t=>cases t; exact ⟨_,rfl,a⟩
theorem InFs.two {vs:List V} {r1 r2:R} (h:InFs K F σ ρ H vs [r1,r2]):∃ x y,vs = [x,y]∧InF K F σ ρ H x r1∧InF K F σ ρ H y r2:=by
 cases h with | cons a t=>obtain ⟨y,rfl,b⟩:=t.one; exact ⟨_,_,rfl,a,b⟩
def gLen:List R→AE:=fun rs ρ q=>match rs with
 | [r]=>(match view ρ r with
  | some (.lst ds)=>q (.d (.int ds.length)) ρ
  | some (.tup ds)=>q (.d (.int ds.length)) ρ
  | _=>False)
 | _=>False
theorem e0j:CbOk K (fun xs H Q=>∃ p ys,xs = [.ref p]∧(SqL K H p ys ∨ SqT K H p ys)∧Q (.int ys.length) H) gLen:=by
 intro F σ ρ H vs rs q Q a i h b
 unfold gLen at h
 split at h
 ·obtain ⟨x,rfl,i1⟩:=i.one
  split at h
  ·rename_i ds e
   obtain ⟨l,vs,rfl,sq,rd⟩:=d0o a i1 e
   exact ⟨l,vs,rfl,.inl sq,by rw [rd.length]; exact b.int a h⟩
  ·rename_i ds e
   obtain ⟨l,vs,rfl,sq,rd,_⟩:=h0s a i1 e
   exact ⟨l,vs,rfl,.inr sq,by rw [rd.length]; exact b.int a h⟩
  ·exact h.elim
 ·exact h.elim
@[irreducible] def gIsa:List R→AE:=fun rs ρ q=>match rs with
 | [r,.t n]=>(match view ρ r with
  | some d=>(match isaT (tyD d) n with | some b=>q (.d (.bl b)) ρ | none=>False)
  | none=>False)
 | _=>False
theorem o0g:CbOk K (fun xs H Q=>∃ x d T b,xs = [x,.ty T]∧RepD K H x d∧isaT (tyD d) T = some b∧Q (.bl b) H) gIsa:=by
 intro F σ ρ H vs rs q Q a i h b
 unfold gIsa at h
 split at h
 ·obtain ⟨x,y,rfl,i1,j1⟩:=i.two
  split at h
  ·rename_i d e
   split at h
   ·rename_i b' e'
    exact ⟨x,d,_,b',by rw [show y = _ from j1],e0h a i1 e,e',b.bl a h⟩
   ·exact h.elim
  ·exact h.elim
 ·exact h.elim
def gList:List R→AE:=fun rs ρ q=>match rs with
 | [r]=>(match view ρ r with
  | some (.lst ds)=>q (.f ds) ρ
  | some (.tup ds)=>q (.f ds) ρ
  | _=>False)
 | _=>False
theorem l0r:CbOk K (fun xs H Q=>∃ p ys,xs = [.ref p]∧(SqL K H p ys ∨ SqT K H p ys)∧∀ l,H l = none→Q (.ref l) (upd H l (.lst ys))) gList:=by
 intro F σ ρ H vs rs q Q a i h b
 unfold gList at h
 split at h
 ·obtain ⟨x,rfl,i1⟩:=i.one
  split at h
  ·rename_i ds e
   obtain ⟨l,vs,rfl,sq,rd⟩:=d0o a i1 e
   exact ⟨l,vs,rfl,.inl sq,fun p hp=>b.new a h rd hp⟩
  ·rename_i ds e
   obtain ⟨l,vs,rfl,sq,rd,_⟩:=h0s a i1 e
   exact ⟨l,vs,rfl,.inr sq,fun p hp=>b.new a h rd hp⟩
  ·exact h.elim
 ·exact h.elim
def gTuple:List R→AE:=fun rs ρ q=>match rs with
 | [r]=>(match view ρ r with
  | some (.lst ds)=>q (.d (.tup ds)) ρ
  | some (.tup ds)=>q (.d (.tup ds)) ρ
  | _=>False)
 | _=>False
theorem i0x:CbOk K (fun xs H Q=>∃ p ys,xs = [.ref p]∧((SqL K H p ys∧∀ l,H l = none→Q (.ref l) (upd H l (.tup ys))) ∨ (SqT K H p ys∧Q (.ref p) H))) gTuple:=by
 intro F σ ρ H vs rs q Q a i h b
 unfold gTuple at h
 split at h
 ·obtain ⟨x,rfl,i1⟩:=i.one
  split at h
  ·rename_i ds e
   obtain ⟨l,vs,rfl,sq,rd⟩:=d0o a i1 e
   exact ⟨l,vs,rfl,.inl ⟨sq,fun p hp=>b.newT a h rd hp⟩⟩
  ·rename_i ds e
   obtain ⟨l,vs,rfl,sq,rd,sq'⟩:=h0s a i1 e
   refine ⟨l,vs,rfl,.inr ⟨sq,b.dat a h ?_⟩⟩
   unfold RepD
   exact ⟨l,vs,rfl,sq',rd⟩
  ·exact h.elim
 ·exact h.elim
def gII (f:Int→Int→Int):List R→AE:=fun rs ρ q=>match rs with
 | [.d (.int i),.d (.int j)]=>q (.d (.int (f i j))) ρ
 | _=>False
theorem c1o:CbOk K (fun xs H Q=>∃ i j,xs = [.int i,.int j]∧Q (.int (if j < i then j else i)) H) (gII fun i j=>if j < i then j else i):=by
 intro F σ ρ H vs rs q Q a i h b
 unfold gII at h
 split at h
 ·obtain ⟨x,y,rfl,i1,j1⟩:=i.two
  exact ⟨_,_,by rw [i1.int,j1.int],b.int a h⟩
 ·exact h.elim
def aApp (a:AE) (as:AA):AE:=fun ρ q=>a ρ fun r ρ1=>match r with
 | .o i=>(match gt ρ1 i with
  | .ow _=>as ρ1 fun rs ρ2=>(match rs with
   | [y]=>sto [y] ρ2 fun es ρ3=>(match gt ρ3 i with
    | .ow ds=>ds.length ≤ 1000000∧q (.d .non) (pt ρ3 i (.ow (ds ++ es)))
    | _=>False)
   | _=>False)
  | _=>False)
 | _=>False
theorem q0v (ha:TEok K ta a) (hs:TAok K ts as):TEok K (tBM K "list" rAppend ta ts) (aApp a as):=by
 intro F σ ρ H q Q r h k
 refine ha F σ ρ H _ _ r h fun r1 ρ1 x H1 h1 rel1=>?_
 split at h1
 ·rename_i i
  obtain ⟨r',k1,i1⟩:=rel1.inF
  have ex:σ[i]? = some (some x):=i1
  split at h1
  ·rename_i ds0 hg0
   have s:=r'.sl i
   rw [hg0,ex] at s
   obtain ⟨l,vs0,e,hl,_⟩:=s
   injection e with e; injection e with e; subst e
   refine ⟨.inl ⟨rfl,_,SqL.of hl⟩,hs F σ ρ1 H1 _ _ r' h1 fun rs ρ2 vs H2 h2 r2 i2 k2=>?_⟩
   split at h2
   ·obtain ⟨es,ρ3,h3,r3,k3,rd⟩:=f0y r2 i2 h2
    split at h3
    ·rename_i ds hg
     have s:=r3.sl i
     rw [hg,ex] at s
     obtain ⟨l',us,e,hl',rd'⟩:=s
     injection e with e; injection e with e; injection e with e; subst e
     obtain ⟨y,rfl,_⟩:=i2.one
     have hw:=r3.write (i:=i) (l:=l) (o:=.lst (us ++ [y])) (s:=.ow (ds ++ es)) (by rw [hg]; rfl) ex rfl ⟨l,_,rfl,a0v,rd'.append rd⟩
     refine ⟨l,us,y,rfl,rfl,hl',o0v (by rw [rd'.length]; exact h3.1),?_⟩
     exact (((k.after k1).after k2).after (k3.trans hw.2)).non hw.1 h3.2
    ·exact h3.elim
   ·exact h2.elim
  ·exact h1.elim
 ·exact h1.elim
abbrev AO:=En→(Option Int→En→Prop)→Prop
def TOok (K:PySem.W.Frag) (t:TO) (a:AO):Prop:=∀ F σ ρ H q Q,Rel K F σ ρ H→a ρ q→(∀ b ρ' H',q b ρ'→Rel K F σ ρ' H'→Kp σ ρ ρ' H H'→Q b H')→t σ H Q
def oNo:AO:=fun ρ q=>q none ρ
def k1s (a:AE):AO:=fun ρ q=>a ρ fun r ρ1=>match r with
 | .d (.int i)=>q (some i) ρ1
 | _=>False
theorem e1i:TOok K tNoPart oNo:=fun F σ ρ H q Q r h k=>k _ _ _ h r .refl
theorem w0j (ha:TEok K ta a):TOok K (h1t ta) (k1s a):=by
 intro F σ ρ H q Q r h k
 refine ha F σ ρ H _ _ r h fun r1 ρ1 x H1 h1 rel1=>?_
 split at h1
 ·obtain ⟨r',k1,i1⟩:=rel1.inF
  exact ⟨_,i1.int,k _ _ _ h1 r' k1⟩
 ·exact h1.elim
def cutD (xs:List D) (lo hi:Option Int):List D:=(xs.drop (HT.sIx xs.length 0 lo)).take (HT.sIx xs.length xs.length hi - HT.sIx xs.length 0 lo)
theorem RepDs.drop:∀ {vs:List V} {ds:List D} (n:Nat),RepDs K H vs ds→RepDs K H (vs.drop n) (ds.drop n)
 | [],[],n,h=>by simp [RepDs.nil]
 | v :: vs,d :: ds,0,h=>h
 | v :: vs,d :: ds,n + 1,h=>by unfold RepDs at h; exact RepDs.drop n h.2
 | [],d :: ds,_,h=>by unfold RepDs at h; exact h.elim
 | v :: vs,[],_,h=>by unfold RepDs at h; exact h.elim
theorem RepDs.take:∀ {vs:List V} {ds:List D} (n:Nat),RepDs K H vs ds→RepDs K H (vs.take n) (ds.take n)
 | [],[],n,h=>by simp [RepDs.nil]
 | v :: vs,d :: ds,0,h=>.nil
 | v :: vs,d :: ds,n + 1,h=>by unfold RepDs at h; exact .cons h.1 (RepDs.take n h.2)
 | [],d :: ds,_,h=>by unfold RepDs at h; exact h.elim
 | v :: vs,[],_,h=>by unfold RepDs at h; exact h.elim
theorem g1j {vs:List V} {ds:List D} {lo hi:Option Int} (h:RepDs K H vs ds):RepDs K H (cutV vs lo hi) (cutD ds lo hi):=by
 unfold cutV cutD
 rw [h.length]
 exact (h.drop _).take _
def aSlL (a:AE) (l u:AO):AE:=fun ρ q=>a ρ fun r ρ1=>l ρ1 fun lo ρ2=>u ρ2 fun hi ρ3=>match view ρ3 r.frz with
 | some (.lst ds)=>q (.f (cutD ds lo hi)) ρ3
 | _=>False
theorem e1j {tl th:TO} {al au:AO} (ha:TEok K ta a) (hl:TOok K tl al) (hh:TOok K th au):TEok K (tSl (rSlL K) ta tl th) (aSlL a al au):=by
 intro F σ ρ H q Q r h k
 refine ha F σ ρ H _ _ r h fun r1 ρ1 x H1 h1 rel1=>?_
 obtain ⟨r',k1,i1⟩:=rel1.inF
 refine hl F σ ρ1 H1 _ _ r' h1 fun lo ρ2 H2 h2 r2 k2=>?_
 refine hh F σ ρ2 H2 _ _ r2 h2 fun hi ρ3 H3 h3 r3 k3=>?_
 split at h3
 ·rename_i ds e
  obtain ⟨p,vs,rfl,sq,rd⟩:=d0o r3 ((i1.keep k2).keep k3) e
  exact ⟨p,vs,rfl,sq,fun p' hp=>(((k.after k1).after k2).after k3).new r3 h3 (g1j rd) hp⟩
 ·exact h3.elim
end
def d0u (ρ:En):R→Sv
 | .d d=>.vl d
 | .o j=>gt ρ j
 | _=>.un
def Src (K:PySem.W.Frag) (F:Fr) (σ:St) (ρ:En) (H:Hp) (ov:Option V):R→Prop
 | .d d=>∃ v,ov = some v∧RepD K (hid H (hs F σ ρ)) v d
 | .o j=>(σ[j]?).getD none = ov
 | _=>True
inductive Srcs (K:PySem.W.Frag) (F:Fr) (σ:St) (ρ:En) (H:Hp):St→List R→Prop
 | nil:Srcs K F σ ρ H [] []
 | cons {v:Option V} {r:R} {vs:St} {rs:List R}:Src K F σ ρ H v r→Srcs K F σ ρ H vs rs→Srcs K F σ ρ H (v :: vs) (r :: rs)
def isO (j:Nat):R→Bool
 | .o i=>i == j
 | _=>false
def dis:List R→Bool
 | []=>true
 | .o j :: rs=>rs.all (fun r=>!isO j r) && dis rs
 | _ :: rs=>dis rs
theorem c1n:∀ {rs:List R} {k k' j:Nat},dis rs = true→rs[k]? = some (.o j)→rs[k']? = some (.o j)→k = k':=by
 intro rs
 induction rs with
 | nil=>intro k k' j _ h; simp at h
 | cons r rs ih =>
  intro k k' j hd h h'
  have hd':dis rs = true:=by
   cases r <;> simp [dis] at hd <;> first | exact hd.2 | exact hd
  have no:∀ (m:Nat),r = .o j→rs[m]? = some (.o j)→False:=fun m e hm=>by
   subst e
   simp [dis] at hd
   have:=hd.1 _ (List.mem_of_getElem? hm)
   simp [isO] at this
  cases k with
  | zero =>
   cases k' with
   | zero=>rfl
   | succ k'=>simp at h h'; exact (no k' h h').elim
  | succ k =>
   cases k' with
   | zero=>simp at h h'; exact (no k h' h).elim
   | succ k'=>simp at h h'; rw [ih hd' h h']
def back:En→List R→En→En
 | ρ,.o j :: rs,s :: ss=>back (pt ρ j s) rs ss
 | ρ,_ :: rs,_ :: ss=>back ρ rs ss
 | ρ,_,_=>ρ
theorem f0x:∀ (rs:List R) (ρ ss:En),(back ρ rs ss).length = ρ.length
 | [],ρ,ss=>by cases ss <;> rfl
 | r :: rs,ρ,[]=>by cases r <;> rfl
 | .o j :: rs,ρ,s :: ss=>by show (back (pt ρ j s) rs ss).length = _; rw [f0x,h0e]
 | .d d :: rs,ρ,s :: ss=>f0x rs ρ ss
 | .n d :: rs,ρ,s :: ss=>f0x rs ρ ss
 | .t d :: rs,ρ,s :: ss=>f0x rs ρ ss
 | .x d :: rs,ρ,s :: ss=>f0x rs ρ ss
theorem h0r:∀ (rs:List R) (ρ ss:En) (i:Nat),(∀ k:Nat,rs[k]? ≠ some (R.o i))→gt (back ρ rs ss) i = gt ρ i
 | [],ρ,ss,i,_=>by cases ss <;> rfl
 | r :: rs,ρ,[],i,_=>by cases r <;> rfl
 | .o j :: rs,ρ,s :: ss,i,h=>by
  have ne:j ≠ i:=fun e=>h 0 (by simp [e])
  show gt (back (pt ρ j s) rs ss) i = _
  rw [h0r rs _ ss i (fun k z=>h (k + 1) (by simpa using z)),c0k ρ j i s ne]
 | .d d :: rs,ρ,s :: ss,i,h=>h0r rs ρ ss i (fun k z=>h (k + 1) (by simpa using z))
 | .n d :: rs,ρ,s :: ss,i,h=>h0r rs ρ ss i (fun k z=>h (k + 1) (by simpa using z))
 | .t d :: rs,ρ,s :: ss,i,h=>h0r rs ρ ss i (fun k z=>h (k + 1) (by simpa using z))
 | .x d :: rs,ρ,s :: ss,i,h=>h0r rs ρ ss i (fun k z=>h (k + 1) (by simpa using z))
theorem i0z:∀ (rs:List R) (ρ ss:En) (i k:Nat),dis rs = true→rs[k]? = some (.o i)→ss.length = rs.length→i < ρ.length→gt (back ρ rs ss) i = gt ss k
 | [],ρ,ss,i,k,_,h,_,_=>by simp at h
 | r :: rs,ρ,[],i,k,_,_,e,_=>by simp at e
 | .o j :: rs,ρ,s :: ss,i,0,hd,h,e,l=>by
  simp at h; subst h
  simp [dis] at hd
  show gt (back (pt ρ j s) rs ss) j = s
  rw [h0r rs _ ss j (fun k z=>by have:=hd.1 _ (List.mem_of_getElem? z); simp [isO] at this),n0x ρ j s l]
 | .o j :: rs,ρ,s :: ss,i,k + 1,hd,h,e,l=>by
  simp [dis] at hd
  exact i0z rs (pt ρ j s) ss i k hd.2 (by simpa using h) (by simpa using e) (by rw [h0e]; exact l)
 | .d d :: rs,ρ,s :: ss,i,0,hd,h,e,l=>by simp at h
 | .n d :: rs,ρ,s :: ss,i,0,hd,h,e,l=>by simp at h
 | .t d :: rs,ρ,s :: ss,i,0,hd,h,e,l=>by simp at h
 | .x d :: rs,ρ,s :: ss,i,0,hd,h,e,l=>by simp at h
 | .d d :: rs,ρ,s :: ss,i,k + 1,hd,h,e,l=>i0z rs ρ ss i k hd (by simpa using h) (by simpa using e) l
 | .n d :: rs,ρ,s :: ss,i,k + 1,hd,h,e,l=>i0z rs ρ ss i k hd (by simpa using h) (by simpa using e) l
 | .t d :: rs,ρ,s :: ss,i,k + 1,hd,h,e,l=>i0z rs ρ ss i k hd (by simpa using h) (by simpa using e) l
 | .x d :: rs,ρ,s :: ss,i,k + 1,hd,h,e,l=>i0z rs ρ ss i k hd (by simpa using h) (by simpa using e) l
theorem q0b (ρ:En):∀ (rs:List R) (k:Nat),gt (rs.map (d0u ρ)) k = (match rs[k]? with | some r=>d0u ρ r | none=>.un)
 | [],k=>by simp [gt]
 | r :: rs,0=>by simp [gt]
 | r :: rs,k + 1=>by simp [gt,q0b ρ rs k]
section
variable {K:PySem.W.Frag} {F:Fr} {σ:St} {ρ ρ':En} {H H':Hp} {ovs:St} {rs:List R}
theorem Srcs.length (s:Srcs K F σ ρ H ovs rs):ovs.length = rs.length:=by
 induction s with
 | nil=>rfl
 | cons _ _ ih=>simp [ih]
theorem Srcs.get {k:Nat} {r:R} (s:Srcs K F σ ρ H ovs rs) (h:rs[k]? = some r):∃ ov,ovs[k]? = some ov∧Src K F σ ρ H ov r:=by
 induction s generalizing k with
 | nil=>simp at h
 | cons a _ ih =>
  cases k with
  | zero=>simp at h; subst h; exact ⟨_,rfl,a⟩
  | succ k=>obtain ⟨ov,e,q⟩:=ih (by simpa using h); exact ⟨ov,by simpa using e,q⟩
def g0g (F:Fr) (σ:St) (ρ:En) (H:Hp) (ovs:St) (ss:En):Fr :=
 ⟨H,fun a=>F.Z a ∨ (b0q σ ρ a∧¬ b0q ovs ss a),fun a=>b0q ovs ss a,fun i a=>(gt ss i).own = true∧ovs[i]? = some (some (.ref a)),fun _ _=>False⟩
theorem q0x (s:Srcs K F σ ρ H ovs rs) {k:Nat} (h:(gt (rs.map (d0u ρ)) k).own = true):∃ j:Nat,rs[k]? = some (R.o j)∧(gt ρ j).own = true∧gt (rs.map (d0u ρ)) k = gt ρ j∧ovs[k]? = some ((σ[j]?).getD none):=by
 rw [q0b] at h
 cases e:rs[k]? with
 | none=>simp [e] at h; cases h
 | some r =>
  rw [e] at h
  cases r with
  | d d=>cases h
  | n d=>cases h
  | t d=>cases h
  | x d=>cases h
  | o j =>
   obtain ⟨ov,e1,e2⟩:=s.get e
   exact ⟨j,rfl,h,by rw [q0b,e]; rfl,by rw [e1,show _ = ov from e2]⟩
theorem n0y {x:Option (Option V)} {a:Addr} (h:some (x.getD none) = some (some (V.ref a))):x = some (some (.ref a)):=by
 cases x with
 | none=>simp at h
 | some y=>simpa using h
theorem d0t (s:Srcs K F σ ρ H ovs rs) {a:Addr} (h:b0q ovs (rs.map (d0u ρ)) a):∃ k j:Nat,rs[k]? = some (R.o j)∧(gt ρ j).own = true∧σ[j]? = some (some (V.ref a))∧ovs[k]? = some (some (V.ref a)):=by
 obtain ⟨k,hk,e⟩:=h
 obtain ⟨j,e1,e2,e3,e4⟩:=q0x s hk
 rw [e] at e4
 exact ⟨k,j,e1,e2,n0y e4.symm,e⟩
theorem x0b (r:Rel K F σ ρ H) (s:Srcs K F σ ρ H ovs rs):hs (g0g F σ ρ H ovs (rs.map (d0u ρ))) ovs (rs.map (d0u ρ)) = hs F σ ρ:=by
 funext a
 apply propext
 constructor
 ·rintro ((h | h) | h)
  ·exact .inl h
  ·exact .inr h.1
  ·obtain ⟨k,j,e1,e2,e3,_⟩:=d0t s h
   exact .inr ⟨j,e2,e3⟩
 ·rintro (h | h)
  ·exact .inl (.inl h)
  ·by_cases q:b0q ovs (rs.map (d0u ρ)) a
   ·exact .inr q
   ·exact .inl (.inr ⟨h,q⟩)
theorem Rel.sub (r:Rel K F σ ρ H) (s:Srcs K F σ ρ H ovs rs) (hd:dis rs = true):Rel K (g0g F σ ρ H ovs (rs.map (d0u ρ))) ovs (rs.map (d0u ρ)) H:=by
 refine ⟨by rw [s.length,List.length_map],fun a o e _=>e,fun a z=>?_,fun a h z=>?_,fun i a hi e=>.inl ⟨⟨hi,e⟩,i,hi,e⟩,fun i a h=>?_,fun a h=>?_,fun a h=>?_,fun i j a hi hj ei ej=>?_,fun k=>?_⟩
 ·rcases z with z | z
  ·exact r.zl a z
  ·exact t0n r z.1
 ·obtain ⟨k,j,e1,e2,e3,_⟩:=d0t s h
  rcases z with z | z
  ·exact r.zo a ⟨j,e2,e3⟩ z
  ·exact z.2 h
 ·rcases h with h | h
  ·exact h.2
  ·exact h.elim
 ·obtain ⟨k,j,e1,e2,e3,_⟩:=d0t s h
  exact e0q r ⟨j,e2,e3⟩
 ·obtain ⟨k,j,e1,e2,e3,_⟩:=d0t s h
  exact e0q r ⟨j,e2,e3⟩
 ·obtain ⟨p,a1,a2,a3,a4⟩:=q0x s hi
  obtain ⟨p',b1,b2,b3,b4⟩:=q0x s hj
  rw [ei] at a4
  rw [ej] at b4
  have:p = p':=r.nd p p' a a2 b2 (n0y a4.symm) (n0y b4.symm)
  subst this
  exact c1n hd a1 b1
 ·rw [x0b r s,q0b]
  cases e:rs[k]? with
  | none=>trivial
  | some x =>
   obtain ⟨ov,e1,e2⟩:=s.get e
   cases x with
   | n d=>trivial
   | t d=>trivial
   | x d=>trivial
   | d d=>obtain ⟨v,e3,e4⟩:=e2; rw [e1,e3]; exact ⟨v,rfl,e4⟩
   | o j =>
    rw [e1]
    have q:=r.sl j
    show SvOk K _ H (some ov) (gt ρ j)
    rw [← show (σ[j]?).getD none = ov from e2]
    cases e5:σ[j]? with
    | none =>
     rw [e5] at q
     cases hg:gt ρ j with
     | un=>trivial
     | vl d=>rw [hg] at q; obtain ⟨x,z,_⟩:=q; cases z
     | ow d=>rw [hg] at q; obtain ⟨x,_,z,_⟩:=q; cases z
     | tp d=>rw [hg] at q; obtain ⟨x,_,_,_,_,z,_⟩:=q; cases z
     | dk d=>rw [hg] at q; obtain ⟨x,_,z,_⟩:=q; cases z
     | dt d=>rw [hg] at q; obtain ⟨x,_,z,_⟩:=q; cases z
     | ex d m=>rw [hg] at q; obtain ⟨x,_,z,_⟩:=q; cases z
     | sc d=>rw [hg] at q; obtain ⟨x,z,_⟩:=q; cases z
     | px d m k=>rw [hg] at q; obtain ⟨x,_,_,_,z,_⟩:=q; cases z
    | some y=>rw [e5] at q; exact q
theorem Rel.back (r:Rel K F σ ρ H) (s:Srcs K F σ ρ H ovs rs) (hd:dis rs = true) {ss':En} (r':Rel K (g0g F σ ρ H ovs (rs.map (d0u ρ))) ovs ss' H') (sb:∀ i,(gt ss' i).own = true→(gt (rs.map (d0u ρ)) i).own = true) :
  Rel K F σ (L2.back ρ rs ss') H'∧Kp σ ρ (L2.back ρ rs ss') H H'∧Same (hid H' (hs (g0g F σ ρ H ovs (rs.map (d0u ρ))) ovs ss')) (hid H' (hs F σ (L2.back ρ rs ss'))):=by
 have ln:ss'.length = rs.length:=by rw [← r'.len,s.length]
 have cs:∀ i:Nat,(∃ k:Nat,rs[k]? = some (R.o i)∧i < ρ.length∧gt (L2.back ρ rs ss') i = gt ss' k) ∨ ((∀ k:Nat,i < ρ.length→rs[k]? ≠ some (R.o i))∧gt (L2.back ρ rs ss') i = gt ρ i):=fun i=>by
  by_cases hi:i < ρ.length
  ·by_cases q:∃ k:Nat,rs[k]? = some (R.o i)
   ·obtain ⟨k,e⟩:=q
    exact .inl ⟨k,e,hi,i0z rs ρ ss' i k hd e ln hi⟩
   ·exact .inr ⟨fun k _ z=>q ⟨k,z⟩,h0r rs ρ ss' i fun k z=>q ⟨k,z⟩⟩
  ·refine .inr ⟨fun k z=>absurd z hi,?_⟩
   rw [m0t _ i (by rw [f0x]; omega),m0t _ i (by omega)]
 have own':∀ i,(gt (L2.back ρ rs ss') i).own = true→(gt ρ i).own = true:=fun i h=>by
  rcases cs i with ⟨k,e,hi,g⟩ | ⟨_,g⟩
  ·rw [g] at h
   have:=sb k h
   rw [q0b,e] at this
   exact this
  ·rw [g] at h; exact h
 have subo:∀ {a},b0q σ (L2.back ρ rs ss') a→b0q σ ρ a:=fun ⟨i,hi,e⟩=>⟨i,own' i hi,e⟩
 have no:∀ a,¬ b0q σ ρ a→¬ b0q ovs (rs.map (d0u ρ)) a:=fun a h z=>by
  obtain ⟨k,j,e1,e2,e3,_⟩:=d0t s z
  exact h ⟨j,e2,e3⟩
 have st:∀ a o,H a = some o→¬ b0q ovs (rs.map (d0u ρ)) a→H' a = some o:=fun a o e n=>r'.fr a o e n
 have hsub:∀ a,hs F σ (L2.back ρ rs ss') a→hs (g0g F σ ρ H ovs (rs.map (d0u ρ))) ovs ss' a:=fun a h=>by
  rcases h with h | ⟨i,hi,e⟩
  ·exact .inl (.inl h)
  ·rcases cs i with ⟨k,e1,hl,g⟩ | ⟨n,g⟩
   ·right
    rw [g] at hi
    obtain ⟨ov,q1,q2⟩:=s.get e1
    refine ⟨k,hi,?_⟩
    rw [q1,← show (σ[i]?).getD none = ov from q2,e]
    rfl
   ·left; right
    rw [g] at hi
    refine ⟨⟨i,hi,e⟩,fun z=>?_⟩
    obtain ⟨k,j,e1,e2,e3,_⟩:=d0t s z
    have:i = j:=r.nd i j a hi e2 e e3
    subst this
    exact n k (i0b hi) e1
 have v1:Same (hid H' (hs (g0g F σ ρ H ovs (rs.map (d0u ρ))) ovs ss')) (hid H' (hs F σ (L2.back ρ rs ss'))):=b0k fun a o e n=>⟨e,fun z=>n (hsub a z)⟩
 have v2:Same (hid H (hs F σ ρ)) (hid H' (hs F σ (L2.back ρ rs ss'))):=b0k fun a o e n=>⟨st a o e (no a fun z=>n (.inr z)),fun z=>n (z.imp id subo)⟩
 refine ⟨⟨by rw [f0x,r.len],fun a o e n=>?_,fun a z=>r'.zl a (.inl z),fun a h=>r.zo a (subo h),fun i a hi e=>r.ow i a (own' i hi) e,r.mi,r.ml,fun a z=>?_,fun i j a hi hj ei ej=>r.nd i j a (own' i hi) (own' j hj) ei ej,fun i=>?_⟩,⟨fun a o e n=>st a o e (no a n),own'⟩,v1⟩
 ·have e1:=r.fr a o e n
  refine st a o e1 fun z=>?_
  obtain ⟨k,j,h1,h2,h3,_⟩:=d0t s z
  rcases r.ow j a h2 h3 with q | q
  ·exact n q.2
  ·rw [e] at q; cases q
 ·by_cases q:b0q ovs (rs.map (d0u ρ)) a
  ·exact r'.ma a q
  ·cases h:H a with
   | none=>exact absurd h (r.ma a z)
   | some o=>rw [st a o h q]; exact fun z=>nomatch z
 ·rcases cs i with ⟨k,e1,hl,g⟩ | ⟨n,g⟩
  ·rw [g]
   have q:=(r'.sl k).keep v1 fun _ _ _ _ e=>e
   obtain ⟨ov,q1,q2⟩:=s.get e1
   rw [q1,← show (σ[i]?).getD none = ov from q2] at q
   cases e5:σ[i]? with
   | none =>
    rw [e5] at q
    cases hg:gt ss' k with
    | un=>trivial
    | vl d=>rw [hg] at q; obtain ⟨x,z,_⟩:=q; cases z
    | ow d=>rw [hg] at q; obtain ⟨x,_,z,_⟩:=q; cases z
    | tp d=>rw [hg] at q; obtain ⟨x,_,_,_,_,z,_⟩:=q; cases z
    | dk d=>rw [hg] at q; obtain ⟨x,_,z,_⟩:=q; cases z
    | dt d=>rw [hg] at q; obtain ⟨x,_,z,_⟩:=q; cases z
    | ex d m=>rw [hg] at q; obtain ⟨x,_,z,_⟩:=q; cases z
    | sc d=>rw [hg] at q; obtain ⟨x,z,_⟩:=q; cases z
    | px d m k=>rw [hg] at q; obtain ⟨x,_,_,_,z,_⟩:=q; cases z
   | some y=>rw [e5] at q; exact q
  ·rw [g]
   refine (r.sl i).keep v2 fun l o ho e h=>st l o h fun z=>?_
   obtain ⟨k,j,e1,e2,e3,_⟩:=d0t s z
   have:i = j:=r.nd i j l ho e2 e e3
   subst this
   exact n k (i0b ho) e1
end
abbrev ASp:=En→Ko→Prop
def F0 (vs:List V) (ss:En) (H:Hp) (Z:Addr→Prop):Fr:=⟨H,Z,fun a=>b0q (vs.map some) ss a,fun i a=>(gt ss i).own = true∧(vs.map some)[i]? = some (some (.ref a)),fun _ _=>False⟩
def spA (K:PySem.W.Frag) (S:ASp):Sp:=fun vs H Q _=>∃ ss Z q,Rel K (F0 vs ss H Z) (vs.map some) ss H∧S ss q ∧
 ∀ r ss' v H',q r ss'→(∀ i,(gt ss' i).own = true→(gt ss i).own = true)→(∀ i,r ≠ .o i)→RelR K (F0 vs ss H Z) (vs.map some) ss' v H' r→Q v H'
def g1u (S:ASp) (as:AA):AE:=fun ρ q=>as ρ fun rs ρ1=>dis rs = true∧S (rs.map (d0u ρ1)) fun r ss'=>q r (back ρ1 rs ss')
section
variable {K:PySem.W.Frag} {F:Fr} {σ:St} {ρ ρ':En} {H H':Hp} {ovs:St} {rs:List R}
theorem InFs.srcs {vs:List V} (h:InFs K F σ ρ H vs rs):Srcs K F σ ρ H (vs.map some) rs:=by
 induction h with
 | nil=>exact .nil
 | cons a t ih =>
  rename_i v r vs rs
  refine .cons ?_ ih
  cases r with
  | d d=>exact ⟨v,rfl,a⟩
  | o j=>show (σ[j]?).getD none = some v; rw [show σ[j]? = _ from a]; rfl
  | n s=>trivial
  | t n=>trivial
  | x n=>trivial
theorem a0m {S:ASp} {E:XK} {ts:TA} {as:AA} (hs':TAok K ts as):TEok K (w0z (spA K S) [] E ts) (g1u S as):=by
 intro F σ ρ H q Q r h k
 refine hs' F σ ρ H _ _ r h fun rs ρ1 vs H1 h1 r1 i1 k1=>?_
 obtain ⟨hd,hS⟩:=h1
 have s:=i1.srcs
 rw [List.append_nil]
 refine ⟨rs.map (d0u ρ1),(g0g F σ ρ1 H1 (vs.map some) (rs.map (d0u ρ1))).Z,_,r1.sub s hd,hS,fun rr ss' v H' hq sb no out=>?_⟩
 refine (k.after k1) rr (back ρ1 rs ss') v H' hq ?_
 cases rr with
 | o i=>exact absurd rfl (no i)
 | d d =>
  obtain ⟨a,b⟩:=out
  obtain ⟨x,y,z⟩:=r1.back s hd a sb
  exact ⟨x,y,RepD.same b z⟩
 | x sv =>
  obtain ⟨a,b,c⟩:=out
  obtain ⟨x,y,z⟩:=r1.back s hd a sb
  exact ⟨x,y,b,c.keep z fun l o ho=>by rw [b] at ho; cases ho⟩
 | t n =>
  obtain ⟨a,b⟩:=out
  obtain ⟨x,y,z⟩:=r1.back s hd a sb
  exact ⟨x,y,b⟩
 | n sv =>
  obtain ⟨Hb,l,o,a,b,c,e1,e2,e3⟩:=out
  obtain ⟨x,y,z⟩:=r1.back s hd a sb
  exact ⟨Hb,l,o,x,y,b,c.keep z fun _ _ _ _ e=>e,e1,e2,e3⟩
end
section
variable {K:PySem.W.Frag} {F:Fr} {σ σ':St} {ρ ρ':En} {H H':Hp}
open Classical in
noncomputable def rebase (F:Fr) (σ:St) (ρ:En) (H:Hp) (pin:Nat→Bool):Fr :=
 ⟨fun a=>if b0q σ ρ a∧F.H0 a = none then none else H a,F.Z,fun a=>F.M a∧b0q σ ρ a,F.I,fun i a=>F.P i a ∨ (pin i = true∧σ[i]? = some (some (.ref a)))⟩
open Classical in
theorem k0k {pin:Nat→Bool} {a:Addr} {o:HO} (h:¬ (b0q σ ρ a∧F.H0 a = none)) (e:H a = some o):(rebase F σ ρ H pin).H0 a = some o:=by
 show (if b0q σ ρ a∧F.H0 a = none then none else H a) = some o
 rw [if_neg h]; exact e
open Classical in
theorem i1d {pin:Nat→Bool} {a:Addr} {o:HO} (e:(rebase F σ ρ H pin).H0 a = some o):H a = some o:=by
 have e':(if b0q σ ρ a∧F.H0 a = none then none else H a) = some o:=e
 split at e'
 ·cases e'
 ·exact e'
open Classical in
theorem Rel.rebase (r:Rel K F σ ρ H) (pin:Nat→Bool):Rel K (L2.rebase F σ ρ H pin) σ ρ H where
 len:=r.len
 fr:=fun a o e _=>i1d e
 zl:=r.zl
 zo:=r.zo
 ow:=fun i a hi e=>by
  rcases r.ow i a hi e with ⟨h1,h2⟩ | h
  ·exact .inl ⟨h1,h2,i,hi,e⟩
  ·refine .inr ?_
   show (if b0q σ ρ a∧F.H0 a = none then none else H a) = none
   rw [if_pos ⟨⟨i,hi,e⟩,h⟩]
 mi:=fun i a h=>by
  rcases h with h | h | h
  ·exact r.mi i a (.inl h)
  ·exact r.mi i a (.inr h)
  ·exact h.2
 ml:=fun a h=>by
  cases e:H a with
  | none=>exact absurd e (r.ma a h.1)
  | some o=>rw [k0k (fun z=>r.ml a h.1 z.2) e]; exact fun z=>nomatch z
 ma:=fun a h=>r.ma a h.1
 nd:=r.nd
 sl:=r.sl
theorem Rel.unbase {pin:Nat→Bool} (r:Rel K F σ ρ H) (r':Rel K (L2.rebase F σ ρ H pin) σ' ρ' H'):Rel K F σ' ρ' H'∧Same (hid H (hs F σ ρ)) (hid H' (hs F σ' ρ')):=by
 refine ⟨⟨r'.len,fun a o e n=>?_,r'.zl,r'.zo,fun i a hi e=>?_,fun i a h=>r'.mi i a (h.imp id .inl),r.ml,fun a h=>?_,r'.nd,r'.sl⟩,b0k fun a o e n=>?_⟩
 ·exact r'.fr a o (k0k (fun z=>by rw [e] at z; cases z.2) (r.fr a o e n)) fun z=>n z.1
 ·rcases r'.ow i a hi e with ⟨h1,h2⟩ | h
  ·exact .inl ⟨h1,h2.1⟩
  ·right
   cases h0:F.H0 a with
   | none=>rfl
   | some o =>
    exfalso
    have nn:H a ≠ none:=by
     by_cases q:F.M a
     ·exact r.ma a q
     ·rw [r.fr a o h0 q]; exact fun z=>nomatch z
    cases e2:H a with
    | none=>exact nn e2
    | some u =>
     rw [k0k (fun z=>by rw [h0] at z; cases z.2) e2] at h
     cases h
 ·by_cases q:b0q σ ρ a
  ·exact r'.ma a ⟨h,q⟩
  ·cases e:H a with
   | none=>exact absurd e (r.ma a h)
   | some o=>rw [r'.fr a o (k0k (fun z=>q z.1) e) fun z=>q z.2]; exact fun z=>nomatch z
 ·have n':¬ b0q σ ρ a:=fun z=>n (.inr z)
  have e0:=k0k (F:=F) (pin:=pin) (fun z=>n' z.1) e
  refine ⟨r'.fr a o e0 fun z=>n' z.2,fun z=>?_⟩
  rcases z with z | ⟨i,hi,ei⟩
  ·exact n (.inl z)
  ·rcases r'.ow i a hi ei with ⟨_,h2⟩ | h
   ·exact n' h2.2
   ·rw [e0] at h; cases h
theorem RelR.unbase {pin:Nat→Bool} {v:V} {rr:R} (r:Rel K F σ ρ H) (r':RelR K (L2.rebase F σ ρ H pin) σ' ρ' v H' rr):RelR K F σ' ρ' v H' rr:=by
 cases rr with
 | d d=>exact ⟨(r.unbase r'.1).1,r'.2⟩
 | o d=>exact ⟨(r.unbase r'.1).1,r'.2⟩
 | t d=>exact ⟨(r.unbase r'.1).1,r'.2⟩
 | x d=>exact ⟨(r.unbase r'.1).1,r'.2⟩
 | n s =>
  obtain ⟨Hb,l,o,a,b,c,e⟩:=r'
  exact ⟨Hb,l,o,(r.unbase a).1,b,c,e⟩
end
structure c1q (K:PySem.W.Frag) (F:Fr) (D:Ends) (e:AEnds):Prop where
 nx:∀ σ' ρ' H',e.nx ρ'→Rel K F σ' ρ' H'→D.nx σ' H'
 bk:∀ σ' ρ' H',e.bk ρ'→Rel K F σ' ρ' H'→D.bk σ' H'
 ct:∀ σ' ρ' H',e.ct ρ'→Rel K F σ' ρ' H'→D.ct σ' H'
 rt:∀ σ' ρ' r v H',e.rt r ρ'→RelR K F σ' ρ' v H' r→D.rt v H'
def TSok (K:PySem.W.Frag) (pr:Nat→Bool) (t:TS) (a:AS):Prop:=∀ F σ ρ H D e,(∀ i a,F.pin i a→pr i = true)→Rel K F σ ρ H→a e ρ→c1q K F D e→t D σ H
abbrev AG:=D→En→(En→Prop)→Prop
abbrev AGs:=List D→En→(En→Prop)→Prop
def TGok (K:PySem.W.Frag) (pr:Nat→Bool) (g:TG) (ag:AG):Prop:=∀ F σ ρ H v d k Q,(∀ i a,F.pin i a→pr i = true)→Rel K F σ ρ H→RepD K (hid H (hs F σ ρ)) v d→ag d ρ k →
 (∀ σ' ρ',k ρ'→Rel K F σ' ρ' H→σ'.length = σ.length→(∀ i,pr i = true→σ'[i]? = σ[i]?)→(∀ i,(gt ρ' i).own = true→(gt ρ i).own = true∧σ'[i]? = σ[i]?)→Q σ' H)→g v σ H Q
def c1p (K:PySem.W.Frag) (pr:Nat→Bool) (n:Nat) (g:TGs) (ag:AGs):Prop:=(∀ ds ρ k,ag ds ρ k→ds.length = n)∧∀ F σ ρ H vs ds k Q,(∀ i a,F.pin i a→pr i = true)→Rel K F σ ρ H→RepDs K (hid H (hs F σ ρ)) vs ds→ag ds ρ k →
 (∀ σ' ρ',k ρ'→Rel K F σ' ρ' H→σ'.length = σ.length→(∀ i,pr i = true→σ'[i]? = σ[i]?)→(∀ i,(gt ρ' i).own = true→(gt ρ i).own = true∧σ'[i]? = σ[i]?)→Q σ' H)→g vs σ H Q
section
variable {K:PySem.W.Frag} {pr:Nat→Bool} {t u:TS} {a b:AS} {te:TE} {ae:AE} {tt:TT} {at':AT}
theorem p0k {F:Fr} {i:Nat} (hp:∀ i a,F.pin i a→pr i = true) (h:pr i = false):∀ a,¬ F.pin i a:=fun a z=>by rw [hp i a z] at h; cases h
def t0y (i:Nat):AG:=fun d ρ k=>k (pt ρ i (.vl d))
theorem a0i {i:Nat} (h:pr i = false):TGok K pr (v0q i) (t0y i):=by
 intro F σ ρ H v d k Q hp r hd ha kk
 refine kk _ _ ha (r.set hd (p0k hp h)) (by rw [List.length_set]) (fun j hj=>?_) fun j hj=>?_
 ·rw [List.getElem?_set_ne]; rintro rfl; rw [h] at hj; cases hj
 ·obtain ⟨ne,q⟩:=e0c rfl hj
  exact ⟨q,by rw [List.getElem?_set_ne ne]⟩
def gaNil:AGs:=fun ds ρ k=>match ds with
 | []=>k ρ
 | _=>False
def z0g (g:AG) (gs:AGs):AGs:=fun ds ρ k=>match ds with
 | d :: r=>g d ρ fun ρ1=>gs r ρ1 k
 | []=>False
theorem b0r:c1p K pr 0 gNil gaNil:=by
 refine ⟨fun ds ρ k h=>?_,?_⟩
 ·cases ds with
  | nil=>rfl
  | cons _ _=>exact h.elim
 intro F σ ρ H vs ds k Q hp r hd ha kk
 cases ds with
 | cons _ _=>exact ha.elim
 | nil =>
  cases vs with
  | nil=>exact ⟨rfl,kk _ _ ha r rfl (fun _ _=>rfl) fun _ h=>⟨h,rfl⟩⟩
  | cons v vs=>unfold RepDs at hd; exact hd.elim
theorem y0d {F:Fr} {σ σ':St} {ρ ρ':En} {H:Hp} (h:∀ i,(gt ρ' i).own = true→(gt ρ i).own = true∧σ'[i]? = σ[i]?):Same (hid H (hs F σ ρ)) (hid H (hs F σ' ρ')):=b0k fun a o e n=>⟨e,fun z=>by
 rcases z with z | ⟨i,hi,ei⟩
 ·exact n (.inl z)
 ·obtain ⟨q1,q2⟩:=h i hi
  exact n (.inr ⟨i,q1,q2 ▸ ei⟩)⟩
theorem a0n {g:TG} {gs:TGs} {ag:AG} {ags:AGs} {n:Nat} (h:TGok K pr g ag) (hs':c1p K pr n gs ags) (gl:∀ d ρ k,ag d ρ k→∃ ρ',k ρ'):c1p K pr (n + 1) (c1f g gs) (z0g ag ags):=by
 refine ⟨fun ds ρ k ha=>?_,?_⟩
 ·cases ds with
  | nil=>exact ha.elim
  | cons d ds=>obtain ⟨ρ',q⟩:=gl _ _ _ ha; rw [List.length_cons,hs'.1 _ _ _ q]
 intro F σ ρ H vs ds k Q hp r hd ha kk
 cases ds with
 | nil=>exact ha.elim
 | cons d ds =>
  cases vs with
  | nil=>unfold RepDs at hd; exact hd.elim
  | cons v vs =>
   unfold RepDs at hd
   refine ⟨v,vs,rfl,h F σ ρ H v d _ _ hp r hd.1 ha fun σ1 ρ1 h1 r1 l1 p1 o1=>?_⟩
   refine hs'.2 F σ1 ρ1 H vs ds _ _ hp r1 (hd.2.same (y0d o1)) h1 fun σ2 ρ2 h2 r2 l2 p2 o2=>?_
   refine kk _ _ h2 r2 (l2.trans l1) (fun i hi=>(p2 i hi).trans (p1 i hi)) fun i hi=>?_
   obtain ⟨a1,a2⟩:=o2 i hi
   obtain ⟨b1,b2⟩:=o1 i a1
   exact ⟨b1,a2.trans b2⟩
def g1b (n:Nat) (gs:AGs):AG:=fun d ρ k=>match d with
 | .tup ds=>gs ds ρ k
 | _=>False
theorem b0g {i:Nat} {d:D} {ρ:En} {k:En→Prop} (h:t0y i d ρ k):∃ ρ',k ρ':=⟨_,h⟩
theorem c0c {gs:TGs} {ags:AGs} {n:Nat} (hs':c1p K pr n gs ags):TGok K pr (gTup K n gs) (g1b n ags):=by
 intro F σ ρ H v d k Q hp r hd ha kk
 unfold g1b at ha
 split at ha
 ·rename_i ds
  unfold RepD at hd
  obtain ⟨p,vs,rfl,sq,rd⟩:=hd
  exact ⟨p,vs,rfl,c0j.seqT sq.sq,by rw [rd.length]; exact hs'.1 _ _ _ ha,hs'.2 F σ ρ H vs ds k Q hp r rd ha kk⟩
 ·exact ha.elim
def aNext:AS:=fun e ρ=>e.nx ρ
def aSeq (a b:AS):AS:=fun e ρ=>a { e with nx:=b e } ρ
theorem a0w:TSok K pr tNext aNext:=fun F σ ρ H D e hp r h k=>k.nx _ _ _ h r
theorem a0h (ha:TSok K pr t a) (hb:TSok K pr u b):TSok K pr (tSeq t u) (aSeq a b):=fun F σ ρ H D e hp r h k =>
 ha F σ ρ H _ _ hp r h ⟨fun σ' ρ' H' h' r'=>hb F σ' ρ' H' D e hp r' h' k,k.bk,k.ct,k.rt⟩
def l1j (x:AE):AS:=fun e ρ=>x ρ fun _ ρ1=>e.nx ρ1
theorem d0g (h:TEok K te ae):TSok K pr (h1v te) (l1j ae):=fun F σ ρ H D e hp r ha k =>
 h F σ ρ H _ _ r ha fun r1 ρ1 v H1 h1 o=>k.nx _ _ _ h1 o.inF.1
def aRet (x:AE):AS:=fun e ρ=>x ρ e.rt
theorem b0e (h:TEok K te ae):TSok K pr (tRet te) (aRet ae):=fun F σ ρ H D e hp r ha k =>
 h F σ ρ H _ _ r ha fun r1 ρ1 v H1 h1 o=>k.rt _ _ _ _ _ h1 o.rel
def aIfS (c:AT) (a b:AS):AS:=fun e ρ=>c ρ fun k ρ1=>if k = true then a e ρ1 else b e ρ1
theorem c0h (hc:TTok K tt at') (ha:TSok K pr t a) (hb:TSok K pr u b):TSok K pr (tIfS tt t u) (aIfS at' a b):=by
 intro F σ ρ H D e hp r h k
 refine hc F σ ρ H _ _ r h fun c ρ1 H1 h1 r1 k1=>?_
 cases c with
 | true=>exact ha F σ ρ1 H1 D e hp r1 h1 k
 | false=>exact hb F σ ρ1 H1 D e hp r1 h1 k
def stS (i:Nat):R→En→(En→Prop)→Prop
 | .d d,ρ,k=>k (pt ρ i (.vl d))
 | .n s,ρ,k=>k (pt ρ i s)
 | .o j,ρ,k=>(match gt ρ j with
  | .ow ds=>k (pt (pt ρ j (.vl (.lst ds))) i (.vl (.lst ds)))
  | .vl d=>k (pt ρ i (.vl d))
  | .ex C fs=>k (pt ρ i (.ex C fs))
  | _=>False)
 | .t _,_,_=>False
 | .x s,ρ,k=>k (pt ρ i s)
def aSet (i:Nat) (x:AE):AS:=fun e ρ=>x ρ fun r ρ1=>stS i r ρ1 e.nx
theorem d1c {i:Nat} (hi:pr i = false) (h:TEok K te ae):TSok K pr (fun D σ H=>te σ H fun v H'=>D.nx (σ.set i (some v)) H') (aSet i ae):=by
 intro F σ ρ H D e hp r ha k
 refine h F σ ρ H _ _ r ha fun r1 ρ1 v H1 h1 o=>?_
 have np:=p0k hp hi
 cases r1 with
 | d d=>exact k.nx _ _ _ h1 (o.1.set o.2.2 np)
 | t n=>exact h1.elim
 | x s=>exact k.nx _ _ _ h1 (o.1.setS o.2.2.1 o.2.2.2 np)
 | n s =>
  obtain ⟨Hb,l,u,a1,a2,a3,a4,a5,rfl,rfl⟩:=o
  exact k.nx _ _ _ h1 (a1.setF a3 a4 a5 np)
 | o j =>
  obtain ⟨r1,k1,ej⟩:=o
  have h2:(match gt ρ1 j with
   | .ow ds=>e.nx (pt (pt ρ1 j (.vl (.lst ds))) i (.vl (.lst ds)))
   | .vl d=>e.nx (pt ρ1 i (.vl d))
   | .ex C fs=>e.nx (pt ρ1 i (.ex C fs))
   | _=>False):=h1
  clear h1
  split at h2
  ·rename_i ds hg
   obtain ⟨l,el,r2,k2,rd⟩:=r1.frz hg
   rw [ej] at el
   injection el with el; injection el with el; subst el
   exact k.nx _ _ _ h2 (r2.set rd np)
  ·rename_i d hg
   have q:=r1.sl j
   rw [hg] at q
   obtain ⟨x,e1,e2⟩:=q
   rw [ej] at e1
   injection e1 with e1; injection e1 with e1; subst e1
   exact k.nx _ _ _ h2 (r1.set e2 np)
  ·rename_i C fs hg
   have q:=r1.sl j
   rw [hg,ej] at q
   exact k.nx _ _ _ h2 (r1.setS rfl q np)
  ·exact h2.elim
theorem b0a {i:Nat} (h:TEok K te ae) (hi:pr i = false):TSok K pr (tAsg te (v0q i)) (aSet i ae):=d1c hi h
theorem n0e {i n:Nat} {js:List Nat} {wi:TI} {g:TG} {tc:TT} (h:TEok K (w0y n js wi g tc te) ae) (hi:pr i = false):TSok K pr (fun D σ H=>w0y n js wi g tc te σ H fun v H'=>D.nx (σ.set i (some v)) H') (aSet i ae):=d1c hi h
def aAsg (x:AE) (g:AG):AS:=fun e ρ=>x ρ fun r ρ1=>sto [r.frz] ρ1 fun ds ρ2=>match ds with
 | [d]=>g d ρ2 e.nx
 | _=>False
theorem e0n {g:TG} {ag:AG} (h:TEok K te ae) (hg:TGok K pr g ag):TSok K pr (tAsg te g) (aAsg ae ag):=by
 intro F σ ρ H D e hp r ha k
 refine h F σ ρ H _ _ r ha fun r1 ρ1 v H1 h1 o=>?_
 obtain ⟨r',k1,i1⟩:=o.inF
 obtain ⟨ds,ρ2,h2,r2,k2,rd⟩:=f0y r' (.cons i1 .nil) h1
 split at h2
 ·rename_i d
  unfold RepDs at rd
  exact hg F σ ρ2 H1 v d _ _ hp r2 rd.1 h2 fun σ3 ρ3 h3 r3 _ _ _=>k.nx _ _ _ h3 r3
 ·exact h2.elim
@[irreducible] def setI (es:List D) (k:Int) (d:D) (q:List D→Prop):Prop:=match ixN es.length k with
 | some p=>q (es.set p d)
 | none=>False
theorem b1b {es:List D} {k:Int} {d:D} {q:List D→Prop} (h:setI es k d q):∃ p,ixN es.length k = some p∧q (es.set p d):=by
 unfold setI at h
 split at h
 ·rename_i p e; exact ⟨p,e,h⟩
 ·exact h.elim
theorem j0u {es:List D} {k:Nat} {d:D} {q:List D→Prop} (h:k < es.length) (hq:q (es.set k d)):setI es ((k:Nat):Int) d q:=by
 unfold setI ixN
 rw [if_pos (by omega),if_pos (by omega),Int.toNat_natCast]
 exact hq
def l1e (x o i:AE):AS:=fun e ρ=>x ρ fun r ρ1=>sto [r.frz] ρ1 fun ds ρ2=>o ρ2 fun r2 ρ3=>match r2 with
 | .o j=>i ρ3 fun r3 ρ4=>(match r3,gt ρ4 j,ds with
  | .d (.int k),.ow es,[d]=>setI es k d fun es'=>e.nx (pt ρ4 j (.ow es'))
  | _,_,_=>False)
 | _=>False
theorem RepDs.set {H:Hp}:∀ {vs:List V} {ds:List D} {v:V} {d:D} (p:Nat),RepDs K H vs ds→RepD K H v d→RepDs K H (vs.set p v) (ds.set p d)
 | [],[],_,_,p,h,_=>by simp [RepDs.nil]
 | v :: vs,d :: ds,_,_,0,h,q=>by unfold RepDs at h; exact .cons q h.2
 | v :: vs,d :: ds,_,_,p + 1,h,q=>by unfold RepDs at h; exact .cons h.1 (RepDs.set p h.2 q)
 | [],d :: ds,_,_,_,h,_=>by unfold RepDs at h; exact h.elim
 | v :: vs,[],_,_,_,h,_=>by unfold RepDs at h; exact h.elim
theorem j0s {to ti:TE} {ao ai:AE} (h:TEok K te ae) (ho:TEok K to ao) (hi:TEok K ti ai):TSok K pr (tAsg te (gSub to ti rSetL)) (l1e ae ao ai):=by
 intro F σ ρ H D e hp r ha k
 refine h F σ ρ H _ _ r ha fun r1 ρ1 v H1 h1 o=>?_
 obtain ⟨r',k1,i1⟩:=o.inF
 obtain ⟨ds,ρ2,h2,r2,k2,rd⟩:=f0y r' (.cons i1 .nil) h1
 refine ho F σ ρ2 H1 _ _ r2 h2 fun r3 ρ3 x H3 h3 o3=>?_
 obtain ⟨r3',k3,i3⟩:=o3.inF
 split at h3
 ·rename_i j
  have ej:σ[j]? = some (some x):=i3
  refine hi F σ ρ3 H3 _ _ r3' h3 fun r4 ρ4 y H4 h4 o4=>?_
  obtain ⟨r4',k4,i4⟩:=o4.inF
  split at h4
  ·rename_i d hg
   obtain ⟨p,hx,h4⟩:=b1b h4
   have q:=r4'.sl j
   rw [hg,ej] at q
   obtain ⟨l,us,e1,hl,rd'⟩:=q
   injection e1 with e1; injection e1 with e1; subst e1
   unfold RepDs at rd
   have rd4:=(RepD.same rd.1 (k3.trans k4).vis)
   have hw:=r4'.write (i:=j) (l:=l) (o:=.lst (us.set p v)) (s:=.ow _) (by rw [hg]; rfl) ej rfl ⟨l,_,rfl,a0v,rd'.set p rd4⟩
   exact ⟨l,us,_,p,rfl,i4.int,hl,by rw [rd'.length]; exact hx,k.nx _ _ _ h4 hw.1⟩
  ·exact h4.elim
 ·exact h3.elim
def aAug (i:Nat) (x:AE) (f:Int→Int→Int):AS:=fun e ρ=>match gt ρ i with
 | .vl (.int p)=>x ρ fun r ρ1=>(match r with
  | .d (.int y)=>e.nx (pt ρ1 i (.vl (.int (f p y))))
  | _=>False)
 | _=>False
theorem x0g {i:Nat} {f:Int→Int→Int} (h:TEok K te ae) (hi:pr i = false):TSok K pr (tAug i te (ipI f)) (aAug i ae f):=by
 intro F σ ρ H D e hp r ha k
 unfold aAug at ha
 split at ha
 ·rename_i p hg
  have q:=r.sl i
  rw [hg] at q
  obtain ⟨x,e1,e2⟩:=q
  unfold RepD at e2; subst e2
  refine ⟨_,e1,h F σ ρ H _ _ r ha fun r1 ρ1 v H1 h1 o=>?_⟩
  obtain ⟨r',k1,i1⟩:=o.inF
  split at h1
  ·exact ⟨_,_,rfl,i1.int,k.nx _ _ _ h1 (r'.set (by unfold RepD; rfl) (p0k hp hi))⟩
  ·exact h1.elim
 ·exact ha.elim
def whA (c:AT) (b:AS) (e:AEnds):Nat→En→Prop
 | 0,_=>False
 | n + 1,ρ=>c ρ fun k ρ1=>if k = true then b { nx:=whA c b e n,ct:=whA c b e n,bk:=e.nx,rt:=e.rt } ρ1 else e.nx ρ1
def d1y (c:AT) (b:AS):AS:=fun e ρ=>∃ n,whA c b e n ρ
theorem o0t (hc:TTok K tt at') (hb:TSok K pr t a):TSok K pr (c1y tt t) (d1y at' a):=by
 intro F σ ρ H D e hp r ha k
 obtain ⟨n,ha⟩:=ha
 refine ⟨fun m σ H=>∃ ρ,Rel K F σ ρ H∧whA at' a e m ρ,⟨n,ρ,r,ha⟩,fun m σ H ⟨ρ,r,h⟩=>?_⟩
 cases m with
 | zero=>exact h.elim
 | succ m =>
  refine hc F σ ρ H _ _ r h fun c ρ1 H1 h1 r1 k1=>?_
  cases c with
  | false=>exact k.nx _ _ _ h1 r1
  | true =>
   refine ⟨fun σ' H'=>∃ ρ',Rel K F σ' ρ' H'∧whA at' a e m ρ',fun σ' H' h'=>⟨m,Nat.lt_succ_self m,h'⟩,?_⟩
   exact hb F σ ρ1 H1 _ _ hp r1 h1 ⟨fun σ' ρ' H' h' r'=>⟨ρ',r',h'⟩,k.nx,fun σ' ρ' H' h' r'=>⟨ρ',r',h'⟩,k.rt⟩
abbrev AI:=En→(List D→(En→Prop)→En→Prop)→Prop
def WkAt (K:PySem.W.Frag) (S:Addr→Prop) (H:Hp) (J:It) (ds:List D):Prop:=∀ k:Nat,(∀ d,ds[k]? = some d→J.go k H∧∀ x H',J.yld k H x H'→Same H H'∧RepD K (hid H' S) x d)∧(ds.length ≤ k→J.stop k H)
def TIok (K:PySem.W.Frag) (pin:Nat→Bool) (wi:TI) (ai:AI):Prop:=∀ F σ ρ H q Rk,Rel K F σ ρ H→ai ρ q→(∀ ds c ρ' J H',q ds c ρ'→Rel K F σ ρ' H'→Kp σ ρ ρ' H H' →
 (∀ σ2 ρ2 H2,Same (hid H' (hs F σ ρ')) (hid H2 (hs F σ2 ρ2))→(∀ i,SvOk K (hid H2 (hs F σ2 ρ2)) H2 σ2[i]? (gt ρ2 i))→(∀ j a,pin j = true→σ[j]? = some (some (.ref a))→σ2[j]? = some (some (.ref a)))→(∀ a,hs F σ2 ρ2 a→Nt H2 a)→c ρ2→WkAt K (hs F σ2 ρ2) H2 J ds)→Rk J H')→wi σ H Rk
def rngD (lo:Int) (n:Nat):List D:=(List.range n).map fun (i:Nat)=>D.int (lo + (i:Nat))
theorem d0r (lo:Int) (n:Nat):(rngD lo n).length = n:=by simp [rngD]
theorem h1i {S:Addr→Prop} {H:Hp} {lo:Int} {n:Nat}:WkAt K S H (Itr lo n) (rngD lo n):=by
 intro k
 constructor
 ·intro d h
  unfold rngD at h
  rw [List.getElem?_map] at h
  obtain ⟨j,e1,e2⟩:=Option.map_eq_some_iff.mp h
  have lt:k < n:=by
   rcases Nat.lt_or_ge k n with q | q
   ·exact q
   ·rw [List.getElem?_eq_none (by simpa using q)] at e1; cases e1
  rw [List.getElem?_range lt] at e1
  cases e1
  refine ⟨lt,fun x H' z=>⟨z.1 ▸ Same.refl H,?_⟩⟩
  rw [z.2,← e2]
  unfold RepD; rfl
 ·intro h; rw [d0r] at h; exact h
def l1g (as:AA):AI:=fun ρ q=>as ρ fun rs ρ1=>match rs with
 | [.d (.int j)]=>(-(2 ^ 62) ≤ j∧j < 2 ^ 62)∧q (rngD 0 j.toNat) (fun _=>True) ρ1
 | _=>False
theorem c0d {pin:Nat→Bool} {ta:TA} {as:AA} (h:TAok K ta as):TIok K pin (j1j ta) (l1g as):=by
 intro F σ ρ H q Rk r ha k
 refine h F σ ρ H _ _ r ha fun rs ρ1 vs H1 h1 r1 i1 k1=>?_
 split at h1
 ·obtain ⟨x,rfl,i⟩:=i1.one
  exact ⟨_,by rw [i.int],h1.1.1,h1.1.2,k _ _ _ _ _ h1.2 r1 k1 fun _ _ _ _ _ _ _ _=>h1i⟩
 ·exact h1.elim
def iSeq (K:PySem.W.Frag) (tl:TE):TI:=fun σ H R=>tl σ H fun x H1=>∃ a,x = .ref a∧(((∃ xs,SqL K H1 a xs)∧R (Itl K a) H1) ∨ ((∃ xs,SqT K H1 a xs)∧R (Itt K a) H1))
theorem i1g {X:Cx} {tg l:Expr} {tl:TE} (hl:PE X l tl):PI X tg l (iSeq X.K tl):=by
 intro pins s σ H R I h
 refine thn (hl pins s σ H _ I h) fun v s1 ⟨x,H1,I1,r1,q1⟩=>?_
 obtain ⟨a,e,⟨⟨xs,hq⟩,q⟩ | ⟨⟨xs,hq⟩,q⟩⟩:=q1
 ·subst e
  cases r1
  obtain ⟨its,rv,p,hz⟩:=I1.list hq
  refine wpAny_pyIter_list p.isList ?_
  refine ⟨s1.heap.objs.size,[s1.heap.objs.size],_,_,H1,rfl,I1.kept (t':=s1.toks) fun b o e=>Heap.get?_push_of_some _ e,w0h a _,⟨_,Heap.get?_push_size _ rfl,rfl,rfl⟩,fun b hb=>?_,q⟩
  have e:b = s1.heap.objs.size:=by simpa using hb
  subst e
  exact I1.fpOk (Nat.le_refl _) (I1.hok.fresh (Nat.le_refl _))
 ·subst e
  cases r1
  obtain ⟨its,rv,p,hz⟩:=I1.tuple hq
  refine wpAny_pyIter_tuple (show s1.heap.IsTuple a its.toArray from p) ?_
  refine ⟨s1.heap.objs.size,[s1.heap.objs.size],_,_,H1,rfl,I1.kept (t':=s1.toks) fun b o e=>Heap.get?_push_of_some _ e,u0q a _,⟨_,Heap.get?_push_size _ rfl,rfl,rfl⟩,fun b hb=>?_,q⟩
  have e:b = s1.heap.objs.size:=by simpa using hb
  subst e
  exact I1.fpOk (Nat.le_refl _) (I1.hok.fresh (Nat.le_refl _))
theorem g0i (K:PySem.W.Frag) {X:Cx} {tg l:Expr} {tl:TE} (hl:PE X l tl) (hK:X.K = K:=by rfl):PI X tg l (iSeq K tl):=by subst hK; exact i1g hl
theorem c1u {S:Addr→Prop} {H:Hp} {a:Addr} {vs:List V} {ds:List D} (h:SqL K H a vs) (rd:RepDs K (hid H S) vs ds):WkAt K S H (Itl K a) ds:=by
 intro k
 constructor
 ·intro d e
  obtain ⟨v,e1,rv⟩:=rd.get e
  refine ⟨⟨vs,v,h,e1⟩,fun x H' z=>⟨z.1 ▸ Same.refl H,?_⟩⟩
  have:=z.2 vs h
  rw [e1] at this; cases this; rw [z.1]; exact rv
 ·intro z; exact ⟨vs,h,by rw [rd.length]; exact z⟩
theorem h1h {S:Addr→Prop} {H:Hp} {a:Addr} {vs:List V} {ds:List D} (h:SqT K H a vs) (rd:RepDs K (hid H S) vs ds):WkAt K S H (Itt K a) ds:=by
 intro k
 constructor
 ·intro d e
  obtain ⟨v,e1,rv⟩:=rd.get e
  refine ⟨⟨vs,v,h,e1⟩,fun x H' z=>⟨z.1 ▸ Same.refl H,?_⟩⟩
  have:=z.2 vs h
  rw [e1] at this; cases this; rw [z.1]; exact rv
 ·intro z; exact ⟨vs,h,by rw [rd.length]; exact z⟩
def l1f (pin:Nat→Bool) (x:AE):AI:=fun ρ q=>x ρ fun r ρ1=>match r.frz with
 | .d (.lst ds)=>q ds (fun _=>True) ρ1
 | .d (.tup ds)=>q ds (fun _=>True) ρ1
 | .o i=>(match gt ρ1 i with
  | .ow ds=>pin i = true∧q ds (fun ρ2=>gt ρ2 i = .ow ds) ρ1
  | _=>False)
 | _=>False
theorem e0t {pin:Nat→Bool} (h:TEok K te ae):TIok K pin (iSeq K te) (l1f pin ae):=by
 intro F σ ρ H q Rk r ha k
 refine h F σ ρ H _ _ r ha fun r1 ρ1 x H1 h1 o1=>?_
 obtain ⟨r',k1,i1⟩:=o1.inF
 split at h1
 ·rename_i ds e
  rw [e] at i1
  have rd:RepD K _ x (.lst ds):=i1
  unfold RepD at rd
  obtain ⟨a,vs,rfl,sq,rd⟩:=rd
  refine ⟨a,rfl,.inl ⟨⟨vs,c0j.seq (StL.sq sq)⟩,k _ _ _ _ _ h1 r' k1 fun σ2 ρ2 H2 sm _ _ _ _=>?_⟩⟩
  exact c1u (c0j.seq (sm.seq (StL.sq sq))) (rd.same sm)
 ·rename_i ds e
  rw [e] at i1
  have rd:RepD K _ x (.tup ds):=i1
  unfold RepD at rd
  obtain ⟨a,vs,rfl,sq,rd⟩:=rd
  refine ⟨a,rfl,.inr ⟨⟨vs,c0j.seqT sq.sq⟩,k _ _ _ _ _ h1 r' k1 fun σ2 ρ2 H2 sm _ _ _ _=>?_⟩⟩
  exact h1h (c0j.seqT (sm.seqT sq.sq)) (rd.same sm)
 ·rename_i i e
  rw [e] at i1
  have ei:σ[i]? = some (some x):=i1
  split at h1
  ·rename_i ds hg
   have s:=r'.sl i
   rw [hg,ei] at s
   obtain ⟨a,vs,e1,hl,rd⟩:=s
   injection e1 with e1; injection e1 with e1; subst e1
   refine ⟨a,rfl,.inl ⟨⟨vs,SqL.of hl⟩,k _ _ _ _ _ h1.2 r' k1 fun σ2 ρ2 H2 sm sv pn _ hc=>?_⟩⟩
   have s2:=sv i
   rw [hc,pn i a h1.1 ei] at s2
   obtain ⟨a',vs',e2,hl',rd'⟩:=s2
   injection e2 with e2; injection e2 with e2; injection e2 with e2; subst e2
   exact c1u (SqL.of hl') rd'
  ·exact h1.elim
 ·exact h1.elim
def forA (c:En→Prop) (g:AG) (b:AS) (e:AEnds):List D→En→Prop
 | [],ρ=>c ρ∧e.nx ρ
 | d :: ds,ρ=>c ρ∧g d ρ fun ρ1=>b { nx:=forA c g b e ds,ct:=forA c g b e ds,bk:=e.nx,rt:=e.rt } ρ1
def aFor (i:AI) (g:AG) (b:AS):AS:=fun e ρ=>i ρ fun ds c ρ1=>forA c g b e ds ρ1
theorem c0x {pin:Nat→Bool} {wi:TI} {ai:AI} {g:TG} {ag:AG} (hi:TIok K pin wi ai) (hg:TGok K (fun j=>pr j || pin j) g ag) (hb:TSok K (fun j=>pr j || pin j) t a):TSok K pr (tFor wi g t) (aFor ai ag a):=by
 intro F σ ρ H D e hp r ha k
 refine hi F σ ρ H _ _ r ha fun ds c ρ1 J H1 h1 r1 k1 wk=>?_
 have hp':∀ i a,(rebase F σ ρ1 H1 pin).pin i a→(pr i || pin i) = true:=fun i a h=>by
  rcases h with h | h | h
  ·rw [hp i a (.inl h)]; rfl
  ·rw [hp i a (.inr h)]; rfl
  ·rw [h.1]; cases pr i <;> rfl
 have ek:c1q K (rebase F σ ρ1 H1 pin) D e:=⟨fun _ _ _ h' r'=>k.nx _ _ _ h' (r1.unbase r').1,fun _ _ _ h' r'=>k.bk _ _ _ h' (r1.unbase r').1,fun _ _ _ h' r'=>k.ct _ _ _ h' (r1.unbase r').1,fun _ _ _ _ _ h' r'=>k.rt _ _ _ _ _ h' (RelR.unbase r1 r')⟩
 refine ⟨fun i m σ' H'=>∃ ρ',m = ds.length - i∧i ≤ ds.length∧Rel K (rebase F σ ρ1 H1 pin) σ' ρ' H'∧forA c ag a e (ds.drop i) ρ',⟨ds.length,ρ1,rfl,Nat.zero_le _,r1.rebase pin,h1⟩,?_⟩
 rintro i m σ' H' ⟨ρ',rfl,hl,r',h'⟩
 have w:c ρ'→WkAt K (hs F σ' ρ') H' J ds:=fun hc=>wk σ' ρ' H' (r1.unbase r').2 r'.sl (fun j x hj ej=>r'.mi j x (.inr (.inr ⟨hj,ej⟩))) (fun a z=>c1a r' z) hc
 rcases Nat.lt_or_ge i ds.length with q | q
 ·right
  rw [List.drop_eq_getElem_cons q] at h'
  unfold forA at h'
  obtain ⟨hc,h'⟩:=h'
  obtain ⟨go,yld⟩:=(w hc i).1 ds[i] (List.getElem?_eq_getElem q)
  refine ⟨go,fun σ2 H2=>∃ ρ2,Rel K (rebase F σ ρ1 H1 pin) σ2 ρ2 H2∧forA c ag a e (ds.drop (i + 1)) ρ2,fun σ2 H2 ⟨ρ2,r2,h2⟩=>⟨ds.length - (i + 1),by omega,ρ2,rfl,q,r2,h2⟩,fun x H2 hy=>?_⟩
  obtain ⟨sm,rd⟩:=yld x H2 hy
  refine hg _ σ' ρ' _ x _ _ _ hp' (r'.grow sm) rd h' fun σ3 ρ3 h3 r3 _ _ _=>?_
  exact hb _ σ3 ρ3 _ _ _ hp' r3 h3 ⟨fun σ' ρ' H' h' r'=>⟨ρ',r',h'⟩,ek.nx,fun σ' ρ' H' h' r'=>⟨ρ',r',h'⟩,ek.rt⟩
 ·left
  rw [List.drop_eq_nil_of_le q] at h'
  unfold forA at h'
  obtain ⟨hc,h'⟩:=h'
  exact ⟨(w hc i).2 q,ek.nx _ _ _ h' r'⟩
end
def blkE (n:Nat) (js:List Nat) (ρ:En):En:=List.replicate n .un ++ js.map (gt ρ)
def blkR (n:Nat) (js:List Nat):List R:=List.replicate n (R.t "") ++ js.map R.o
theorem d0f (n:Nat) (js:List Nat) (ρ:En):(blkR n js).map (d0u ρ) = blkE n js ρ:=by
 unfold blkR blkE
 rw [List.map_append,List.map_replicate,List.map_map]
 rfl
theorem o0k (js:List Nat):∀ n,dis (blkR n js) = dis (js.map R.o)
 | 0=>rfl
 | n + 1=>by
  show dis (R.t "" :: blkR n js) = _
  exact o0k js n
theorem q0n (js:List Nat) (ρ:En) (n:Nat):∀ ss:En,ss.length = n + js.length→back ρ (blkR n js) ss = back ρ (js.map R.o) (ss.drop n):=by
 induction n with
 | zero=>intro ss _; rfl
 | succ n ih =>
  intro ss h
  cases ss with
  | nil=>simp at h; omega
  | cons s ss=>exact ih ss (by simp at h; omega)
theorem u0k {n:Nat} {js:List Nat} {ρ:En} {i:Nat} (h:(gt (blkE n js ρ) i).own = true):n ≤ i:=by
 rcases Nat.lt_or_ge i n with q | q
 ·exfalso
  have:∀ (n i:Nat) (x:En),i < n→gt (List.replicate n Sv.un ++ x) i = .un:=by
   intro n
   induction n with
   | zero=>intro i x h; omega
   | succ n ih =>
    intro i x h
    cases i with
    | zero=>rfl
    | succ i=>exact ih i x (by omega)
  unfold blkE at h
  rw [this n i _ q] at h
  cases h
 ·exact q
section
variable {K:PySem.W.Frag} {F:Fr} {σ σ':St} {ρ ρ':En} {H H':Hp}
theorem u0j (n:Nat) (js:List Nat):Srcs K F σ ρ H (bst n σ js) (blkR n js):=by
 unfold bst blkR
 induction n with
 | zero =>
  induction js with
  | nil=>exact .nil
  | cons j js ih=>exact .cons rfl ih
 | succ n ih=>exact .cons trivial ih
theorem l0j:∀ (n i:Nat) (ρ:En),gt (ρ.drop n) i = gt ρ (n + i)
 | 0,i,ρ=>by simp
 | n + 1,i,[]=>by simp [gt]
 | n + 1,i,s :: ρ=>by rw [List.drop_succ_cons,l0j n i ρ,Nat.add_right_comm]; rfl
theorem q0a:∀ (n i:Nat) (x:En),gt (List.replicate n Sv.un ++ x) i = if i < n then .un else gt x (i - n)
 | 0,i,x=>by simp
 | n + 1,0,x=>by simp [List.replicate_succ,gt]
 | n + 1,i + 1,x=>by
  show gt (List.replicate n Sv.un ++ x) i = _
  rw [q0a n i x]
  by_cases h:i < n
  ·rw [if_pos h,if_pos (by omega)]
  ·rw [if_neg h,if_neg (by omega)]; congr 1; omega
theorem Rel.forget {n:Nat} (r:Rel K F σ ρ H) (hn:n ≤ σ.length) (hp:∀ i a,F.pin i a→n ≤ i):Rel K F (List.replicate n none ++ σ.drop n) (List.replicate n .un ++ ρ.drop n) H∧Same (hid H (hs F σ ρ)) (hid H (hs F (List.replicate n none ++ σ.drop n) (List.replicate n .un ++ ρ.drop n))):=by
 have g:∀ i,gt (List.replicate n .un ++ ρ.drop n) i = if i < n then .un else gt ρ i:=fun i=>by
  rw [q0a]
  split
  ·rfl
  ·rw [l0j]; congr 1; omega
 have s:∀ i,n ≤ i→(List.replicate n none ++ σ.drop n)[i]? = σ[i]?:=fun i h=>by
  rw [List.getElem?_append_right (by simpa using h),List.length_replicate,List.getElem?_drop]
  congr 1; omega
 have own':∀ i,(gt (List.replicate n .un ++ ρ.drop n) i).own = true→n ≤ i∧(gt ρ i).own = true:=fun i h=>by
  rw [g] at h
  split at h
  ·cases h
  ·exact ⟨by omega,h⟩
 have sub:∀ a,b0q (List.replicate n none ++ σ.drop n) (List.replicate n .un ++ ρ.drop n) a→b0q σ ρ a:=fun a ⟨i,hi,e⟩=>by
  obtain ⟨h1,h2⟩:=own' i hi
  rw [s i h1] at e
  exact ⟨i,h2,e⟩
 have vis:Same (hid H (hs F σ ρ)) (hid H (hs F (List.replicate n none ++ σ.drop n) (List.replicate n .un ++ ρ.drop n))):=b0k fun a o e n=>⟨e,fun z=>n (z.imp id (sub a))⟩
 refine ⟨⟨by have:=r.len; simp; omega,r.fr,r.zl,fun a h=>r.zo a (sub a h),fun i a hi e=>?_,fun i a h=>?_,r.ml,r.ma,fun i j a hi hj ei ej=>?_,fun i=>?_⟩,vis⟩
 ·obtain ⟨h1,h2⟩:=own' i hi
  rw [s i h1] at e
  exact r.ow i a h2 e
 ·rw [s i (hp i a h)]; exact r.mi i a h
 ·obtain ⟨h1,h2⟩:=own' i hi
  obtain ⟨h3,h4⟩:=own' j hj
  rw [s i h1] at ei
  rw [s j h3] at ej
  exact r.nd i j a h2 h4 ei ej
 ·rw [g]
  split
  ·trivial
  ·rw [s i (by omega)]
   exact (r.sl i).keep vis fun _ _ _ _ e=>e
end
def i0m (n:Nat) (js:List Nat) (c:En→Prop) (g:AG) (tc:AT) (te:AE) (q:List D→En→Prop):List D→List D→En→Prop
 | [],acc,ρ=>c ρ∧q acc ρ
 | d :: ds,acc,ρ=>c ρ∧g d (blkE n js ρ) fun ρ1=>tc ρ1 fun b ρ2=>if b = true then te ρ2 fun r ρ3=>sto [r.frz] ρ3 fun es ρ4=>i0m n js c g tc te q ds (acc ++ es) (back ρ (js.map R.o) (ρ4.drop n)) else i0m n js c g tc te q ds acc (back ρ (js.map R.o) (ρ2.drop n))
def l1n (n:Nat) (js:List Nat) (i:AI) (g:AG) (tc:AT) (te:AE):AE:=fun ρ q=>i ρ fun ds c ρ1=>ds.length ≤ 1000000∧i0m n js c g tc te (fun acc ρ2=>q (.f acc) ρ2) ds [] ρ1
def aAll:AT:=fun ρ q=>q true ρ
section
variable {K:PySem.W.Frag}
theorem g0t:TTok K tAll aAll:=fun F σ ρ H q Q r h k=>k _ _ _ h r .refl
theorem q0y {F:Fr} {σ:St} {ρ:En} {H:Hp} {v:V} {r:R} {q:List D→En→Prop} (a:Rel K F σ ρ H) (i:InF K F σ ρ H v r) (h:sto [r] ρ q):∃ d ρ',q [d] ρ'∧Rel K F σ ρ' H∧Kp σ ρ ρ' H H∧RepD K (hid H (hs F σ ρ')) v d:=by
 obtain ⟨ds,ρ',h1,h2,h3,h4⟩:=f0y a (.cons i .nil) h
 cases ds with
 | nil=>unfold RepDs at h4; exact h4.elim
 | cons d ds =>
  unfold RepDs at h4
  cases ds with
  | nil=>exact ⟨d,ρ',h1,h2,h3,h4.1⟩
  | cons _ _=>obtain ⟨_,z⟩:=h4; unfold RepDs at z; exact z.elim
theorem f0k {n:Nat} {js:List Nat} {wi:TI} {g:TG} {tc:TT} {te:TE} {ai:AI} {ag:AG} {atc:AT} {ate:AE} (hi:TIok K (fun _=>true) wi ai) (hg:TGok K (fun j=>decide (n ≤ j)) g ag) (hc:TTok K tc atc) (he:TEok K te ate)
  (hd:dis (js.map R.o) = true:=by rfl):TEok K (w0y n js wi g tc te) (l1n n js ai ag atc ate):=by
 intro F σ ρ H q Q r h k
 refine hi F σ ρ H _ _ r h fun ds c ρ1 J H1 h1 r1 k1 wk=>?_
 obtain ⟨hz,h1⟩:=h1
 have hd':dis (blkR n js) = true:=by rw [o0k]; exact hd
 refine ⟨fun i m ys H'=>∃ ρ' acc,m = ds.length - i∧i ≤ ds.length∧Rel K F σ ρ' H'∧Kp σ ρ1 ρ' H1 H'∧RepDs K (hid H' (hs F σ ρ')) ys acc∧acc.length ≤ i∧i0m n js c ag atc ate (fun acc ρ2=>q (.f acc) ρ2) (ds.drop i) acc ρ',⟨ds.length,ρ1,[],rfl,Nat.zero_le _,r1,.refl,.nil,Nat.zero_le _,h1⟩,?_⟩
 rintro i m ys H' ⟨ρ',acc,rfl,hl,r',k',rd,al,h'⟩
 have w:c ρ'→WkAt K (hs F σ ρ') H' J ds:=fun hc=>wk σ ρ' H' k'.vis r'.sl (fun _ _ _ e=>e) (fun a z=>c1a r' z) hc
 have yl:ys.length = acc.length:=rd.length
 rcases Nat.lt_or_ge i ds.length with lt | ge
 ·right
  rw [List.drop_eq_getElem_cons lt] at h'
  unfold i0m at h'
  obtain ⟨hcc,h'⟩:=h'
  obtain ⟨go,yld⟩:=(w hcc i).1 ds[i] (List.getElem?_eq_getElem lt)
  refine ⟨go,o0v (by omega),fun zs H2=>∃ ρ2 acc2,Rel K F σ ρ2 H2∧Kp σ ρ1 ρ2 H1 H2∧RepDs K (hid H2 (hs F σ ρ2)) zs acc2∧acc2.length ≤ i + 1∧i0m n js c ag atc ate (fun acc ρ2=>q (.f acc) ρ2) (ds.drop (i + 1)) acc2 ρ2,
   fun zs H2 ⟨ρ2,acc2,a1,a2,a3,a4,a5⟩=>⟨ds.length - (i + 1),by omega,ρ2,acc2,rfl,lt,a1,a2,a3,a4,a5⟩,fun x H2 hy=>?_⟩
  obtain ⟨sm,rx⟩:=yld x H2 hy
  have r0':=r'
  have k':Kp σ ρ1 ρ' H1 H2:=k'.trans ⟨fun a o e _=>sm a o e,fun _ h=>h⟩
  have rd:RepDs K (hid H2 (hs F σ ρ')) ys acc:=rd.same (b0k fun a o e n=>⟨sm a o e,n⟩)
  have r':=r0'.grow sm
  have src:=u0j (K:=K) (F:=F) (σ:=σ) (ρ:=ρ') (H:=H2) n js
  have rb:=r'.sub src hd'
  have hs2:=x0b r' src
  rw [d0f] at rb hs2
  have pin:∀ i a,(g0g F σ ρ' H2 (bst n σ js) (blkE n js ρ')).pin i a→decide (n ≤ i) = true:=fun i a h=>by
   rcases h with h | h
   ·exact decide_eq_true (u0k h.1)
   ·exact h.elim
  have hlen:(bst n σ js).length = n + js.length:=l0t
  have ret:∀ σ2 ρ2 H3,Rel K (g0g F σ ρ' H2 (bst n σ js) (blkE n js ρ')) σ2 ρ2 H3→σ2.length = (bst n σ js).length→σ2.drop n = capt σ js→(∀ i,(gt ρ2 i).own = true→(gt (blkE n js ρ') i).own = true) →
    Rel K F σ (back ρ' (js.map R.o) (ρ2.drop n)) H3∧Kp σ ρ' (back ρ' (js.map R.o) (ρ2.drop n)) H2 H3∧Same (hid H3 (hs (g0g F σ ρ' H2 (bst n σ js) (blkE n js ρ')) σ2 ρ2)) (hid H3 (hs F σ (back ρ' (js.map R.o) (ρ2.drop n)))):=fun σ2 ρ2 H3 rr hlen2 hdrop hown=>by
   obtain ⟨f1,f2⟩:=rr.forget (n:=n) (by omega) fun i a h=>of_decide_eq_true (pin i a h)
   rw [hdrop] at f1 f2
   have f1':Rel K (g0g F σ ρ' H2 (bst n σ js) ((blkR n js).map (d0u ρ'))) (bst n σ js) (List.replicate n .un ++ ρ2.drop n) H3:=by rw [d0f]; exact f1
   have bk:=r'.back src hd' f1' fun i hi=>by
    rw [d0f]
    rw [q0a] at hi
    split at hi
    ·cases hi
    ·rename_i hni
     rw [l0j,show n + (i - n) = i by omega] at hi
     exact hown i hi
   have ln:(List.replicate n Sv.un ++ ρ2.drop n).length = n + js.length:=by
    have:=rr.len
    simp; omega
   rw [q0n js ρ' n _ ln,List.drop_left' (by simp),d0f] at bk
   exact ⟨bk.1,bk.2.1,f2.trans bk.2.2⟩
  refine hg _ (bst n σ js) (blkE n js ρ') H2 x _ _ _ pin rb (by rw [hs2]; exact rx) h' fun σ2 ρ2 h2 r2 l2 p2 o2=>?_
  have hdrop:σ2.drop n = capt σ js:=by
   have:σ2.drop n = (bst n σ js).drop n:=by
    apply List.ext_getElem?
    intro i
    rw [List.getElem?_drop,List.getElem?_drop]
    exact p2 (n + i) (decide_eq_true (by omega))
   rw [this]
   unfold bst
   rw [List.drop_left' (by simp)]
  refine ⟨hdrop,hc _ σ2 ρ2 H2 _ _ r2 h2 fun b ρ3 H3 h3 r3 k3=>?_⟩
  cases b with
  | false =>
   obtain ⟨b1,b2,_⟩:=ret σ2 ρ3 H3 r3 l2 hdrop fun i hi=>(o2 i (k3.sb i hi)).1
   exact ⟨_,acc,b1,k'.trans b2,rd.same b2.vis,by omega,h3⟩
  | true =>
   refine he _ σ2 ρ3 H3 _ _ r3 h3 fun r4 ρ4 v H4 h4 o4=>?_
   obtain ⟨r4',k4,i4⟩:=o4.inF
   obtain ⟨d,ρ5,h5,r5,k5,rv⟩:=q0y r4' i4 h4
   obtain ⟨b1,b2,b3⟩:=ret σ2 ρ5 H4 r5 l2 hdrop fun i hi=>(o2 i (k3.sb i (k4.sb i (k5.sb i hi)))).1
   exact ⟨_,acc ++ [d],b1,k'.trans b2,(rd.same b2.vis).append (.one (rv.same b3)),by simp; omega,h5⟩
 ·left
  rw [List.drop_eq_nil_of_le ge] at h'
  unfold i0m at h'
  obtain ⟨hcc,h'⟩:=h'
  refine ⟨(w hcc i).2 ge,small (by omega),fun l hl'=>?_⟩
  exact ((k.after k1).after k').new r' h' rd hl'
end
def outS:En→En→En
 | [],_=>[]
 | s :: ss,ρ=>(if s.own = true then gt ρ 0 else s) :: outS ss ρ.tail
theorem f1y (ρ:En) (i:Nat):gt ρ.tail i = gt ρ (i + 1):=by cases ρ <;> rfl
theorem t0o:∀ (ss ρ:En),(outS ss ρ).length = ss.length
 | [],_=>rfl
 | s :: ss,ρ=>by simp [outS,t0o ss]
theorem s0a:∀ (ss ρ:En) (i:Nat),gt (outS ss ρ) i = if (gt ss i).own = true then gt ρ i else gt ss i
 | [],ρ,i=>by simp [outS,gt,Sv.own]
 | s :: ss,ρ,0=>rfl
 | s :: ss,ρ,i + 1=>by
  show gt (outS ss ρ.tail) i = _
  rw [s0a ss ρ.tail i,f1y]
  rfl
def fin (pr:Nat→Bool):R→En→Ko→Prop
 | .d d,ρ,k=>k (.d d) ρ
 | .n s,ρ,k=>k (.n s) ρ
 | .o i,ρ,k=>(match gt ρ i with
  | .ow ds=>if pr i = true then k (.d (.lst ds)) (pt ρ i (.vl (.lst ds))) else k (.n (.ow ds)) (pt ρ i .un)
  | .vl d=>k (.d d) ρ
  | .dk kvs=>if pr i = true then False else k (.n (.dk kvs)) (pt ρ i .un)
  | .dt kvs=>if pr i = true then False else k (.n (.dt kvs)) (pt ρ i .un)
  | _=>False)
 | .t _,_,_=>False
 | .x s,ρ,k=>k (.x s) ρ
def k1p (pr:Nat→Bool) (ss:En):Prop:=∀ i,(gt ss i).own = true→pr i = true
section
variable {K:PySem.W.Frag} {F:Fr} {σ σ':St} {ρ ρ':En} {H H':Hp}
open Classical in
noncomputable def del (H:Hp) (l:Addr):Hp:=fun a=>if a = l then none else H a
open Classical in
theorem o0d {l:Addr}:del H l l = none:=by unfold del; rw [if_pos rfl]
open Classical in
theorem g0r {a l:Addr} (h:a ≠ l):del H l a = H a:=by unfold del; rw [if_neg h]
theorem i0w {l:Addr} {o:HO} (h:H l = some o):upd (del H l) l o = H:=by
 funext a
 by_cases e:a = l
 ·subst e; rw [a0v,h]
 ·rw [a0l e,g0r e]
theorem Rel.take (r:Rel K F σ ρ H) {i:Nat} (hi:(gt ρ i).own = true) (hm:∀ a,¬ F.pin i a):∃ l o,H l = some o∧σ[i]? = some (some (.ref l))∧Rel K F σ (pt ρ i .un) (del H l)∧SvOk K (hid (del H l) (hs F σ (pt ρ i .un))) H (some (some (.ref l))) (gt ρ i):=by
 have s:=r.sl i
 obtain ⟨l,o,el,hl⟩:=s.alive hi
 have own':∀ j,(gt (pt ρ i .un) j).own = true→i ≠ j∧(gt ρ j).own = true:=fun j h=>e0c rfl h
 have sub:∀ a,b0q σ (pt ρ i .un) a→b0q σ ρ a∧a ≠ l:=fun a ⟨j,hj,e⟩=>by
  obtain ⟨ij,hj⟩:=own' j hj
  exact ⟨⟨j,hj,e⟩,fun z=>ij (r.nd i j l hi hj el (z ▸ e))⟩
 have ol:b0q σ ρ l:=⟨i,hi,el⟩
 have vis:Same (hid H (hs F σ ρ)) (hid (del H l) (hs F σ (pt ρ i .un))):=b0k fun a u e n=>by
  have al:a ≠ l:=fun z=>n (.inr (z ▸ ol))
  exact ⟨by rw [g0r al]; exact e,fun z=>n (z.imp id fun z=>(sub a z).1)⟩
 have h0:F.H0 l = none:=by
  rcases r.ow i l hi el with h | h
  ·exact absurd (Or.inl h.1) (hm l)
  ·exact h
 refine ⟨l,o,hl,el,⟨by rw [h0e,r.len],fun a u e n=>?_,fun a z=>?_,fun a h=>r.zo a (sub a h).1,fun j a hj e=>r.ow j a (own' j hj).2 e,r.mi,r.ml,fun a z=>?_,fun j k a hj hk ej ek=>r.nd j k a (own' j hj).2 (own' k hk).2 ej ek,fun j=>?_⟩,?_⟩
 ·have al:a ≠ l:=fun z=>by rw [z,h0] at e; cases e
  rw [g0r al]; exact r.fr a u e n
 ·have al:a ≠ l:=fun q=>r.zo l ol (q ▸ z)
  unfold Nt; rw [g0r al]; exact r.zl a z
 ·have al:a ≠ l:=fun q=>r.ml a z (q ▸ h0)
  rw [g0r al]; exact r.ma a z
 ·by_cases ij:i = j
  ·subst ij
   rw [n0x ρ i _ (i0b hi)]; trivial
  ·rw [c0k ρ i j _ ij]
   refine (r.sl j).keep vis fun a u ho e h=>?_
   have al:a ≠ l:=fun z=>ij (r.nd i j l hi ho el (z ▸ e))
   rw [g0r al]; exact h
 ·rw [el] at s
  exact s.keep vis fun _ _ _ _ e=>e
theorem Rel.out {vs:List V} {ss:En} {Z:Addr→Prop} (r0:Rel K (F0 vs ss H Z) (vs.map some) ss H) (r:Rel K (F0 vs ss H Z) σ' ρ' H') :
  Rel K (F0 vs ss H Z) (vs.map some) (outS ss ρ') H'∧Same (hid H' (hs (F0 vs ss H Z) σ' ρ')) (hid H' (hs (F0 vs ss H Z) (vs.map some) (outS ss ρ')))∧∀ i,(gt (outS ss ρ') i).own = true→(gt ss i).own = true:=by
 have own':∀ i,(gt (outS ss ρ') i).own = true→(gt ss i).own = true∧(gt ρ' i).own = true:=fun i h=>by
  rw [s0a] at h
  split at h
  ·rename_i q; exact ⟨q,h⟩
  ·rename_i q; exact absurd h q
 have same:∀ i a,(gt ss i).own = true→(vs.map some)[i]? = some (some (.ref a))→σ'[i]? = some (some (.ref a)):=fun i a h e=>r.mi i a (.inl ⟨h,e⟩)
 have sub:∀ a,b0q (vs.map some) (outS ss ρ') a→b0q σ' ρ' a∧b0q (vs.map some) ss a:=fun a ⟨i,hi,e⟩=>by
  obtain ⟨h1,h2⟩:=own' i hi
  exact ⟨⟨i,h2,same i a h1 e⟩,⟨i,h1,e⟩⟩
 have v1:Same (hid H' (hs (F0 vs ss H Z) σ' ρ')) (hid H' (hs (F0 vs ss H Z) (vs.map some) (outS ss ρ'))):=b0k fun a o e n=>⟨e,fun z=>n (z.imp id fun z=>(sub a z).1)⟩
 have v2:Same (hid H (hs (F0 vs ss H Z) (vs.map some) ss)) (hid H' (hs (F0 vs ss H Z) (vs.map some) (outS ss ρ'))):=b0k fun a o e n=>⟨r.fr a o e fun z=>n (.inr z),fun z=>n (z.imp id fun z=>(sub a z).2)⟩
 refine ⟨⟨by rw [t0o,r0.len],r.fr,r.zl,fun a h=>r.zo a (sub a h).1,fun i a hi e=>.inl ⟨⟨(own' i hi).1,e⟩,i,(own' i hi).1,e⟩,r0.mi,r.ml,r.ma,fun i j a hi hj ei ej=>r0.nd i j a (own' i hi).1 (own' j hj).1 ei ej,fun i=>?_⟩,v1,fun i h=>(own' i h).1⟩
 rw [s0a]
 split
 ·rename_i q
  obtain ⟨l,o,e1,e2⟩:=(r0.sl i).alive q
  have:=same i l q e1
  rw [e1,← this]
  exact (r.sl i).keep v1 fun _ _ _ _ e=>e
 ·rename_i q
  exact (r0.sl i).keep v2 fun l o ho=>absurd ho q
theorem m0u:∀ (ρ:En) (n i:Nat),gt (ρ ++ List.replicate n .un) i = gt ρ i
 | [],n,i=>by
  show gt (List.replicate n .un) i = .un
  induction n generalizing i with
  | zero=>rfl
  | succ n ih=>cases i with
   | zero=>rfl
   | succ i=>exact ih i
 | s :: ρ,n,0=>rfl
 | s :: ρ,n,i + 1=>m0u ρ n i
theorem Rel.ext (r:Rel K F σ ρ H) (n:Nat):Rel K F (σ ++ List.replicate n none) (ρ ++ List.replicate n .un) H:=by
 have s:∀ {i a},(gt ρ i).own = true→(σ ++ List.replicate n none)[i]? = some (some (V.ref a))→σ[i]? = some (some (.ref a)):=fun {i a} h e=>by
  rwa [List.getElem?_append_left (by rw [r.len]; exact i0b h)] at e
 have sub:∀ a,b0q (σ ++ List.replicate n none) (ρ ++ List.replicate n .un) a→b0q σ ρ a:=fun a ⟨i,hi,e⟩=>by
  rw [m0u] at hi
  exact ⟨i,hi,s hi e⟩
 have vis:Same (hid H (hs F σ ρ)) (hid H (hs F (σ ++ List.replicate n none) (ρ ++ List.replicate n .un))):=b0k fun a o e n=>⟨e,fun z=>n (z.imp id (sub a))⟩
 refine ⟨by simp [r.len],r.fr,r.zl,fun a h=>r.zo a (sub a h),fun i a hi e=>?_,fun i a h=>?_,r.ml,r.ma,fun i j a hi hj ei ej=>?_,fun i=>?_⟩
 ·rw [m0u] at hi
  exact r.ow i a hi (s hi e)
 ·have:=r.mi i a h
  rw [List.getElem?_append_left (List.getElem?_eq_some_iff.mp this).1]; exact this
 ·rw [m0u] at hi hj
  exact r.nd i j a hi hj (s hi ei) (s hj ej)
 ·rw [m0u]
  have q:=r.sl i
  rcases Nat.lt_or_ge i σ.length with lt | ge
  ·rw [List.getElem?_append_left lt]
   exact q.keep vis fun _ _ _ _ e=>e
  ·rw [m0t ρ i (by rw [← r.len]; exact ge)]; trivial
end
theorem DefN.aok {P:Program} {w:World} {K:PySem.W.Frag} {mg:Str→Option Value} {base:Heap} {x:Str} {st:Stmt} {N ps:List Str} {k:Nat} {a:AS} (D:DefN K mg x st ps) (Sc:b0i N ps (a0j st)) (pr:Nat→Bool) (S:ASp)
  (hbody:∀ (f:Addr) (cdv:Value) (A:Around) (outer:List Env) (s:Shared) (H:Hp) (E:XK),Room k (A.deeper (envOfC x (a0j st) s.heap.objs.size f cdv)) →
   ∃ t,PSs (cxOf CX0 P w K mg base N x (a0j st) f cdv A outer s H E).nox (d0k st) t∧TSok K pr t a)
  (hS:∀ ss q,S ss q→ss.length = ps.length∧k1p pr ss∧a ⟨fun ρ=>q (.d .non) (outS ss ρ),fun r ρ=>fin pr r ρ fun r' ρ'=>q r' (outS ss ρ'),fun _=>False,fun _=>False⟩ (ss ++ List.replicate (N.length - ps.length) .un)):OkN P w K mg base (k + 1) x ps (spA K S):=by
 have lenOk:∀ vs H Q E,spA K S vs H Q E→vs.length = ps.length:=fun vs H Q E h=>by
  obtain ⟨ss,Z,q,r,hs',_⟩:=h
  have:=r.len
  rw [List.length_map] at this
  rw [this]; exact (hS ss q hs').1
 refine D.ok Sc lenOk (fun f cdv A outer s H vs Q E hr h=>?_)
 have hl:=lenOk _ _ _ _ h
 obtain ⟨ss,Z,q,r0,hs',post⟩:=h
 obtain ⟨h1,h2,h3⟩:=hS ss q hs'
 obtain ⟨t,ht,tok⟩:=hbody f cdv A outer s H E hr
 refine ⟨t,ht,?_⟩
 have hp:∀ i a,(F0 vs ss H Z).pin i a→pr i = true:=fun i a h=>by
  rcases h with h | h
  ·exact h2 i h.1
  ·exact h.elim
 unfold k0h
 rw [hl]
 have fin_d:∀ σ' ρ' v H' d,q (.d d) (outS ss ρ')→Rel K (F0 vs ss H Z) σ' ρ' H'→RepD K (hid H' (hs (F0 vs ss H Z) σ' ρ')) v d→Q v H':=fun σ' ρ' v H' d hq r rd=>by
  obtain ⟨o1,o2,o3⟩:=r0.out r
  exact post (.d d) _ v H' hq o3 (fun i z=>nomatch z) ⟨o1,rd.same o2⟩
 refine tok (F0 vs ss H Z) _ _ H _ _ hp (r0.ext _) h3 ⟨fun σ' ρ' H' hq r=>?_,fun _ _ _ z=>z.elim,fun _ _ _ z=>z.elim,fun σ' ρ' rr v H' hq r=>?_⟩
 ·exact fin_d σ' ρ' _ H' .non hq r (by unfold RepD; rfl)
 ·cases rr with
  | d d=>exact fin_d σ' ρ' v H' d hq r.1 r.2
  | t n=>exact hq.elim
  | x s =>
   obtain ⟨ra,rb,rc⟩:=r
   obtain ⟨o1,o2,o3⟩:=r0.out ra
   exact post (.x s) _ v H' hq o3 (fun i z=>nomatch z) ⟨o1,rb,rc.keep o2 fun l o ho=>by rw [rb] at ho; cases ho⟩
  | n sv =>
   obtain ⟨Hb,l,o,a1,a2,a3,a4,a5,a6⟩:=r
   obtain ⟨o1,o2,o3⟩:=r0.out a1
   exact post (.n sv) _ v H' hq o3 (fun i z=>nomatch z) ⟨Hb,l,o,o1,a2,a3.keep o2 fun _ _ _ _ e=>e,a4,a5,a6⟩
  | o i =>
   obtain ⟨r,ei⟩:=r
   have hq':(match gt ρ' i with
    | .ow ds=>if pr i = true then q (.d (.lst ds)) (outS ss (pt ρ' i (.vl (.lst ds)))) else q (.n (.ow ds)) (outS ss (pt ρ' i .un))
    | .vl d=>q (.d d) (outS ss ρ')
    | .dk kvs=>if pr i = true then False else q (.n (.dk kvs)) (outS ss (pt ρ' i .un))
    | .dt kvs=>if pr i = true then False else q (.n (.dt kvs)) (outS ss (pt ρ' i .un))
    | _=>False):=hq
   clear hq
   split at hq'
   ·rename_i ds hg
    split at hq'
    ·obtain ⟨l,el,r2,k2,rd⟩:=r.frz hg
     rw [ei] at el
     injection el with el; injection el with el; subst el
     exact fin_d σ' _ _ H' _ hq' r2 rd
    ·rename_i hpr
     have ho:(gt ρ' i).own = true:=by rw [hg]; rfl
     obtain ⟨l,o,hl',el,r2,sv⟩:=r.take ho fun a z=>hpr (hp i a z)
     rw [ei] at el
     injection el with el; injection el with el; subst el
     obtain ⟨o1,o2,o3⟩:=r0.out r2
     rw [hg] at sv
     refine post (.n (.ow ds)) _ _ H' hq' o3 (fun i z=>nomatch z) ⟨del H' l,l,o,o1,rfl,?_,o0d,(i0w hl').symm,rfl⟩
     rw [i0w hl']
     exact sv.keep o2 fun _ _ _ _ e=>e
   ·rename_i d hg
    have s:=r.sl i
    rw [hg,ei] at s
    obtain ⟨x,e1,rd⟩:=s
    injection e1 with e1; injection e1 with e1; subst e1
    exact fin_d σ' ρ' _ H' d hq' r rd
   ·rename_i kvs hg
    split at hq'
    ·exact hq'.elim
    ·rename_i hpr
     have ho:(gt ρ' i).own = true:=by rw [hg]; rfl
     obtain ⟨l,o,hl',el,r2,sv⟩:=r.take ho fun a z=>hpr (hp i a z)
     rw [ei] at el
     injection el with el; injection el with el; subst el
     obtain ⟨o1,o2,o3⟩:=r0.out r2
     rw [hg] at sv
     refine post (.n (.dk kvs)) _ _ H' hq' o3 (fun i z=>nomatch z) ⟨del H' l,l,o,o1,rfl,?_,o0d,(i0w hl').symm,rfl⟩
     rw [i0w hl']
     exact sv.keep o2 fun _ _ _ _ e=>e
   ·rename_i kvs hg
    split at hq'
    ·exact hq'.elim
    ·rename_i hpr
     have ho:(gt ρ' i).own = true:=by rw [hg]; rfl
     obtain ⟨l,o,hl',el,r2,sv⟩:=r.take ho fun a z=>hpr (hp i a z)
     rw [ei] at el
     injection el with el; injection el with el; subst el
     obtain ⟨o1,o2,o3⟩:=r0.out r2
     rw [hg] at sv
     refine post (.n (.dt kvs)) _ _ H' hq' o3 (fun i z=>nomatch z) ⟨del H' l,l,o,o1,rfl,?_,o0d,(i0w hl').symm,rfl⟩
     rw [i0w hl']
     exact sv.keep o2 fun _ _ _ _ e=>e
   ·exact hq'.elim
def SLaw:ASp:=fun ss q=>∃ ns:List Int,ns.length ≤ 63∧ss = [.sc ns]∧∀ ss',q (.d (.bl true)) ss'
theorem i1y {P:Program} {w:World} {K:PySem.W.Frag} {mg:Str→Option Value} {base:Heap} {k:Nat} {x:Str} {ps:List Str} (h:OkN P w K mg base k x ps (spA K SLaw)):OkN P w K mg base k x ps (e1s K):=by
 obtain ⟨f,fd,a1,a2,a3,a4,g⟩:=h.ex
 refine ⟨f,fd,a1,a2,a3,a4,g.imp fun vs H Q E hq=>?_⟩
 obtain ⟨a,ns,rfl,sq,hl,k⟩:=hq
 refine ⟨[.sc ns],fun _=>False,fun r _=>r = .d (.bl true),⟨rfl,fun a o e _=>e,fun a z=>z.elim,fun a _ z=>z,fun i a hi _=>?_,fun i a h=>?_,fun a h=>?_,fun a h=>?_,fun i j a hi=>?_,fun i=>?_⟩,⟨ns,hl,rfl,fun _=>rfl⟩,fun r ss' v H' e1 _ _ rr=>?_⟩
 ·exfalso; cases i with
  | zero=>cases hi
  | succ i=>cases hi
 ·rcases h with h | h
  ·cases i with
   | zero=>cases h.1
   | succ i=>cases h.1
  ·exact h.elim
 ·obtain ⟨i,hi,_⟩:=h
  cases i with
  | zero=>cases hi
  | succ i=>cases hi
 ·obtain ⟨i,hi,_⟩:=h
  cases i with
  | zero=>cases hi
  | succ i=>cases hi
 ·exfalso; cases i with
  | zero=>cases hi
  | succ i=>cases hi
 ·cases i with
  | succ i=>trivial
  | zero =>
   refine ⟨a,rfl,?_⟩
   refine (show Same H (hid H _) from fun b o e=>f0h (fun z=>?_) e).seq sq
   rcases z with z | ⟨i,hi,_⟩
   ·exact z
   ·cases i with
    | zero=>cases hi
    | succ i=>cases hi
 ·subst e1
  obtain ⟨_,rd⟩:=rr
  unfold RepD at rd
  subst rd
  exact k H'
def x0e (K:PySem.W.Frag):Sp:=fun vs H Q _=>∃ (t c:Addr) (m sp lf:Int) (ns:List Int) (n:Nat),vs = [.ref t,.int m]∧H t = some (.dK (c0r c sp lf))∧SqL K H c (ns.map V.int)∧0 ≤ sp∧sp ≤ n∧0 ≤ lf∧n < 1000000000000∧Dv m ∧
 ∀ (r:Nat) (sp' lf':Int),(r:Int) < m→0 ≤ sp'→sp' ≤ (n + 1:Nat)→0 ≤ lf'→Q (.int (r:Nat)) (upd H t (.dK (c0r c sp' lf')))
def x0d (K:PySem.W.Frag):Sp:=fun vs H Q _=>∃ (a:Addr) (ns:List Int),vs = [.ref a]∧SqL K H a (ns.map V.int) ∧
 ∀ t c,H t = none→H c = none→t ≠ c→Q (.ref t) (upd (upd H c (.lst ((ns.take 63).map V.int))) t (.dK (c0r c 0 0)))
def g1x:ASp:=fun ss q=>∃ ns:List Int,ss = [.sc ns]∧q (.n (.tp 0)) [.sc ns]
def a1m:ASp:=fun ss q=>∃ (n:Nat) (m:Int),ss = [.tp n,.vl (.int m)]∧n < 1000000000000∧Dv m∧∀ r:Nat,(r:Int) < m→q (.d (.int r)) [.tp (n + 1),.vl (.int m)]
theorem OkN.imp {P:Program} {w:World} {K:PySem.W.Frag} {mg:Str→Option Value} {base:Heap} {k:Nat} {x:Str} {ps:List Str} {sp sp':Sp} (h:OkN P w K mg base k x ps sp) (i:∀ vs H Q E,sp' vs H Q E→sp vs H Q E):OkN P w K mg base k x ps sp':=by
 obtain ⟨f,fd,a1,a2,a3,a4,g⟩:=h.ex
 exact ⟨f,fd,a1,a2,a3,a4,g.imp i⟩
theorem k1a {vs:List V} {s:Sv} {F:Fr} {K:PySem.W.Frag} {H:Hp} (r:Rel K F (vs.map some) [s] H):∃ x,vs = [x]:=by
 have:=r.len
 match vs,this with
 | [x],_=>exact ⟨x,rfl⟩
theorem j1z {vs:List V} {s s':Sv} {F:Fr} {K:PySem.W.Frag} {H:Hp} (r:Rel K F (vs.map some) [s,s'] H):∃ x y,vs = [x,y]:=by
 have:=r.len
 match vs,this with
 | [x,y],_=>exact ⟨x,y,rfl⟩
theorem g1g {K:PySem.W.Frag} (vs:List V) (H:Hp) (Q:VK) (E:XK) (h:spA K a1m vs H Q E):x0e K vs H Q E:=by
 obtain ⟨ss,Z,q,r,⟨n,m,rfl,hn,hm,hq⟩,post⟩:=h
 obtain ⟨x,y,rfl⟩:=j1z r
 obtain ⟨t,c,ns,sp,lf,e0,ht,hc,h1,h2,h3⟩:=r.sl 0
 obtain ⟨y',e1,ry⟩:=r.sl 1
 unfold RepD at ry
 injection e0 with e0; injection e0 with e0; subst e0
 injection e1 with e1; injection e1 with e1
 subst e1 ry
 refine ⟨t,c,m,sp,lf,ns,n,rfl,ht,c0j.seq hc,h1,h2,h3,hn,hm,fun rr sp' lf' hr a1 a2 a3=>?_⟩
 have hw:=r.write (i:=0) (l:=t) (o:=.dK (c0r c sp' lf')) (s:=.tp (n + 1)) rfl rfl rfl ⟨t,c,ns,sp',lf',rfl,a0v,hc,a1,a2,a3⟩
 refine post (.d (.int rr)) [.tp (n + 1),.vl (.int m)] _ _ (hq rr hr) (fun i h=>?_) (fun i z=>nomatch z) ⟨hw.1,by unfold RepD; rfl⟩
 match i,h with
 | 0,_=>rfl
 | 1,h=>cases h
 | i + 2,h=>cases h
theorem e1n {K:PySem.W.Frag} (vs:List V) (H:Hp) (Q:VK) (E:XK) (h:spA K g1x vs H Q E):x0d K vs H Q E:=by
 obtain ⟨ss,Z,q,r,⟨ns,rfl,hq⟩,post⟩:=h
 obtain ⟨x,rfl⟩:=k1a r
 obtain ⟨a,e0,sq⟩:=r.sl 0
 injection e0 with e0; injection e0 with e0; subst e0
 refine ⟨a,ns,rfl,c0j.seq sq,fun t c ht hc htc=>?_⟩
 have rc:=r.fresh (o:=.lst ((ns.take 63).map V.int)) hc
 have kc:Kp ([V.ref a].map some) [.sc ns] [.sc ns] H (upd H c (.lst ((ns.take 63).map V.int))):=Kp.fresh hc
 have ht':(upd H c (.lst ((ns.take 63).map V.int))) t = none:=by rw [a0l htc]; exact ht
 refine post (.n (.tp 0)) _ _ _ hq (fun i h=>h) (fun i z=>nomatch z) ⟨_,t,_,rc,rfl,⟨t,c,ns.take 63,0,0,rfl,a0v,SqL.of (f0h (g0o r hc) a0v),by decide,by decide,by decide⟩,ht',rfl,rfl⟩
section
variable {K:PySem.W.Frag} {F:Fr} {σ:St} {ρ ρ':En} {H H':Hp} {ta tb tc:TE} {a b c:AE} {rr rr':R2} {g g':R→R→AE}
def f1v:D→Bool
 | .non=>true
 | _=>false
def isEx (ρ:En):R→Bool
 | .o i=>(match gt ρ i with | .ex _ _=>true | _=>false)
 | _=>false
def gIsN (neg:Bool):R→R→AE:=fun r1 r2 ρ q=>match view ρ r1,r2 with
 | some d,.d .non=>q (.d (.bl (if neg then !f1v d else f1v d))) ρ
 | none,.d .non=>isEx ρ r1 = true∧q (.d (.bl neg)) ρ
 | _,_=>False
theorem b1w {F:Fr} {σ:St} {ρ:En} {H:Hp} {x:V} {r1:R} (a:Rel K F σ ρ H) (h1:InF K F σ ρ H x r1) (h:isEx ρ r1 = true):∃ e,x = .ref e:=by
 cases r1 with
 | d d=>cases h
 | n s=>cases h
 | t n=>cases h
 | x n=>cases h
 | o i =>
  have q:=a.sl i
  cases hg:gt ρ i with
  | ex C fs =>
   rw [hg] at q
   obtain ⟨e,od,e1,_⟩:=q
   rw [show σ[i]? = _ from h1] at e1
   injection e1 with e1; injection e1 with e1
   exact ⟨e,e1⟩
  | _=>exact absurd h (by show ¬ (match gt ρ i with | .ex _ _=>true | _=>false) = true; rw [hg]; exact fun z=>nomatch z)
theorem y0y {x:V} {d:D} (h:RepD K H x d):decide (x = V.non) = f1v d:=by
 cases d with
 | non=>unfold RepD at h; subst h; rfl
 | bl b=>unfold RepD at h; subst h; rfl
 | int b=>unfold RepD at h; subst h; rfl
 | str b=>unfold RepD at h; subst h; rfl
 | tup ds=>unfold RepD at h; obtain ⟨a,vs,rfl,_⟩:=h; rfl
 | lst ds=>unfold RepD at h; obtain ⟨a,vs,rfl,_⟩:=h; rfl
theorem y0h:OpOk K (fun x y H Q=>y = .non∧Q (.bl (decide (x = .non))) H) (gIsN false):=by
 intro F σ ρ H x y r1 r2 q Q a h1 h2 h b
 unfold gIsN at h
 split at h
 ·rename_i d e
  unfold InF RepD at h2
  refine ⟨h2,?_⟩
  rw [y0y (e0h a h1 e)]
  exact b.bl a h
 ·unfold InF RepD at h2
  obtain ⟨h',h⟩:=h
  obtain ⟨e,rfl⟩:=b1w a h1 h'
  refine ⟨h2,?_⟩
  rw [decide_eq_false (fun z=>nomatch z)]
  exact b.bl a h
 ·exact h.elim
def o0b:D→Bool
 | .tup _=>false
 | .lst _=>false
 | _=>true
def inD (d:D) (ds:List D):Bool:=ds.any fun e=>eqD e d
@[irreducible] def gIn (neg:Bool):R→R→AE:=fun r1 r2 ρ q=>match view ρ r1,view ρ r2 with
 | some d,some (.lst ds)=>(o0b d = true∧ds.all o0b = true)∧q (.d (.bl (if neg then !inD d ds else inD d ds))) ρ
 | some d,some (.tup ds)=>(o0b d = true∧ds.all o0b = true)∧q (.d (.bl (if neg then !inD d ds else inD d ds))) ρ
 | _,_=>False
theorem o0a {x:V} {d:D} (h:RepD K H x d) (f:o0b d = true):m0g x = true:=by
 cases d with
 | tup ds=>cases f
 | lst ds=>cases f
 | non=>unfold RepD at h; subst h; rfl
 | bl b=>unfold RepD at h; subst h; rfl
 | int b=>unfold RepD at h; subst h; rfl
 | str b=>unfold RepD at h; subst h; rfl
theorem g1d {x y:V} {d e:D} (h:RepD K H x d) (h':RepD K H y e) (f:o0b d = true) (f':o0b e = true):eqV x y = eqD d e:=by
 cases d with
 | tup ds=>cases f
 | lst ds=>cases f
 | non=>unfold RepD at h; subst h; cases e with
  | tup ds=>cases f'
  | lst ds=>cases f'
  | non=>unfold RepD at h'; subst h'; simp [eqV,eqD]
  | bl b=>unfold RepD at h'; subst h'; simp [eqV,eqD]
  | int b=>unfold RepD at h'; subst h'; simp [eqV,eqD]
  | str b=>unfold RepD at h'; subst h'; simp [eqV,eqD]
 | bl b=>unfold RepD at h; subst h; cases e with
  | tup ds=>cases f'
  | lst ds=>cases f'
  | non=>unfold RepD at h'; subst h'; simp [eqV,eqD]
  | bl b=>unfold RepD at h'; subst h'; simp [eqV,eqD]
  | int b=>unfold RepD at h'; subst h'; simp [eqV,eqD]
  | str b=>unfold RepD at h'; subst h'; simp [eqV,eqD]
 | int b=>unfold RepD at h; subst h; cases e with
  | tup ds=>cases f'
  | lst ds=>cases f'
  | non=>unfold RepD at h'; subst h'; simp [eqV,eqD]
  | bl b=>unfold RepD at h'; subst h'; simp [eqV,eqD]
  | int b=>unfold RepD at h'; subst h'; simp [eqV,eqD]
  | str b=>unfold RepD at h'; subst h'; simp [eqV,eqD]
 | str b=>unfold RepD at h; subst h; cases e with
  | tup ds=>cases f'
  | lst ds=>cases f'
  | non=>unfold RepD at h'; subst h'; simp [eqV,eqD]
  | bl b=>unfold RepD at h'; subst h'; simp [eqV,eqD]
  | int b=>unfold RepD at h'; subst h'; simp [eqV,eqD]
  | str b=>unfold RepD at h'; subst h'; simp [eqV,eqD]
theorem z0c {x:V} {d:D} (h:RepD K H x d) (f:o0b d = true):∀ {vs:List V} {ds:List D},RepDs K H vs ds→ds.all o0b = true→vs.all m0g = true∧inV x vs = inD d ds
 | [],[],_,_=>⟨rfl,rfl⟩
 | v :: vs,e :: ds,hr,fa=>by
  unfold RepDs at hr
  rw [List.all_cons,Bool.and_eq_true] at fa
  obtain ⟨q1,q2⟩:=z0c h f hr.2 fa.2
  refine ⟨by rw [List.all_cons,o0a hr.1 fa.1,q1]; rfl,?_⟩
  unfold inV inD at *
  rw [List.any_cons,List.any_cons,q2,g1d hr.1 h fa.1 f]
 | [],d :: ds,h,_=>by unfold RepDs at h; exact h.elim
 | v :: vs,[],h,_=>by unfold RepDs at h; exact h.elim
theorem y0i (neg:Bool):OpOk K (rIn K neg) (gIn neg):=by
 intro F σ ρ H x y r1 r2 q Q a h1 h2 h b
 unfold gIn at h
 split at h
 ·rename_i d ds e1 e2
  obtain ⟨⟨f1,f2⟩,h⟩:=h
  have rx:=e0h a h1 e1
  obtain ⟨l,vs,rfl,sq,rd⟩:=d0o a h2 e2
  obtain ⟨q1,q2⟩:=z0c rx f1 (rd.same c0j) f2
  refine ⟨l,vs,rfl,.inl sq,o0a rx f1,q1,?_⟩
  rw [q2]
  exact b.bl a h
 ·rename_i d ds e1 e2
  obtain ⟨⟨f1,f2⟩,h⟩:=h
  have rx:=e0h a h1 e1
  obtain ⟨l,vs,rfl,sq,rd,_⟩:=h0s a h2 e2
  obtain ⟨q1,q2⟩:=z0c rx f1 (rd.same c0j) f2
  refine ⟨l,vs,rfl,.inr sq,o0a rx f1,q1,?_⟩
  rw [q2]
  exact b.bl a h
 ·exact h.elim
end
theorem n0z {c:En→Prop} {g:AG} {b:AS} {e:AEnds} (I:Nat→En→Prop) {ds:List D} (hc:∀ k ρ,k ≤ ds.length→I k ρ→c ρ)
  (hs:∀ (k:Nat) d ρ (N:En→Prop),ds[k]? = some d→I k ρ→(∀ ρ',I (k + 1) ρ'→N ρ')→g d ρ fun ρ1=>b { nx:=N,ct:=N,bk:=e.nx,rt:=e.rt } ρ1) (hd:∀ ρ,I ds.length ρ→e.nx ρ):∀ ρ,I 0 ρ→forA c g b e ds ρ:=by
 have go:∀ (es:List D) (k:Nat),ds.drop k = es→k ≤ ds.length→∀ ρ,I k ρ→forA c g b e es ρ:=by
  intro es
  induction es with
  | nil =>
   intro k h hk ρ i
   have:ds.length ≤ k:=List.drop_eq_nil_iff.mp h
   have:k = ds.length:=by omega
   subst this
   unfold forA
   exact ⟨hc _ ρ (Nat.le_refl _) i,hd ρ i⟩
  | cons d es ih =>
   intro k h hk ρ i
   have lt:k < ds.length:=by
    rcases Nat.lt_or_ge k ds.length with q | q
    ·exact q
    ·rw [List.drop_eq_nil_of_le q] at h; cases h
   rw [List.drop_eq_getElem_cons lt] at h
   injection h with h1 h2
   unfold forA
   exact ⟨hc k ρ hk i,hs k d ρ _ (by rw [← h1]; exact List.getElem?_eq_getElem lt) i (fun ρ' i'=>ih (k + 1) h2 lt ρ' i')⟩
 exact go ds 0 rfl (Nat.zero_le _)
theorem i0l {n:Nat} {js:List Nat} {c:En→Prop} {g:AG} {tc:AT} {te:AE} {q:List D→En→Prop} (I:Nat→List D→En→Prop) {ds:List D} (hc:∀ k acc ρ,k ≤ ds.length→I k acc ρ→c ρ)
  (hs:∀ (k:Nat) d acc ρ (N:List D→En→Prop),ds[k]? = some d→I k acc ρ→(∀ acc' ρ',I (k + 1) acc' ρ'→N acc' ρ') →
   g d (blkE n js ρ) fun ρ1=>tc ρ1 fun b ρ2=>if b = true then te ρ2 fun r ρ3=>sto [r.frz] ρ3 fun es ρ4=>N (acc ++ es) (back ρ (js.map R.o) (ρ4.drop n)) else N acc (back ρ (js.map R.o) (ρ2.drop n)))
  (hd:∀ acc ρ,I ds.length acc ρ→q acc ρ):∀ ρ,I 0 [] ρ→i0m n js c g tc te q ds [] ρ:=by
 have go:∀ (es:List D) (k:Nat),ds.drop k = es→k ≤ ds.length→∀ acc ρ,I k acc ρ→i0m n js c g tc te q es acc ρ:=by
  intro es
  induction es with
  | nil =>
   intro k h hk acc ρ i
   have:ds.length ≤ k:=List.drop_eq_nil_iff.mp h
   have:k = ds.length:=by omega
   subst this
   unfold i0m
   exact ⟨hc _ acc ρ (Nat.le_refl _) i,hd acc ρ i⟩
  | cons d es ih =>
   intro k h hk acc ρ i
   have lt:k < ds.length:=by
    rcases Nat.lt_or_ge k ds.length with q | q
    ·exact q
    ·rw [List.drop_eq_nil_of_le q] at h; cases h
   rw [List.drop_eq_getElem_cons lt] at h
   injection h with h1 h2
   unfold i0m
   exact ⟨hc k acc ρ hk i,hs k d acc ρ (fun acc' ρ'=>i0m n js c g tc te q es acc' ρ') (by rw [← h1]; exact List.getElem?_eq_getElem lt) i (fun acc' ρ' i'=>ih (k + 1) h2 lt acc' ρ' i')⟩
 exact go ds 0 rfl (Nat.zero_le _) []
theorem w0c {c:AT} {b:AS} {e:AEnds} (I:En→Prop) (μ:En→Nat)
  (hs:∀ ρ (N:En→Prop),I ρ→(∀ ρ',I ρ'→μ ρ' < μ ρ→N ρ')→c ρ fun k ρ1=>if k = true then b { nx:=N,ct:=N,bk:=e.nx,rt:=e.rt } ρ1 else e.nx ρ1):∀ ρ,I ρ→d1y c b e ρ:=by
 have go:∀ (n:Nat) ρ,I ρ→μ ρ < n→whA c b e n ρ:=by
  intro n
  induction n with
  | zero=>intro ρ _ h; omega
  | succ n ih=>intro ρ i h; exact hs ρ _ i fun ρ' i' lt=>ih ρ' i' (by omega)
 exact fun ρ i=>⟨μ ρ + 1,go _ ρ i (by omega)⟩
section
variable {X:Cx} (K:PySem.W.Frag)
def i1e (K:PySem.W.Frag):R2:=fun x y H Q=>∃ a b xs ys,x = .ref a∧y = .ref b∧SqL K H a xs∧SqL K H b ys∧xs.length + ys.length ≤ 1000000∧∀ p,H p = none→Q (.ref p) (upd H p (.lst (xs ++ ys)))
theorem n0n (hK:X.K = K:=by rfl):OpR X (binaryOp .Add) (i1e K):=by
 subst hK
 intro pins s σ H x y v u Q I rx ry h
 obtain ⟨a,b,xs,ys,rfl,rfl,ha,hb,hz,q⟩:=h
 cases rx
 cases ry
 obtain ⟨its,r1,p1,_⟩:=I.list ha
 obtain ⟨its2,r2,p2,_⟩:=I.list hb
 have hz':its.length + its2.length ≤ sizeLine:=small (by rw [← r1.length,← r2.length]; exact hz)
 obtain ⟨⟨cls,dd,data,sl⟩,ho,hc,n,hd⟩:=p1.isList
 obtain ⟨⟨cls2,dd2,data2,sl2⟩,ho2,hc2,n2,hd2⟩:=p2.isList
 simp only at hc hd hc2 hd2
 subst hc hd hc2 hd2
 refine concat_meets ⟨_,ho,rfl⟩ ⟨_,ho2,rfl⟩ noFill_list_add seq_list_add PySem.F.slot_list_add PySem.F.entry_list_add (PySem.F.args_list_add_2 _ _) (list_addW a b its.toArray its2.toArray n n2 dd dd2 sl sl2 (by rw [List.size_toArray,List.size_toArray]; exact hz')) ⟨ho,ho2,?_⟩
 refine ⟨.ref s.heap.objs.size,_,I.laid (t':=s.toks) (o:=.lst (xs ++ ys)) (fun b ob q=>Heap.get?_push_of_some _ q) (Nat.le_refl _) ?_,rfl,q _ (I.hok.fresh (Nat.le_refl _))⟩
 refine ⟨by rw [List.length_append]; exact small hz,_,0,r1.append r2,?_⟩
 rw [show (its ++ its2).toArray = its.toArray ++ its2.toArray by simp]
 exact Heap.get?_push_size _ rfl
variable {e st:Expr} {te:TE} {ts:TO} {pos p2:Pos}
end
section
variable {K:PySem.W.Frag} {ta te:TE} {a ae:AE} {ts:TA} {as:AA}
def gCat:R→R→AE:=fun r1 r2 ρ q=>match view ρ r1,view ρ r2 with
 | some (.lst ds),some (.lst es)=>ds.length + es.length ≤ 1000000∧q (.f (ds ++ es)) ρ
 | _,_=>False
theorem n0o:OpOk K (i1e K) gCat:=by
 intro F σ ρ H x y r1 r2 q Q a h1 h2 h b
 unfold gCat at h
 split at h
 ·rename_i ds es e1 e2
  obtain ⟨l,vs,rfl,sq,rd⟩:=d0o a h1 e1
  obtain ⟨l2,vs2,rfl,sq2,rd2⟩:=d0o a h2 e2
  exact ⟨l,l2,vs,vs2,rfl,rfl,sq,sq2,by rw [rd.length,rd2.length]; exact h.1,fun p hp=>b.new a h.2 (rd.append rd2) hp⟩
 ·exact h.elim
theorem RepDs.reverse {H:Hp}:∀ {vs:List V} {ds:List D},RepDs K H vs ds→RepDs K H vs.reverse ds.reverse
 | [],[],_=>.nil
 | v :: vs,d :: ds,h=>by
  unfold RepDs at h
  rw [List.reverse_cons,List.reverse_cons]
  exact (RepDs.reverse h.2).append (.one h.1)
 | [],d :: ds,h=>by unfold RepDs at h; exact h.elim
 | v :: vs,[],h=>by unfold RepDs at h; exact h.elim
def gInt:List R→AE:=fun rs ρ q=>match rs with
 | [.d (.int i)]=>q (.d (.int i)) ρ
 | [.d (.bl k)]=>q (.d (.int (if k then 1 else 0))) ρ
 | _=>False
theorem u0i:CbOk K (fun xs H Q=>(∃ i,xs = [.int i]∧Q (.int i) H) ∨ ∃ k,xs = [.bl k]∧Q (.int (if k then 1 else 0)) H) gInt:=by
 intro F σ ρ H vs rs q Q a i h b
 unfold gInt at h
 split at h
 ·obtain ⟨x,rfl,i1⟩:=i.one
  exact .inl ⟨_,by rw [i1.int],b.int a h⟩
 ·obtain ⟨x,rfl,i1⟩:=i.one
  exact .inr ⟨_,by rw [i1.blv],b.int a h⟩
 ·exact h.elim
end
abbrev nD (n:Nat):D:=.int (n:Nat)
abbrev nv (n:Nat):Sv:=.vl (.int (n:Nat))
def ownB (pr:Nat→Bool):En→Nat→Bool
 | [],_=>true
 | s :: ss,i=>(!s.own || pr i) && ownB pr ss (i + 1)
theorem r0h {pr:Nat→Bool}:∀ {ss:En} {j:Nat},ownB pr ss j = true→∀ i,(gt ss i).own = true→pr (j + i) = true
 | [],_,_,i,h=>by cases h
 | s :: ss,j,hb,0,h=>by
  simp only [ownB,Bool.and_eq_true,Bool.or_eq_true,Bool.not_eq_true'] at hb
  rcases hb.1 with q | q
  ·rw [show (gt (s :: ss) 0) = s from rfl,q] at h; cases h
  ·exact q
 | s :: ss,j,hb,i + 1,h=>by
  simp only [ownB,Bool.and_eq_true] at hb
  have:=r0h hb.2 i h
  rwa [show j + 1 + i = j + (i + 1) by omega] at this
theorem DefN.aok2 {P:Program} {w:World} {K:PySem.W.Frag} {mg:Str→Option Value} {base:Heap} {x:Str} {st:Stmt} {N ps:List Str} {k:Nat} {a:AS} (D:DefN K mg x st ps) (Sc:b0i N ps (a0j st)) (pr:Nat→Bool) (us:En) (S:ASp) (hus:List.replicate (N.length - ps.length) Sv.un = us)
  (hbody:∀ (f:Addr) (cdv:Value) (A:Around) (outer:List Env) (s:Shared) (H:Hp) (E:XK),Room k (A.deeper (envOfC x (a0j st) s.heap.objs.size f cdv)) →
   ∃ t,PSs (cxOf CX0 P w K mg base N x (a0j st) f cdv A outer s H E).nox (d0k st) t∧TSok K pr t a)
  (hS:∀ ss q,S ss q→ss.length = ps.length∧ownB pr ss 0 = true∧a ⟨fun ρ=>q (.d .non) (outS ss ρ),fun r ρ=>fin pr r ρ fun r' ρ'=>q r' (outS ss ρ'),fun _=>False,fun _=>False⟩ (ss ++ us)):OkN P w K mg base (k + 1) x ps (spA K S) :=
 D.aok Sc pr S hbody fun ss q h=>⟨(hS ss q h).1,fun i hi=>by have:=r0h (hS ss q h).2.1 i hi; rwa [Nat.zero_add] at this,by rw [hus]; exact (hS ss q h).2.2⟩
theorem j0w {lo:Int} {n k:Nat} {d:D} (h:(rngD lo n)[k]? = some d):k < n∧d = .int (lo + k):=by
 unfold rngD at h
 rw [List.getElem?_map] at h
 obtain ⟨j,e1,e2⟩:=Option.map_eq_some_iff.mp h
 have lt:k < n:=by
  rcases Nat.lt_or_ge k n with q | q
  ·exact q
  ·rw [List.getElem?_eq_none (by simpa using q)] at e1; cases e1
 rw [List.getElem?_range lt] at e1
 cases e1
 exact ⟨lt,e2.symm⟩
abbrev h1m (n:Nat) (js:List Nat) (g:AG) (tc:AT) (te:AE) (ρ:En) (d:D) (acc:List D) (N:List D→En→Prop):Prop :=
 g d (blkE n js ρ) fun ρ1=>tc ρ1 fun b ρ2=>if b = true then te ρ2 fun r ρ3=>sto [r.frz] ρ3 fun es ρ4=>N (acc ++ es) (back ρ (js.map R.o) (ρ4.drop n)) else N acc (back ρ (js.map R.o) (ρ2.drop n))
section
variable {n:Nat} {js:List Nat} {c:En→Prop} {g:AG} {tc:AT} {te:AE} {q:List D→En→Prop}
theorem l0p {lo:Int} {m:Nat} (f:Nat→D) {ρ:En} (hc:c ρ) (hs:∀ k acc (N:List D→En→Prop),k < m→N (acc ++ [f k]) ρ→h1m n js g tc te ρ (.int (lo + k)) acc N)
  (hd:q ((List.range m).map f) ρ):i0m n js c g tc te q (rngD lo m) [] ρ:=by
 refine i0l (fun k acc ρ'=>k ≤ m∧ρ' = ρ∧acc = (List.range k).map f) (fun k acc ρ' _ h=>h.2.1 ▸ hc) ?_ ?_ ρ ⟨Nat.zero_le _,rfl,rfl⟩
 ·rintro k d acc _ N hk ⟨_,rfl,rfl⟩ hN
  obtain ⟨lt,rfl⟩:=j0w hk
  refine hs k _ N lt (hN _ _ ⟨lt,rfl,?_⟩)
  rw [List.range_succ,List.map_append]; rfl
 ·rintro acc _ ⟨_,rfl,rfl⟩
  rw [d0r]; exact hd
theorem q0j {α:Type} (h:α→D) (f:α→D) {xs:List α} {ρ:En} (hc:c ρ) (hs:∀ x acc (N:List D→En→Prop),x ∈ xs→N (acc ++ [f x]) ρ→h1m n js g tc te ρ (h x) acc N)
  (hd:q (xs.map f) ρ):i0m n js c g tc te q (xs.map h) [] ρ:=by
 refine i0l (fun k acc ρ'=>ρ' = ρ∧acc = (xs.take k).map f) (fun k acc ρ' _ h=>h.1 ▸ hc) ?_ ?_ ρ ⟨rfl,rfl⟩
 ·rintro k d acc _ N hk ⟨rfl,rfl⟩ hN
  rw [List.getElem?_map] at hk
  obtain ⟨x,e1,rfl⟩:=Option.map_eq_some_iff.mp hk
  refine hs x _ N (List.mem_of_getElem? e1) (hN _ _ ⟨rfl,?_⟩)
  rw [List.take_add_one,e1,Option.toList_some,List.map_append]; rfl
 ·rintro acc _ ⟨rfl,rfl⟩
  rw [List.length_map,List.take_length]; exact hd
end
section
variable {c:En→Prop} {g:AG} {b:AS} {e:AEnds}
theorem e0w {lo:Int} {m:Nat} (I:Nat→En→Prop) (hc:∀ k ρ,I k ρ→c ρ) (hs:∀ (k:Nat) ρ (N:En→Prop),k < m→I k ρ→(∀ ρ',I (k + 1) ρ'→N ρ')→g (.int (lo + k)) ρ fun ρ1=>b { nx:=N,ct:=N,bk:=e.nx,rt:=e.rt } ρ1)
  (hd:∀ ρ,I m ρ→e.nx ρ) {ρ:En} (h0:I 0 ρ):forA c g b e (rngD lo m) ρ:=by
 refine n0z I (fun k ρ _ h=>hc k ρ h) (fun k d ρ N hk h hN=>?_) (fun ρ h=>hd ρ (by rwa [d0r] at h)) ρ h0
 obtain ⟨lt,rfl⟩:=j0w hk
 exact hs k ρ N lt h hN
theorem f0t {α:Type} (h:α→D) {xs:List α} (I:Nat→En→Prop) (hc:∀ k ρ,I k ρ→c ρ) (hs:∀ (k:Nat) x ρ (N:En→Prop),xs[k]? = some x→I k ρ→(∀ ρ',I (k + 1) ρ'→N ρ')→g (h x) ρ fun ρ1=>b { nx:=N,ct:=N,bk:=e.nx,rt:=e.rt } ρ1)
  (hd:∀ ρ,I xs.length ρ→e.nx ρ) {ρ:En} (h0:I 0 ρ):forA c g b e (xs.map h) ρ:=by
 refine n0z I (fun k ρ _ h=>hc k ρ h) (fun k d ρ N hk h' hN=>?_) (fun ρ h=>hd ρ (by rwa [List.length_map] at h)) ρ h0
 rw [List.getElem?_map] at hk
 obtain ⟨x,e1,rfl⟩:=Option.map_eq_some_iff.mp hk
 exact hs k x ρ N e1 h' hN
end
theorem i0p {xs:List Nat} {i:Nat} (h:i < xs.length):atI (a0g xs) ((i:Nat):Int) = some (.int (xs.getD i 0:Nat)):=by
 refine a1h ?_
 unfold a0g
 rw [List.getElem?_map,List.getElem?_eq_getElem h]
 simp [h]
theorem i0j {r1:R} {ρ:En} {q:Ko} {xs:List Nat} {i:Nat} (hv:view ρ r1 = some (.lst (a0g xs))) (h:i < xs.length) (hq:q (.d (.int (xs.getD i 0:Nat))) ρ):gIx r1 (.d (.int (i:Nat))) ρ q:=by
 unfold gIx
 rw [hv]
 simp only [i0p h]
 exact hq
theorem b0j {neg:Bool} {r1 r2:R} {ρ:En} {q:Ko} {d e:D} {b:Bool} (h1:view ρ r1 = some d) (h2:view ρ r2 = some e) (hd:d.depth ≤ 60) (hb:eqD d e = b) (hq:q (.d (.bl (if neg then !b else b))) ρ):gEq neg r1 r2 ρ q:=by
 unfold gEq
 rw [h1,h2]
 subst hb
 exact ⟨hd,hq⟩
theorem c1e {r1:R} {ρ:En} {q:Ko} {ds:List D} {i:Int} {d:D} (hv:view ρ r1 = some (.tup ds)) (h:atI ds i = some d) (hq:q (.d d) ρ):gIx r1 (.d (.int i)) ρ q:=by
 unfold gIx
 rw [hv]
 simp only [h]
 exact hq
theorem i0u {r1:R} {ρ:En} {q:Ko} {ds:List D} {i:Int} {d:D} (hv:view ρ r1 = some (.lst ds)) (h:atI ds i = some d) (hq:q (.d d) ρ):gIx r1 (.d (.int i)) ρ q:=by
 unfold gIx
 rw [hv]
 simp only [h]
 exact hq
theorem f0b {r:R} {ρ:En} {q:Ko} {d:D} {n:String} {b:Bool} (hv:view ρ r = some d) (h:isaT (tyD d) n = some b) (hq:q (.d (.bl b)) ρ):gIsa [r,.t n] ρ q:=by
 unfold gIsa
 simp only [hv,h]
 exact hq
def isI:D→Bool
 | .int _=>true
 | _=>false
def isL:D→Bool
 | .lst _=>true
 | _=>false
theorem cutS {A B:AS} {e:AEnds} {ρ:En} (P:En→Prop) (h1:∀ N:En→Prop,(∀ ρ',P ρ'→N ρ')→A { e with nx:=N } ρ) (h2:∀ ρ',P ρ'→B e ρ'):aSeq A B e ρ:=h1 (B e) h2
theorem v0d {x:Int} {n:Nat} (h:x = (n:Nat)):Sv.vl (.int x) = nv n:=by rw [h]
theorem minI (a b:Nat):(if (b:Int) < (a:Int) then (b:Int) else (a:Int)) = ((min a b:Nat):Int):=by split <;> omega
def f1w (s:Sv) (ds:List D):Prop:=s = .ow ds ∨ s = .vl (.lst ds)
def l0x:ASp:=fun ss q=>∃ d:D,ss = [.vl d]∧q (.d (.bl (isI d))) [.vl d]
theorem i0t (xs:List Nat) (x:Nat):a0g (xs ++ [x]) = a0g xs ++ [nD x]:=by unfold a0g; rw [List.map_append]; rfl
def o0l:ASp:=fun ss q=>∃ x y:Nat,ss = [nv x,nv y]∧q (.d (nD (x ^^^ y))) [nv x,nv y]
def SOwn:ASp:=fun ss q=>∃ m:Nat,ss = [nv m]∧m ≤ 1000∧q (.f (a0g (b0t m))) [nv m]
def b0m (cells:List Nat) (p:Nat × Nat):List Nat:=cells.set p.2 (cells.getD p.1 0 ^^^ cells.getD p.2 0)
def l0w (m:Nat) (steps:List (Nat × Nat)):List Nat:=steps.foldl b0m (b0t m)
theorem e0m (cells:List Nat) (p:Nat × Nat):(b0m cells p).length = cells.length:=by simp [b0m]
theorem a1j (steps:List (Nat × Nat)):∀ cells:List Nat,(steps.foldl b0m cells).length = cells.length:=by
 induction steps with
 | nil=>intro c; rfl
 | cons p r ih=>intro c; rw [List.foldl_cons,ih,e0m]
def g0b (m:Nat) (p:Nat × Nat):Prop:=p.1 < m∧p.2 < m∧p.1 ≠ p.2
theorem x0c {cells:List Nat} {p:Nat × Nat} (h:g0b cells.length p):b0m (b0m cells p) p = cells:=by
 obtain ⟨h1,h2,h3⟩:=h
 unfold b0m
 apply List.ext_getElem?
 intro i
 simp only [List.getElem?_set,List.length_set]
 by_cases e:p.2 = i
 ·subst e
  simp [h2,List.getElem?_set_ne h3.symm,List.getElem?_eq_getElem h1,List.getElem?_eq_getElem h2,← Nat.xor_assoc]
 ·simp [e]
theorem m0i {m:Nat}:∀ {steps:List (Nat × Nat)} {cells:List Nat},cells.length = m→(∀ p ∈ steps,g0b m p)→(steps ++ steps.reverse).foldl b0m cells = cells
 | [],_,_,_=>rfl
 | p :: r,cells,hl,h=>by
  have ih:=m0i (steps:=r) (cells:=b0m cells p) (by rw [e0m]; exact hl) fun q hq=>h q (List.mem_cons_of_mem _ hq)
  rw [List.reverse_cons,List.cons_append,List.foldl_cons,← List.append_assoc,List.foldl_append,ih]
  exact x0c (by rw [hl]; exact h p List.mem_cons_self)
theorem z0t (xs:List D) (k:Nat):cutD xs none (some ((k:Nat):Int)) = xs.take k:=by
 unfold cutD
 have e0:HT.sIx xs.length 0 none = 0:=rfl
 rw [e0,List.drop_zero,Nat.sub_zero,HT.sIx_nat]
 rcases Nat.le_total k xs.length with h | h
 ·rw [Nat.min_eq_left h]
 ·rw [Nat.min_eq_right h,List.take_of_length_le (Nat.le_refl _),List.take_of_length_le h]
theorem i0e (xs:List Nat) (i x:Nat):(a0g xs).set i (nD x) = a0g (xs.set i x):=by unfold a0g; rw [List.map_set]
theorem a0t (xs:List Nat):(a0g xs).length = xs.length:=by rw [List.length_map]
theorem DefN.no {P:Program} {w:World} {K:PySem.W.Frag} {mg:Str→Option Value} {base:Heap} {x:Str} {st:Stmt} {N ps:List Str} (D:DefN K mg x st ps) (Sc:b0i N ps (a0j st)) (k:Nat):OkN P w K mg base (k + 1) x ps (spA K fun _ _=>False) :=
 D.ok Sc (fun vs H Q E h=>by obtain ⟨_,_,_,_,h,_⟩:=h; exact h.elim) fun f cdv A outer s H vs Q E _ h=>by obtain ⟨_,_,_,_,h,_⟩:=h; exact h.elim
theorem d0i {xs:List Nat} {i v:Nat} (h:i < xs.length):(xs.set i v).getD i 0 = v:=by simp [h]
theorem e0r {xs:List Nat} {i j v:Nat} (h:i ≠ j):(xs.set i v).getD j 0 = xs.getD j 0:=by
 simp [List.getElem?_set_ne h]
end L2
namespace HT
open PySem PySem.Spec PyProof.Rows
end HT
namespace L2
open PySem PySem.Spec PyProof.Rows
def dKey:D→Option Key
 | .int i=>some (.inl i)
 | .str x=>some (.inr x)
 | _=>none
section
variable {κ:Type} [DecidableEq κ]
def valD (kvs:List (κ × D)) (k:κ):Option D:=(kvs.find? fun kv=>decide (kv.1 = k)).map (·.2)
def putD (kvs:List (κ × D)) (k:κ) (d:D):List (κ × D) :=
 if (kvs.any fun kv=>decide (kv.1 = k)) = true then kvs.map (fun kv=>if kv.1 = k then (kv.1,d) else kv) else kvs ++ [(k,d)]
variable {K:PySem.W.Frag} {H:Hp}
theorem k0d (k:κ):∀ {ks:List (κ × V)} {kvs:List (κ × D)},ks.map Prod.fst = kvs.map Prod.fst→RepDs K H (ks.map Prod.snd) (kvs.map Prod.snd) →
  (∀ d,valD kvs k = some d→∃ v,valV ks k = some v∧RepD K H v d)∧(valD kvs k = none→valV ks k = none)
 | [],[],_,_=>⟨(fun _ h=>nomatch h),fun _=>rfl⟩
 | p :: ks,q :: kvs,e,r=>by
  simp only [List.map_cons,List.cons.injEq] at e
  rw [List.map_cons,List.map_cons] at r
  unfold RepDs at r
  obtain ⟨i1,i2⟩:=k0d k e.2 r.2
  by_cases z:q.1 = k
  ·have e1:valD (q :: kvs) k = some q.2:=by simp [valD,List.find?_cons,z]
   rw [e1,j0o (e.1.trans z)]
   exact ⟨fun d h=>⟨_,rfl,by cases h; exact r.1⟩,fun h=>by cases h⟩
  ·have e1:valD (q :: kvs) k = valD kvs k:=by simp [valD,List.find?_cons,z]
   rw [e1,j0p (fun h=>z (e.1 ▸ h))]
   exact ⟨i1,i2⟩
 | [],q :: kvs,e,_=>by simp at e
 | p :: ks,[],e,_=>by simp at e
theorem g1q (k:κ) {ks:List (κ × V)} {kvs:List (κ × D)} (e:ks.map Prod.fst = kvs.map Prod.fst):(ks.any fun kv=>decide (kv.1 = k)) = kvs.any fun kv=>decide (kv.1 = k):=by
 have h1:(ks.any fun kv=>decide (kv.1 = k)) = (ks.map Prod.fst).any fun x=>decide (x = k):=by rw [List.any_map]; rfl
 have h2:(kvs.any fun kv=>decide (kv.1 = k)) = (kvs.map Prod.fst).any fun x=>decide (x = k):=by rw [List.any_map]; rfl
 rw [h1,h2,e]
theorem t0c (k:κ) {v:V} {d:D} (rv:RepD K H v d):∀ {ks:List (κ × V)} {kvs:List (κ × D)},ks.map Prod.fst = kvs.map Prod.fst→RepDs K H (ks.map Prod.snd) (kvs.map Prod.snd) →
  (ks.map fun kv=>if kv.1 = k then (kv.1,v) else kv).map Prod.fst = (kvs.map fun kv=>if kv.1 = k then (kv.1,d) else kv).map Prod.fst∧RepDs K H ((ks.map fun kv=>if kv.1 = k then (kv.1,v) else kv).map Prod.snd) ((kvs.map fun kv=>if kv.1 = k then (kv.1,d) else kv).map Prod.snd)
 | [],[],_,_=>⟨rfl,.nil⟩
 | p :: ks,q :: kvs,e,r=>by
  simp only [List.map_cons,List.cons.injEq] at e
  rw [List.map_cons,List.map_cons] at r
  unfold RepDs at r
  obtain ⟨i1,i2⟩:=t0c k rv e.2 r.2
  simp only [List.map_cons,e.1]
  by_cases z:q.1 = k
  ·simp only [z,if_true]
   exact ⟨by rw [i1],.cons rv i2⟩
  ·simp only [z,if_false]
   exact ⟨by rw [i1,e.1],.cons r.1 i2⟩
 | [],q :: kvs,e,_=>by simp at e
 | p :: ks,[],e,_=>by simp at e
theorem x0r (k:κ) {v:V} {d:D} (rv:RepD K H v d) {ks:List (κ × V)} {kvs:List (κ × D)} (e:ks.map Prod.fst = kvs.map Prod.fst) (r:RepDs K H (ks.map Prod.snd) (kvs.map Prod.snd)) :
  (putK ks k v).map Prod.fst = (putD kvs k d).map Prod.fst∧RepDs K H ((putK ks k v).map Prod.snd) ((putD kvs k d).map Prod.snd):=by
 unfold putK putD
 rw [g1q k e]
 split
 ·exact t0c k rv e r
 ·refine ⟨by rw [List.map_append,List.map_append,e]; rfl,?_⟩
  rw [List.map_append,List.map_append]
  exact r.append (.one rv)
theorem t0w {ks:List (κ × V)} {kvs:List (κ × D)} (e:ks.map Prod.fst = kvs.map Prod.fst):ks.length = kvs.length:=by
 have:=congrArg List.length e
 simpa using this
end
section
variable {K:PySem.W.Frag} {F:Fr} {σ:St} {ρ ρ':En} {H H':Hp} {td ty tx:TE} {ad ay ax:AE}
theorem y0v {v:V} {d:D} {k:Key} (h:RepD K H v d) (e:dKey d = some k):v = kV k:=by
 cases d with
 | int i=>unfold RepD at h; injection e with e; subst e; exact h
 | str i=>unfold RepD at h; injection e with e; subst e; exact h
 | non=>cases e
 | bl _=>cases e
 | tup _=>cases e
 | lst _=>cases e
def aDNew:AE:=fun ρ q=>q (.n (.dk [])) ρ
theorem s0x:TEok K tDNewK aDNew:=fun F σ ρ H q Q r h k p hp=>k (.n (.dk [])) ρ _ _ h ⟨H,p,_,r,.refl,rfl,⟨p,[],rfl,a0v,rfl,.nil⟩,hp,rfl,rfl⟩
theorem c1m {i:Nat} {x:V} {kvs:List (Key × D)} (r:Rel K F σ ρ H) (ei:σ[i]? = some (some x)) (hg:gt ρ i = .dk kvs):∃ t ks,x = .ref t∧H t = some (.dK ks)∧ks.map Prod.fst = kvs.map Prod.fst∧RepDs K (hid H (hs F σ ρ)) (ks.map Prod.snd) (kvs.map Prod.snd):=by
 have s:=r.sl i
 rw [hg,ei] at s
 obtain ⟨t,ks,e,h1,h2,h3⟩:=s
 injection e with e; injection e with e
 exact ⟨t,ks,e,h1,h2,h3⟩
@[irreducible] def z0k (kvs:List (Key × D)) (d:D) (q:D→Prop):Prop:=match dKey d with
 | some k=>(match valD kvs k with | some x=>q x | none=>False)
 | none=>False
theorem z0j {kvs:List (Key × D)} {d:D} {q:D→Prop} (h:z0k kvs d q):∃ k x,dKey d = some k∧valD kvs k = some x∧q x:=by
 unfold z0k at h
 split at h
 ·rename_i k e
  split at h
  ·rename_i x e'; exact ⟨k,x,e,e',h⟩
  ·exact h.elim
 ·exact h.elim
theorem k0b {kvs:List (Key × D)} {d x:D} {k:Key} {q:D→Prop} (e:dKey d = some k) (e':valD kvs k = some x) (h:q x):z0k kvs d q:=by
 unfold z0k
 simp only [e,e']
 exact h
def l1m (a i:AE):AE:=fun ρ q=>a ρ fun r ρ1=>match r with
 | .o j=>i ρ1 fun r2 ρ2=>(match r2,gt ρ2 j with
  | .d d,.dk kvs=>z0k kvs d fun x=>q (.d x) ρ2
  | _,_=>False)
 | _=>False
theorem j0r (ha:TEok K td ad) (hi:TEok K ty ay):TEok K (e1o td ty) (l1m ad ay):=by
 intro F σ ρ H q Q r h k
 refine ha F σ ρ H _ _ r h fun r1 ρ1 x H1 h1 o1=>?_
 obtain ⟨r1',k1,i1⟩:=o1.inF
 split at h1
 ·rename_i j
  have ej:σ[j]? = some (some x):=i1
  refine hi F σ ρ1 H1 _ _ r1' h1 fun r2 ρ2 y H2 h2 o2=>?_
  obtain ⟨r2',k2,i2⟩:=o2.inF
  split at h2
  ·rename_i d kvs hg
   obtain ⟨kk,z,ek,ez,hq⟩:=z0j h2
   obtain ⟨t,ks,rfl,ht,e1,e2⟩:=c1m r2' ej hg
   obtain ⟨v,ev,rv⟩:=(k0d kk e1 e2).1 z ez
   refine ⟨t,v,rfl,?_,((k.after k1).after k2).dat r2' hq rv⟩
   rw [y0v i2 ek,← ev]
   exact DGet.k ht
  ·exact h2.elim
 ·exact h1.elim
def aDIn (neg:Bool) (i a:AE):AE:=fun ρ q=>i ρ fun r ρ1=>a ρ1 fun r2 ρ2=>match r,r2 with
 | .d d,.o j=>(match gt ρ2 j,dKey d with
  | .dk kvs,some k=>q (.d (.bl (if neg then !(valD kvs k).isSome else (valD kvs k).isSome))) ρ2
  | _,_=>False)
 | _,_=>False
theorem m0r {kvs:List (Key × D)} {ks:List (Key × V)} {k:Key} (e1:ks.map Prod.fst = kvs.map Prod.fst) (e2:RepDs K H (ks.map Prod.snd) (kvs.map Prod.snd)):(valV ks k).isSome = (valD kvs k).isSome:=by
 obtain ⟨a,b⟩:=k0d k e1 e2
 cases h:valD kvs k with
 | none=>rw [b h]; rfl
 | some d=>obtain ⟨v,e,_⟩:=a d h; rw [e]; rfl
theorem e1l (hi:TEok K ty ay) (ha:TEok K td ad):TEok K (tDIn ty td) (aDIn false ay ad):=by
 intro F σ ρ H q Q r h k
 refine hi F σ ρ H _ _ r h fun r1 ρ1 y H1 h1 o1=>?_
 obtain ⟨r1',k1,i1⟩:=o1.inF
 refine ha F σ ρ1 H1 _ _ r1' h1 fun r2 ρ2 x H2 h2 o2=>?_
 obtain ⟨r2',k2,i2⟩:=o2.inF
 split at h2
 ·rename_i d j
  have ej:σ[j]? = some (some x):=i2
  split at h2
  ·rename_i kvs kk hg ek
   obtain ⟨t,ks,rfl,ht,e1,e2⟩:=c1m r2' ej hg
   refine ⟨t,valV ks kk,rfl,?_,?_⟩
   ·rw [y0v i1 ek]; exact DGet.k ht
   ·rw [m0r e1 e2]
    exact ((k.after k1).after k2).bl r2' h2
  ·exact h2.elim
 ·exact h2.elim
theorem u0u (hi:TEok K ty ay) (ha:TEok K td ad):TEok K (q0w ty td) (aDIn true ay ad):=by
 intro F σ ρ H q Q r h k
 refine hi F σ ρ H _ _ r h fun r1 ρ1 y H1 h1 o1=>?_
 obtain ⟨r1',k1,i1⟩:=o1.inF
 refine ha F σ ρ1 H1 _ _ r1' h1 fun r2 ρ2 x H2 h2 o2=>?_
 obtain ⟨r2',k2,i2⟩:=o2.inF
 split at h2
 ·rename_i d j
  have ej:σ[j]? = some (some x):=i2
  split at h2
  ·rename_i kvs kk hg ek
   obtain ⟨t,ks,rfl,ht,e1,e2⟩:=c1m r2' ej hg
   refine ⟨t,valV ks kk,rfl,?_,?_⟩
   ·rw [y0v i1 ek]; exact DGet.k ht
   ·rw [m0r e1 e2]
    exact ((k.after k1).after k2).bl r2' h2
  ·exact h2.elim
 ·exact h2.elim
def l1k (x o i:AE):AS:=fun e ρ=>x ρ fun r ρ1=>sto [r.frz] ρ1 fun ds ρ2=>o ρ2 fun r2 ρ3=>match r2 with
 | .o j=>i ρ3 fun r3 ρ4=>(match r3,gt ρ4 j,ds with
  | .d kd,.dk kvs,[d]=>(match dKey kd with | some k=>kvs.length ≤ 1000000∧e.nx (pt ρ4 j (.dk (putD kvs k d))) | none=>False)
  | _,_,_=>False)
 | _=>False
theorem s0z {pr:Nat→Bool} {tv:TE} {av:AE} (h:TEok K tv av) (ho:TEok K td ad) (hi:TEok K ty ay):TSok K pr (e1w td ty tv) (l1k av ad ay):=by
 intro F σ ρ H D e hp r ha k
 refine h F σ ρ H _ _ r ha fun r1 ρ1 v H1 h1 o=>?_
 obtain ⟨r',k1,i1⟩:=o.inF
 obtain ⟨ds,ρ2,h2,r2,k2,rd⟩:=f0y r' (.cons i1 .nil) h1
 refine ho F σ ρ2 H1 _ _ r2 h2 fun r3 ρ3 x H3 h3 o3=>?_
 obtain ⟨r3',k3,i3⟩:=o3.inF
 split at h3
 ·rename_i j
  have ej:σ[j]? = some (some x):=i3
  refine hi F σ ρ3 H3 _ _ r3' h3 fun r4 ρ4 y H4 h4 o4=>?_
  obtain ⟨r4',k4,i4⟩:=o4.inF
  split at h4
  ·rename_i kd kvs d hg
   split at h4
   ·rename_i kk ek
    obtain ⟨t,ks,rfl,ht,e1,e2⟩:=c1m r4' ej hg
    unfold RepDs at rd
    have rd4:=(RepD.same rd.1 (k3.trans k4).vis)
    obtain ⟨p1,p2⟩:=x0r kk rd4 e1 e2
    have hw:=r4'.write (i:=j) (l:=t) (o:=.dK (putK ks kk v)) (s:=.dk (putD kvs kk d)) (by rw [hg]; rfl) ej rfl ⟨t,_,rfl,a0v,p1,p2⟩
    refine ⟨t,_,rfl,?_,k.nx _ _ _ h4.2 hw.1⟩
    rw [y0v i4 ek]
    exact DPut.k ht (o0v (by rw [t0w e1]; exact h4.1))
   ·exact h4.elim
  ·exact h4.elim
 ·exact h3.elim
end
section
variable {X:Cx} {pins:List (Addr × Obj)} {σ:St} {H:Hp} {s:Shared} {h':Heap}
theorem Inv.turns {t':Nat} {ch:List Addr} (I:Inv X pins σ H s) (k:∀ b o,b ∉ ch→s.heap.get? b = some o→h'.get? b = some o) (hf:∀ b ∈ ch,FpOk X pins H b):Inv X pins σ H { s with heap:=h',toks:=t' }:=by
 have nit:∀ b u,H b = some u→b ∉ ch:=fun b u e z=>by rw [(hf b z).1] at e; cases e
 refine I.step (g':=s.gens) (d':=s.drawn) (ch:=ch) (fun b hb=>?_) (fun b o _ _ hc e _=>k b o hc e) (fun b o _ _ hc e _=>⟨o.slots,k b o hc e⟩) (fun _ _ _ _ n=>n)
  (fun b o hc e=>⟨o,k b o hc e⟩) (fun _ _ e=>e) (fun _ _ _ e=>e) (fun b ps e=>⟨#[],by rw [e]; simp⟩) (fun m hm=>?_) (fun b u e=>?_) I.bare
 ·obtain ⟨_,h2,_,h4,h5,h6⟩:=hf b hb
  exact ⟨h4,h2,h5,h6⟩
 ·obtain ⟨o,es,ep,ho,r⟩:=hm
  exact ⟨o,es,ep,k _ o (fun z=>(hf _ z).2.1 rfl) ho,r⟩
 ·refine (I.hok b u e).stay (fun c v hc q=>k c v ?_ q) (fun _ q=>q) fun _ _ q=>q
  rcases hc with z | z
  ·rw [z]; exact nit b u e
  ·exact nit c _ z
theorem Inv.trackO {p:Addr} {o:HO} (I:Inv X pins σ H s) (hf:FpOk X pins H p) (new:d0a X.prog X.w (upd H p o) s.heap p o):Inv X pins σ (upd H p o) s:=by
 have hn:=hf.1
 refine I.call' (ch:=[p]) rfl ⟨fun b u e _ _ _=>e,fun b u e _ _ _=>⟨u.slots,e⟩,fun b u e n hx=>?_,fun b u e _=>⟨u,e⟩,fun b xs e=>?_,fun b u v e=>?_,fun b ps e=>⟨#[],?_⟩⟩ (fun b u e=>?_) I.bare (fun b hb=>?_)
 ·rw [a0l (fun z=>hx (by simp [z]))]; exact n
 ·rw [a0l (b0c e hn)]; exact e
 ·rw [a0l (b0c e hn)]; exact e
 ·rw [a0l (b0c e hn),e]; simp
 ·by_cases hb:b = p
  ·subst hb; rw [a0v] at e; cases e; exact new
  ·rw [a0l hb] at e
   exact (I.hok b u e).stay (fun c v _ q=>q) (fun c q=>by rw [a0l (b0c q hn)]; exact q) fun c xs q=>by rw [a0l (b0c q hn)]; exact q
 ·rw [List.mem_singleton.mp hb]
  obtain ⟨_,h2,_,h4,h5,h6⟩:=hf
  exact ⟨h4,h2,h5,h6⟩
end
section
variable {K:PySem.W.Frag} {ts:TA} {as:AA}
def o0n (pin:Nat→Bool) (ρ:En):R→Option (List D × (En→Prop))
 | .d (.lst ds)=>some (ds,fun _=>True)
 | .o i=>(match gt ρ i with
  | .ow ds=>if pin i = true then some (ds,fun ρ2=>gt ρ2 i = .ow ds) else none
  | _=>none)
 | _=>none
theorem s0t {pin:Nat→Bool} {F:Fr} {σ:St} {ρ:En} {H:Hp} {v:V} {r:R} {ds:List D} {c:En→Prop} (a:Rel K F σ ρ H) (i:InF K F σ ρ H v r) (e:o0n pin ρ r = some (ds,c)) :
  ∃ l vs,v = .ref l∧SqL K H l vs∧∀ σ2 ρ2 H2,Same (hid H (hs F σ ρ)) (hid H2 (hs F σ2 ρ2))→(∀ i,SvOk K (hid H2 (hs F σ2 ρ2)) H2 σ2[i]? (gt ρ2 i))→(∀ j a,pin j = true→σ[j]? = some (some (.ref a))→σ2[j]? = some (some (.ref a)))→c ρ2→∃ vs2,SqL K H2 l vs2∧RepDs K (hid H2 (hs F σ2 ρ2)) vs2 ds:=by
 cases r with
 | n s=>cases e
 | t n=>cases e
 | x s=>cases e
 | d d =>
  cases d with
  | lst es =>
   simp only [o0n,Option.some.injEq,Prod.mk.injEq] at e
   obtain ⟨rfl,rfl⟩:=e
   have rd:RepD K _ v (.lst es):=i
   unfold RepD at rd
   obtain ⟨l,vs,rfl,sq,rr⟩:=rd
   exact ⟨l,vs,rfl,c0j.seq (StL.sq sq),fun σ2 ρ2 H2 sm _ _ _=>⟨vs,c0j.seq (sm.seq (StL.sq sq)),rr.same sm⟩⟩
  | non=>cases e
  | bl _=>cases e
  | int _=>cases e
  | str _=>cases e
  | tup _=>cases e
 | o j =>
  have ej:σ[j]? = some (some v):=i
  unfold o0n at e
  cases hg:gt ρ j with
  | ow es =>
   simp only [hg] at e
   split at e
   ·rename_i hp
    simp only [Option.some.injEq,Prod.mk.injEq] at e
    obtain ⟨rfl,rfl⟩:=e
    have s:=a.sl j
    rw [hg,ej] at s
    obtain ⟨l,vs,e1,hl,rd⟩:=s
    injection e1 with e1; injection e1 with e1; subst e1
    refine ⟨l,vs,rfl,SqL.of hl,fun σ2 ρ2 H2 sm sv pn hc=>?_⟩
    have s2:=sv j
    rw [hc,pn j l hp ej] at s2
    obtain ⟨l',vs',e2,hl',rd'⟩:=s2
    injection e2 with e2; injection e2 with e2; injection e2 with e2; subst e2
    exact ⟨vs',SqL.of hl',rd'⟩
   ·cases e
  | un=>simp [hg] at e
  | vl _=>simp [hg] at e
  | tp _=>simp [hg] at e
  | dk _=>simp [hg] at e
  | dt _=>simp [hg] at e
  | ex _ _=>simp [hg] at e
  | sc _=>simp [hg] at e
  | px _ _ _=>simp [hg] at e
end
section
variable {K:PySem.W.Frag} {ts:TA} {as:AA}
def aNever:AS:=fun _ _=>False
theorem c0m {pr:Nat→Bool}:TSok K pr tNever aNever:=fun F σ ρ H D e hp r h k=>h.elim
end
section
variable {X:Cx} (K:PySem.W.Frag)
def tFmt (te:TE):TE:=fun σ H Q=>te σ H fun x H1=>∃ i,x = .int i∧i.natAbs.log2 < 1920∧Q (.str (toString i)) H1
theorem d1i {e:Expr} {te:TE} {pos:Pos} (he:PE X e te):PE X (.FormattedValue e (-1) none pos) (tFmt te):=by
 intro pins s σ H Q I h
 refine FormattedValue_plain (thn (he pins s σ H _ I h) fun v s1 ⟨x,H1,I1,r1,q1⟩=>?_)
 obtain ⟨i,rfl,hz,q⟩:=q1
 obtain ⟨t,rfl⟩:=r1
 exact formatField_int_small hz ⟨.str _,H1,I1.tok _,⟨_,rfl⟩,q⟩
abbrev TJ:=Str→TE
def PJ (X:Cx) (es:List Expr) (t:TJ):Prop:=∀ (out:Str) (pins:List (Addr × Obj)) (s:Shared) (σ:St) (H:Hp) (Q:VK),Inv X pins σ H s→t out σ H Q→wpAny (model X.prog X.w) X.A (joinParts out (evalEach es X.env)) (EP X pins σ Q) X.xe s
def jNil:TJ:=fun out _ H Q=>out.length ≤ sizeLine∧Q (.str out) H
def y0w (te:TE) (t:TJ):TJ:=fun out σ H Q=>te σ H fun x H1=>∃ y,x = .str y∧(out ++ y).length ≤ sizeLine∧t (out ++ y) σ H1 Q
theorem d1h:PJ X [] jNil:=fun out pins s σ H Q I h=>joinParts_nil ⟨.str out,H,I.tok _,⟨_,rfl⟩,h.2⟩ h.1
theorem i0s {e:Expr} {es:List Expr} {te:TE} {t:TJ} (he:PE X e te) (hr:PJ X es t) (hs:evalEach (e :: es) X.env = eval e X.env :: evalEach es X.env:=by rfl):PJ X (e :: es) (y0w te t):=by
 intro out pins s σ H Q I h
 rw [hs]
 refine joinParts_cons (thn (he pins s σ H _ I h) fun v s1 ⟨x,H1,I1,r1,y,e1,hz,q⟩=>?_)
 subst e1
 obtain ⟨t',rfl⟩:=r1
 exact ⟨hz,hr _ pins s1 σ H1 Q I1 q⟩
theorem p0b {v1 v2:Expr} {rest:List Expr} {pos:Pos} {t:TJ} (h:PJ X (v1 :: v2 :: rest) t) (hs:evalEach (v1 :: v2 :: rest) X.env = eval v1 X.env :: eval v2 X.env :: evalEach rest X.env:=by rfl):PE X (.JoinedStr (v1 :: v2 :: rest) pos) (t Str.empty):=by
 intro pins s σ H Q I hq
 refine JoinedStr_many ?_
 rw [← hs]
 exact h Str.empty pins s σ H Q I hq
end
section
variable {K:PySem.W.Frag} {ta te:TE} {a ae:AE} {ts:TA} {as:AA}
theorem InF.strv {F:Fr} {σ:St} {ρ:En} {H:Hp} {v:V} {x:Str} (h:InF K F σ ρ H v (.d (.str x))):v = .str x:=by
 unfold InF RepD at h; exact h
def aFmt (a:AE):AE:=fun ρ q=>a ρ fun r ρ1=>match r with
 | .d (.int i)=>i.natAbs.log2 < 1920∧q (.d (.str (toString i))) ρ1
 | _=>False
theorem e1k (ha:TEok K ta a):TEok K (tFmt ta) (aFmt a):=by
 intro F σ ρ H q Q r h k
 refine ha F σ ρ H _ _ r h fun r1 ρ1 x H1 h1 o1=>?_
 obtain ⟨r1',k1,i1⟩:=o1.inF
 split at h1
 ·exact ⟨_,i1.int,h1.1,(k.after k1).str r1' h1.2⟩
 ·exact h1.elim
abbrev AJ:=Str→AE
def TJok (K:PySem.W.Frag) (t:TJ) (a:AJ):Prop:=∀ out,TEok K (t out) (a out)
def ajNil:AJ:=fun out ρ q=>out.length ≤ 1000000∧q (.d (.str out)) ρ
def u0m (a:AE) (r:AJ):AJ:=fun out ρ q=>a ρ fun r1 ρ1=>match r1 with
 | .d (.str y)=>(out ++ y).length ≤ 1000000∧r (out ++ y) ρ1 q
 | _=>False
theorem a1v:TJok K jNil ajNil:=fun out F σ ρ H q Q r h k=>⟨small h.1,k.str r h.2⟩
theorem k0f {t:TJ} {aj:AJ} (ha:TEok K ta a) (hr:TJok K t aj):TJok K (y0w ta t) (u0m a aj):=by
 intro out F σ ρ H q Q r h k
 refine ha F σ ρ H _ _ r h fun r1 ρ1 x H1 h1 o1=>?_
 obtain ⟨r1',k1,i1⟩:=o1.inF
 split at h1
 ·exact ⟨_,i1.strv,small h1.1,hr _ F σ ρ1 H1 q Q r1' h1.2 (k.after k1)⟩
 ·exact h1.elim
theorem u0t {t:TJ} {aj:AJ} (h:TJok K t aj):TEok K (t Str.empty) (aj Str.empty):=h _
def l1o (a:AE):AE:=fun ρ q=>a ρ fun r ρ1=>match r with
 | .d (.int i)=>q (.d (.int (Builtin.Int.intBits i:Nat))) ρ1
 | _=>False
theorem n0c (ha:TEok K ta a):TEok K (tBM0 K "int" (fun x xs H Q=>∃ i,x = .int i∧xs = []∧Q (.int (Builtin.Int.intBits i:Nat)) H) ta) (l1o a):=by
 intro F σ ρ H q Q r h k
 refine ha F σ ρ H _ _ r h fun r1 ρ1 x H1 h1 o1=>?_
 obtain ⟨r1',k1,i1⟩:=o1.inF
 split at h1
 ·rename_i i
  have ex:x = .int i:=i1.int
  subst ex
  exact ⟨by first | rfl | exact .inl rfl | trivial | simp [tyV],i,rfl,rfl,(k.after k1).int r1' h1⟩
 ·exact h1.elim
end
def Ite (K:PySem.W.Frag) (l:Addr):It :=
 ⟨fun i H=>∃ xs x,SqL K H l xs∧xs[i]? = some x,fun i H v H'=>∃ p x,v = .ref p∧H p = none∧H' = upd H p (.tup [.int (i:Nat),x])∧∀ xs,SqL K H l xs→xs[i]? = some x,
  fun i H=>∃ xs,SqL K H l xs∧xs.length ≤ i⟩
theorem w0i {P:Program} {w:World} {K:PySem.W.Frag} {elts:List Expr} {x1} {tpos:Pos} {e it l:Addr} (ne:e ≠ it) :
  Turn P w K (.Tuple elts x1 tpos) (Ite K l) [e,it] e (fun i h=>(∃ old,IsEnum h e it (i:Nat) old)∧h.IsListIter it l i) where
 mem:=by simp
 obj:=fun i h st b hb=>by
  obtain ⟨⟨old,he⟩,⟨o1,e1,c1,d1⟩⟩:=st
  simp only [List.mem_cons,List.not_mem_nil,or_false] at hb
  rcases hb with rfl | rfl
  ·exact ⟨_,he,fun v q=>by cases q⟩
  ·exact ⟨o1,e1,fun v q=>by rw [d1] at q; cases q⟩
 keep:=fun i h h' st k=>by
  obtain ⟨⟨old,he⟩,h1⟩:=st
  exact ⟨⟨old,k e (by simp) _ he⟩,h1.at fun o q=>k it (by simp) o q⟩
 item:=by
  intro X hP hw hK hc i pins s σ H E I hf st hg
  subst hP hw hK
  obtain ⟨xs,x,q1,hx⟩:=hg
  obtain ⟨⟨old,he⟩,h1⟩:=st
  obtain ⟨its,rv,p1,_⟩:=I.list q1
  obtain ⟨u,hu,ru⟩:=rv.get hx
  refine wpAny_pyNext_enum_item he h1 p1.isList (x:=u) (by simpa using hu) ne fun h' a1 a2 a3 a4 hk=>?_
  refine ⟨_,rfl,wpAny_letOwnedTupleGo_enum (s:={ s with heap:=h',toks:=s.toks + 1 }) a1 fun h2' he' hs'=>?_⟩
  have hs2:Heap.SameBut e h' h2':=hs'
  have ls:∀ {b o},s.heap.get? b = some o→b ≠ s.heap.objs.size:=fun e=>Nat.ne_of_lt (Heap.lt_size e)
  have es:e ≠ s.heap.objs.size:=ls he
  have up:∀ b o,b ∉ [e,it]→s.heap.get? b = some o→h2'.get? b = some o:=fun b o hb q=>by
   simp only [List.mem_cons,List.not_mem_nil,or_false,not_or] at hb
   exact (hs2.2 b hb.1).trans (hk b o hb.1 hb.2 q)
  have I1:Inv X pins σ H { s with heap:=h2',toks:=s.toks + 1 }:=I.turns (t':=s.toks + 1) up hf
  have fp:FpOk X pins H s.heap.objs.size:=I.fpOk (Nat.le_refl _) (I.hok.fresh (Nat.le_refl _))
  have g:h2'.get? s.heap.objs.size = some { cls:=.type "tuple",data:=.seq #[.int i s.toks,u] }:=(hs2.2 _ (Ne.symm es)).trans a3
  have I2:=I1.trackO (o:=.tup [.int (i:Nat),x]) fp ⟨by show 2 ≤ sizeLine; decide,[.int i s.toks,u],.cons ⟨_,rfl⟩ (.cons ru .nil),_,g,rfl,_,rfl⟩
  refine ⟨.ref s.heap.objs.size,upd H s.heap.objs.size (.tup [.int (i:Nat),x]),I2,rfl,⟨_,x,rfl,fp.1,rfl,fun zs hz=>by rw [I.list_inj hz q1]; exact hx⟩,?_,fun b hb=>?_⟩
  ·refine ⟨⟨u,by simpa using he'⟩,?_⟩
   obtain ⟨o,q,r⟩:=a2; exact ⟨o,(hs2.2 it (Ne.symm ne)).trans q,r⟩
  ·have hb':=(hf b hb).1
   have ne':b ≠ s.heap.objs.size:=by
    obtain ⟨o1,e1,_⟩:=h1
    simp only [List.mem_cons,List.not_mem_nil,or_false] at hb
    rcases hb with rfl | rfl
    ·exact ls he
    ·exact ls e1
   rw [a0l ne']; exact hb'
 done:=by
  intro X hP hw hK hc i pins s σ H E I hf st hg
  subst hP hw hK
  obtain ⟨xs,q1,hl⟩:=hg
  obtain ⟨⟨old,he⟩,h1⟩:=st
  obtain ⟨its,rv,p1,_⟩:=I.list q1
  have l1:=rv.length
  refine wpAny_pyNext_enum_end (I.ok.hd hc) he h1 p1.isList (by simp; omega) fun h' hk=>⟨rfl,I.turns (ch:=[e,it]) (t':=s.toks) (fun b o hb q=>?_) hf⟩
  simp only [List.mem_cons,List.not_mem_nil,or_false,not_or] at hb
  exact hk b o hb.2 q
 self:=fun _ _ _ _ _ st h=>by obtain ⟨⟨old,he⟩,_⟩:=st; exact wpAny_pyIter_enum he h
def j1k (K:PySem.W.Frag) (t:TA):TI:=fun σ H R=>t σ H fun vs H1=>∃ l xs,vs = [.ref l]∧SqL K H1 l xs∧R (Ite K l) H1
theorem f1g (K:PySem.W.Frag) {X:Cx} {elts:List Expr} {x1} {tpos:Pos} {a:Expr} {ta:TA} {p pos:Pos} (hg:Gl X "enumerate") (hm:X.mg "enumerate" = none) (ha:PA X [a] ta) (hK:X.K = K:=by rfl) (hs:starEach [a] X.env = [(false,eval a X.env)]:=by rfl) :
  PI X (.Tuple elts x1 tpos) (.Call (.Name "enumerate" p) [a] [] pos) (j1k K ta):=by
 subst hK
 intro pins s σ H R I h
 refine Call_ (l0g I hg hm j0h (PyProof.Rows.callWith_type1 (thn (ha pos pins s σ H _ I h) fun us s1 ⟨vs,H1,I1,r1,q1⟩=>?_) hs rfl))
 obtain ⟨l,xs,rfl,h1,q⟩:=q1
 obtain ⟨u,rfl,ru⟩:=o0p r1
 cases ru
 obtain ⟨its,_,p1,_⟩:=I1.list h1
 refine call_enumerate_list p1.isList fun h' he hi hsz hk=>?_
 refine wpAny_pyIter_enum he ?_
 refine ⟨_,_,_,_,H1,rfl,I1.kept (t':=s1.toks) hk,w0i (show s1.heap.objs.size + 1 ≠ s1.heap.objs.size by omega),⟨⟨_,he⟩,hi⟩,fun b hb=>?_,q⟩
 have le:s1.heap.objs.size ≤ b:=by
  simp only [List.mem_cons,List.not_mem_nil,or_false] at hb
  rcases hb with rfl | rfl <;> omega
 exact I1.fpOk le (I1.hok.fresh le)
section
variable {K:PySem.W.Frag} {ts:TA} {as:AA}
def j0m (k:Nat):List D→List D
 | []=>[]
 | d :: ds=>.tup [.int (k:Nat),d] :: j0m (k + 1) ds
theorem g0p:∀ {ds:List D} {b k:Nat} {d:D},(j0m b ds)[k]? = some d→∃ x,ds[k]? = some x∧d = .tup [.int ((b + k:Nat):Int),x]
 | [],b,k,d,h=>by simp [j0m] at h
 | x :: ds,b,0,d,h=>by
  simp only [j0m,List.getElem?_cons_zero,Option.some.injEq] at h
  exact ⟨x,rfl,h.symm⟩
 | x :: ds,b,k + 1,d,h=>by
  simp only [j0m,List.getElem?_cons_succ] at h
  obtain ⟨a,e1,e2⟩:=g0p (ds:=ds) (b:=b + 1) (k:=k) h
  exact ⟨a,by simpa using e1,by rw [e2,show b + 1 + k = b + (k + 1) by omega]⟩
theorem f0j:∀ (ds:List D) (b:Nat),(j0m b ds).length = ds.length
 | [],b=>rfl
 | x :: ds,b=>by simp only [j0m,List.length_cons,f0j ds]
theorem e1c {S:Addr→Prop} {H:Hp} {l:Addr} {vs:List V} {ds:List D} (al:∀ a,S a→H a ≠ none) (h1:SqL K H l vs) (r1:RepDs K (hid H S) vs ds):WkAt K S H (Ite K l) (j0m 0 ds):=by
 intro k
 constructor
 ·intro d e
  obtain ⟨x,ex,rfl⟩:=g0p e
  rw [Nat.zero_add]
  obtain ⟨v,e1,rv⟩:=r1.get ex
  refine ⟨⟨vs,v,h1,e1⟩,fun z H' ⟨p,a,ez,hp,eH,ha⟩=>?_⟩
  have a1:=ha vs h1
  rw [e1] at a1
  cases a1
  subst eH ez
  have sm:Same H (upd H p (.tup [.int (k:Nat),v])):=(Same.refl H).new hp
  have sm':Same (hid H S) (hid (upd H p (.tup [.int (k:Nat),v])) S):=b0k fun a o e n=>⟨sm a o e,n⟩
  refine ⟨sm,?_⟩
  unfold RepD
  exact ⟨p,[.int (k:Nat),v],rfl,(f0h (fun z=>al p z hp) a0v),.cons (by unfold RepD; rfl) (.cons (rv.same sm') .nil)⟩
 ·intro z
  rw [f0j] at z
  exact ⟨vs,h1,by rw [r1.length]; exact z⟩
def l1i (pin:Nat→Bool) (as:AA):AI:=fun ρ q=>as ρ fun rs ρ1=>match rs with
 | [r1]=>(match o0n pin ρ1 r1 with
  | some (ds,c)=>q (j0m 0 ds) c ρ1
  | _=>False)
 | _=>False
theorem w0t {pin:Nat→Bool} (h:TAok K ts as):TIok K pin (j1k K ts) (l1i pin as):=by
 intro F σ ρ H q Rk r ha k
 refine h F σ ρ H _ _ r ha fun rs ρ1 vs H1 h1 r1 i1 k1=>?_
 split at h1
 ·obtain ⟨x,rfl,ix⟩:=i1.one
  split at h1
  ·rename_i ds c e1
   obtain ⟨l1,us1,rfl,s1,w1⟩:=s0t r1 ix e1
   refine ⟨l1,us1,rfl,s1,k _ _ _ _ _ h1 r1 k1 fun σ2 ρ2 H2 sm sv pn al hc=>?_⟩
   obtain ⟨v1,z1,rd1⟩:=w1 σ2 ρ2 H2 sm sv pn hc
   exact e1c (fun a z=>(al a z).1) z1 rd1
  ·exact h1.elim
 ·exact h1.elim
end
open Builtin.SmallTypes (nextOf)
structure Feed (prog:Program) (w:World) (it:Addr) (dep:List Addr) (St:Nat→Heap→Prop) (gv:Nat→Option Value):Prop where
 mem:it ∈ dep
 obj:∀ i h,St i h→∃ o vs n,h.get? it = some o∧o.data = .fields vs∧o.cls = .type n∧n ≠ "zip"
 keep:∀ i h h',St i h→(∀ b o,b ∈ dep→h.get? b = some o→h'.get? b = some o)→St i h'
 item:∀ (A:Around) i (s:Shared) x (Q:Value→Shared→Prop) E,St i s.heap→gv i = some x→(∀ h',St (i + 1) h'→Heap.SameBut it s.heap h'→Q x { s with heap:=h' })→wpAny (model prog w) A (nextOf (.ref it)) Q E s
 fin:∀ (A:Around) i (s:Shared) (Q:Value→Shared→Prop) E,A.handled = none→St i s.heap→gv i = none→(∀ h' e,Heap.ExtBut it s.heap h'→(∃ o,h'.get? e = some o∧o.cls = .type "StopIteration")→E (.ref e) { s with heap:=h' })→wpAny (model prog w) A (nextOf (.ref it)) Q E s
section
variable {prog:Program} {w:World}
theorem o0c {it l:Addr} {xs:Array Value} (hne:l ≠ it):Feed prog w it [it,l] (fun i h=>h.IsTupleIter it l i∧h.IsTuple l xs) (fun i=>xs[i]?) where
 mem:=by simp
 obj:=fun i h ⟨⟨o,e,c,d⟩,_⟩=>⟨o,_,_,e,d,c,by decide⟩
 keep:=fun i h h' ⟨a,b⟩ k=>⟨a.at fun o e=>k it o (by simp) e,by obtain ⟨o,e,r⟩:=b; exact ⟨o,k l o (by simp) e,r⟩⟩
 item:=fun A i s x Q E ⟨a,b⟩ hx k=>by
  obtain ⟨o,ho,hc,hd⟩:=id a
  obtain ⟨ol,hol,rr,nl,hdl⟩:=id b
  unfold nextOf
  refine wpAny_bind (wpAny_callSpecial?_slot (name:=Str.ofString "__next__") a.typeIs F.slot_tuple_iterator_next (wpAny_call_entry F.slot_tuple_iterator_next a.typeIs F.entry_tuple_iterator_next ?_ (F.args_tuple_iterator_next_1 _)))
  show wpAny _ _ (field (.ref it) 0 >>= _) _ _ s
  refine wpAny_bind (wpAny_field ho hd (x:=.ref l) rfl ?_)
  show wpAny _ _ (if (Value.ref l == Value.none) = true then _ else _) _ _ s
  rw [if_neg (fun z=>by cases z)]
  show wpAny _ _ (field (.ref it) 1 >>= _) _ _ s
  refine wpAny_bind (wpAny_field ho hd (x:=.int i 0) rfl ?_)
  show wpAny _ _ (seqItems? (.ref l) >>= _) _ _ s
  refine wpAny_bind (wpAny_seqItems hol hdl ?_)
  simp only [Int.toNat_natCast,hx]
  refine wpAny_bind (wpAny_setField ho hd (by simp) (wpAny_pure ⟨x,rfl,wpAny_pure ?_⟩))
  refine k _ ⟨⟨_,Heap.get?_update_self _ ho (Obj.isFreed_of_fields (Obj.data_mapFields hd _)),(Obj.cls_mapFields ..).trans hc,by rw [Obj.data_mapFields hd]; simp [rawInt]⟩,ol,?_,rr,nl,hdl⟩ (Heap.SameBut.update ..)
  exact ((Heap.SameBut.update ..).2 l hne).trans hol
 fin:=fun A i s Q E hh ⟨a,b⟩ hx k=>by
  obtain ⟨o,ho,hc,hd⟩:=id a
  obtain ⟨ol,hol,rr,nl,hdl⟩:=id b
  unfold nextOf
  refine wpAny_bind (wpAny_callSpecial?_slot (name:=Str.ofString "__next__") a.typeIs F.slot_tuple_iterator_next (wpAny_call_entry F.slot_tuple_iterator_next a.typeIs F.entry_tuple_iterator_next ?_ (F.args_tuple_iterator_next_1 _)))
  show wpAny _ _ (field (.ref it) 0 >>= _) _ _ s
  refine wpAny_bind (wpAny_field ho hd (x:=.ref l) rfl ?_)
  show wpAny _ _ (if (Value.ref l == Value.none) = true then _ else _) _ _ s
  rw [if_neg (fun z=>by cases z)]
  show wpAny _ _ (field (.ref it) 1 >>= _) _ _ s
  refine wpAny_bind (wpAny_field ho hd (x:=.int i 0) rfl ?_)
  show wpAny _ _ (seqItems? (.ref l) >>= _) _ _ s
  refine wpAny_bind (wpAny_seqItems hol hdl ?_)
  simp only [Int.toNat_natCast,hx]
  refine wpAny_bind (wpAny_rule (wpAny_bind (wpAny_setField ho hd (by simp) ?_)))
  show wpAny _ _ (newExc (.type "StopIteration") [] >>= _) _ _ _
  refine wpAny_bind ?_
  simp only [newExc,newTuple]
  refine wpAny_bind (wpAny_newObj_type ?_ (by size_fits))
  refine wpAny_bind (m:=firstArgMember _ _) (wpAny_of_eq (a:=Value.none) (by first | rfl | (simp only [firstArgMember]; rfl)) ?_)
  refine wpAny_newObj_type ?_ (by size_fits)
  simp only [raiseNew]
  refine wpAny_bind (wpAny_handled ?_)
  first | rw [show A.in1.handled = none from hh] | rw [hh]
  refine wpAny_bind (wpAny_pure (wpAny_throw ?_))
  exact k _ _ (((Heap.SameBut.update ..).extBut.push _).push _) ⟨_,Heap.get?_push_size _ rfl,rfl⟩
variable {A:Around} {E:Value→Shared→Prop} {s:Shared} {z TI TO i1 i2:Addr} {d1 d2:List Addr} {S1 S2:Nat→Heap→Prop} {g1 g2:Nat→Option Value}
end
theorem y0s {P:Program} {w:World}:∀ {kvs:List (Key × V)} {vs:List (Key × Value)},KV kvs vs→Vals (kvs.map Prod.snd) (vs.map Prod.snd)
 | _,_,.nil=>.nil
 | _,_,.cons h t=>.cons h.2 (y0s (P:=P) (w:=w) t)
section
variable {X:Cx}
def rInsert:V→List V→Hp→VK→Prop:=fun x vs H Q=>∃ (l:Addr) (xs:List V) (k:Nat) (y:V),x = .ref l∧vs = [.int (k:Nat),y]∧H l = some (.lst xs)∧k ≤ xs.length∧xs.length ≤ 1000000∧Q .non (upd H l (.lst (xs.take k ++ y :: xs.drop k)))
theorem a1p {xs:List V} {us:List Value} (h:Vals xs us):∀ k,Vals (xs.take k) (us.take k)∧Vals (xs.drop k) (us.drop k):=by
 induction h with
 | nil=>intro k; rw [List.take_nil,List.take_nil,List.drop_nil,List.drop_nil]; exact ⟨.nil,.nil⟩
 | cons h t ih =>
  intro k
  cases k with
  | zero=>exact ⟨.nil,.cons h t⟩
  | succ k=>exact ⟨.cons h (ih k).1,(ih k).2⟩
theorem z0b {l:Addr} {its:List Value} {n:Nat} {j:Int} {k:Nat} {t:Tok} {w:Value} {s:Shared} {Q:Value→Shared→Prop} {E:Value→Shared→Prop} {A:Around} {prog:Program} {wd:World} (hj:j = k) (hk:k ≤ its.length) (hl:its.length ≤ 1000000)
  (e:s.heap.get? l = some { cls:=.type "list",data:=.seq its.toArray n }) (h:∀ f:Array Value→Array Value,f its.toArray = (its.take k ++ w :: its.drop k).toArray→Q .none { s with heap:=s.heap.update l (Obj.mapSeq f),toks:=s.toks }):wpAny (model prog wd) A (call (.builtin "list.insert") [.ref l,.int j t,w]) Q E s:=by
 have hf:¬ (!Builtin.List.listFitsIndex j) = true:=by
  simp [Builtin.List.listFitsIndex]
  omega
 refine call_meets PySem.F.slot_list_insert ⟨_,e,rfl⟩ PySem.F.entry_list_insert (PySem.F.args_list_insert_3 _ _ _) (PySem.AutoSeq1.list_insert_list_int_val_1 l its.toArray n j t w hf (by rw [List.size_toArray,sizeLine_eq]; omega)) ⟨e,h _ ?_⟩
 have ek:(if j < 0 then (j + (its.toArray.size:Int)).toNat else min j.toNat its.toArray.size) = k:=by
  rw [if_neg (by omega),List.size_toArray]; omega
 show (its.toArray.extract 0 (if j < 0 then (j + (its.toArray.size:Int)).toNat else min j.toNat its.toArray.size)).push w ++ its.toArray.extract (if j < 0 then (j + (its.toArray.size:Int)).toNat else min j.toNat its.toArray.size) = _
 rw [ek]
 apply Array.toList_inj.mp
 simp
 rw [List.take_of_length_le (by rw [List.length_drop]; exact Nat.le_refl _)]
theorem p0q:MtM X "list.insert" rInsert:=by
 intro pins s σ H x vs v us Q I rx rv h
 obtain ⟨l,xs,k,y,rfl,rfl,hH,hk,hl',q⟩:=h
 cases rx
 obtain ⟨u,w,rfl,⟨t,rfl⟩,rw'⟩:=h1k rv
 obtain ⟨z,its,n,r,hl,e⟩:=I.lstM hH
 obtain ⟨v1,v2⟩:=a1p r k
 refine z0b rfl (by omega) (by omega) e fun f hf=>?_
 refine ⟨.non,_,I.lset (its':=its.take k ++ w :: its.drop k) hH e hf (v1.append (.cons rw' v2)) ?_,rfl,q⟩
 rw [List.length_append,List.length_cons,List.length_take,List.length_drop,sizeLine_eq]; omega
end
section
variable {K:PySem.W.Frag} {ta td tv:TE} {ad a av:AE} {ts:TA} {as:AA}
def aIns (a:AE) (as:AA):AE:=fun ρ q=>a ρ fun r ρ1=>match r with
 | .o i=>(match gt ρ1 i with
  | .ow _=>as ρ1 fun rs ρ2=>(match rs with
   | [.d (.int j),y]=>sto [y] ρ2 fun es ρ3=>(match gt ρ3 i,es with
    | .ow ds,[d]=>∃ n:Nat,j = n∧n ≤ ds.length∧ds.length ≤ 1000000∧q (.d .non) (pt ρ3 i (.ow (ds.take n ++ d :: ds.drop n)))
    | _,_=>False)
   | _=>False)
  | _=>False)
 | _=>False
theorem w0n (ha:TEok K ta a) (hs':TAok K ts as):TEok K (tBM K "list" rInsert ta ts) (aIns a as):=by
 intro F σ ρ H q Q r h k
 refine ha F σ ρ H _ _ r h fun r1 ρ1 x H1 h1 rel1=>?_
 split at h1
 ·rename_i i
  obtain ⟨r',k1,i1⟩:=rel1.inF
  have ex:σ[i]? = some (some x):=i1
  split at h1
  ·rename_i ds0 hg0
   have s:=r'.sl i
   rw [hg0,ex] at s
   obtain ⟨l,vs0,e,hl,_⟩:=s
   injection e with e; injection e with e; subst e
   refine ⟨.inl ⟨rfl,_,SqL.of hl⟩,hs' F σ ρ1 H1 _ _ r' h1 fun rs ρ2 vs H2 h2 r2 i2 k2=>?_⟩
   split at h2
   ·rename_i j y
    obtain ⟨z1,z2,rfl,iz1,iz2⟩:=i2.two
    obtain ⟨es,ρ3,h3,r3,k3,rd⟩:=f0y r2 (.cons iz2 .nil) h2
    split at h3
    ·rename_i ds d hg
     have s:=r3.sl i
     rw [hg,ex] at s
     obtain ⟨l',us,e,hl',rd'⟩:=s
     injection e with e; injection e with e; injection e with e; subst e
     obtain ⟨n,rfl,hn,hz,hq⟩:=h3
     unfold RepDs at rd
     have rdn:RepDs K (hid H2 (hs F σ ρ3)) (us.take n ++ z2 :: us.drop n) (ds.take n ++ d :: ds.drop n):=(rd'.take n).append (.cons rd.1 (rd'.drop n))
     have hw:=r3.write (i:=i) (l:=l) (o:=.lst (us.take n ++ z2 :: us.drop n)) (s:=.ow (ds.take n ++ d :: ds.drop n)) (by rw [hg]; rfl) ex rfl ⟨l,_,rfl,a0v,rdn⟩
     have ll:=rd'.length
     exact ⟨l,us,n,z2,rfl,by rw [iz1.int],hl',by omega,by omega,((((k.after k1).after k2).after k3).after hw.2).non hw.1 hq⟩
    ·exact h3.elim
   ·exact h2.elim
  ·exact h1.elim
 ·exact h1.elim
theorem g1e {F:Fr} {σ:St} {ρ:En} {H:Hp} {i:Nat} {x:V} {kvs:List (List Key × D)} (r:Rel K F σ ρ H) (ei:σ[i]? = some (some x)) (hg:gt ρ i = .dt kvs):∃ t ks,x = .ref t∧H t = some (.dT ks)∧ks.map Prod.fst = kvs.map Prod.fst∧RepDs K (hid H (hs F σ ρ)) (ks.map Prod.snd) (kvs.map Prod.snd):=by
 have s:=r.sl i
 rw [hg,ei] at s
 obtain ⟨t,ks,e,h1,h2,h3⟩:=s
 injection e with e; injection e with e
 exact ⟨t,ks,e,h1,h2,h3⟩
theorem InFs.length {F:Fr} {σ:St} {ρ:En} {H:Hp} {vs:List V} {rs:List R} (h:InFs K F σ ρ H vs rs):vs.length = rs.length:=by
 induction h with
 | nil=>rfl
 | cons _ _ ih=>rw [List.length_cons,List.length_cons,ih]
end
def Itv (a:Addr) (ob:Obj) (vs:List V):It :=
 ⟨fun i H=>(∃ u,H a = some (.frz ob u))∧i < vs.length,fun i H v H'=>H' = H∧vs[i]? = some v,fun i H=>(∃ u,H a = some (.frz ob u))∧vs.length ≤ i⟩
theorem w0g {P:Program} {w:World} {K:PySem.W.Frag} {tg:Expr} {it a:Addr} {ob:Obj} {vs:List V} {kv:List (Key × Value)} {ep:Nat} (rv:Vals vs (kv.map Prod.snd)) (ne:a ≠ it) (hob:∀ h:Heap,h.get? a = some ob→h.DictAt (b0u P w) a kv ep) :
  Turn P w K tg (Itv a ob vs) [it] it (fun i h=>h.IsValIter it a i kv.length ep) where
 mem:=by simp
 obj:=fun i h st b hb=>by
  obtain ⟨o1,e1,c1,d1⟩:=st
  rw [List.mem_singleton.mp hb]
  exact ⟨o1,e1,fun v q=>by rw [d1] at q; cases q⟩
 keep:=fun i h h' st k=>st.at fun o q=>k it (by simp) o q
 item:=by
  intro X hP hw hK hc i pins s σ H E I hf st hg
  subst hP hw hK
  obtain ⟨⟨u,hu⟩,hi⟩:=hg
  have ha:s.heap.get? a = some ob:=(show d0a X.prog X.w H s.heap a (.frz ob u) from I.hok a _ hu).1
  have hl:vs.length = kv.length:=by have:=rv.length; rw [List.length_map] at this; exact this
  obtain ⟨⟨kk,x⟩,hx⟩:∃ p,kv[i]? = some p:=⟨kv[i],List.getElem?_eq_getElem (by omega)⟩
  have hx':(kv.map Prod.snd)[i]? = some x:=by rw [List.getElem?_map,hx]; rfl
  have hv:∃ v,vs[i]? = some v∧RelV v x:=by
   obtain ⟨y,e1,e2⟩:=rv.get (i:=i) (x:=vs[i]) (List.getElem?_eq_getElem hi)
   rw [hx'] at e1; cases e1
   exact ⟨_,List.getElem?_eq_getElem hi,e2⟩
  obtain ⟨v,hv,rx⟩:=hv
  refine wpAny_pyNext_values_item st (hob _ ha) hx fun h' hit' hs'=>?_
  obtain ⟨o1,e1,c1,d1⟩:=id hit'
  refine ⟨_,rfl,z0f e1 c1 d1 (by decide) ?_⟩
  refine ⟨v,H,I.turns (ch:=[it]) (t':=s.toks) (fun b o hb q=>hs'.extBut b o (fun z=>hb (by simp [z])) q) hf,rx,⟨rfl,hv⟩,hit',fun b hb=>(hf b hb).1⟩
 done:=by
  intro X hP hw hK hc i pins s σ H E I hf st hg
  subst hP hw hK
  obtain ⟨⟨u,hu⟩,hi⟩:=hg
  have ha:s.heap.get? a = some ob:=(show d0a X.prog X.w H s.heap a (.frz ob u) from I.hok a _ hu).1
  have hl:vs.length = kv.length:=by have:=rv.length; rw [List.length_map] at this; exact this
  refine wpAny_pyNext_values_end (I.ok.hd hc) st (hob _ ha) (by rw [List.getElem?_eq_none (by omega)]) fun h' he'=>⟨rfl,I.turns (ch:=[it]) (t':=s.toks) (fun b o hb q=>he' b o (fun z=>hb (by simp [z])) q) hf⟩
 self:=fun _ _ _ _ _ st h=>wpAny_pyIter_valiter st h
def j1i (td:TE):TI:=fun σ H R=>td σ H fun x H1=>∃ a kvs,x = .ref a∧H1 a = some (.dK kvs)∧∀ ob,R (Itv a ob (kvs.map Prod.snd)) (upd H1 a (.frz ob (.dK kvs)))
theorem f1f {X:Cx} {tg o:Expr} {td:TE} {apos cpos:Pos} (ho:PE X o td) (hbase:attributeBase o "values" X.env (eval o X.env) = eval o X.env:=by rfl) (hline:(apos.endLine == cpos.line) = true:=by rfl) :
  PI X tg (.Call (.Attribute o "values" apos) [] [] cpos) (j1i td):=by
 intro pins s σ H R I h
 refine wpAny_Call_method0_late hbase hline (thn (ho pins s σ H _ I h) fun v s1 ⟨x,H1,I1,r1,a,kvs,ex,ha,q1⟩=>?_)
 subst ex
 obtain rfl:v = Value.ref a:=r1
 obtain ⟨z,hd,vs,rel,dd⟩:=g1h I1.hok ha
 obtain ⟨t1,t2,_⟩:=j1h I1 (.inl ⟨kvs,.inl ha⟩)
 refine ⟨"dict", "dict.values",PySem.F.plainAttrs_dict,PySem.F.slot_dict_values,PySem.F.type_dict_values,t1,t2,Calls.callWith_builtin rfl (PySem.evalArgs_none ?_)⟩
 refine call_meetsIn PySem.F.slot_dict_values dd.typeIs PySem.F.entry_dict_values (PySem.F.args_dict_values_1 _) (meets_dict_values (b0u X.prog X.w) a hd) ⟨⟨vs,dd⟩,?_⟩
 obtain ⟨ep,da⟩:=dd.dictAt
 obtain ⟨ob,es,eo,r⟩:=id da
 refine wpAny_pyIter_values (knd:=b0u X.prog X.w) (kvs:=vs) (ep:=ep) ⟨_,Heap.get?_push_size _ rfl,rfl,rfl⟩ (da.push _) ?_
 have I2:Inv X pins σ H1 { s1 with heap:=(s1.heap.push { cls:=.type "dict_values",data:=.fields #[.ref a] }).push { cls:=.type "dict_valueiterator",data:=.fields #[.ref a,.int 0 0,.int vs.length 0,.int ep 0] } }:=I1.kept (t':=s1.toks) fun b o e=>Heap.get?_push_of_some _ (Heap.get?_push_of_some _ e)
 have ha2:((s1.heap.push { cls:=.type "dict_values",data:=.fields #[.ref a] }).push { cls:=.type "dict_valueiterator",data:=.fields #[.ref a,.int 0 0,.int vs.length 0,.int ep 0] }).get? a = some ob:=Heap.get?_push_of_some _ (Heap.get?_push_of_some _ eo)
 have I3:=I2.write (x:=a) (e:=a) (o:=.frz ob (.dK kvs)) (t':=s1.toks) (h':=(s1.heap.push { cls:=.type "dict_values",data:=.fields #[.ref a] }).push { cls:=.type "dict_valueiterator",data:=.fields #[.ref a,.int 0 0,.int vs.length 0,.int ep 0] }) (by rw [ha]; exact True.intro) (.inl rfl) (fun b q _ e=>e) ⟨ob,ha2⟩ ⟨ha2,z,hd,vs,rel,⟨ob,es,ep,ha2,r⟩⟩
 have lt:a < s1.heap.objs.size:=Heap.lt_size eo
 have sz:(s1.heap.push { cls:=.type "dict_values",data:=.fields #[.ref a] }).objs.size = s1.heap.objs.size + 1:=Heap.size_push _ _
 have ne:a ≠ (s1.heap.push { cls:=.type "dict_values",data:=.fields #[.ref a] }).objs.size:=by rw [sz]; exact Nat.ne_of_lt (Nat.lt_succ_of_lt lt)
 have T:Turn X.prog X.w X.K tg (Itv a ob (kvs.map Prod.snd)) [(s1.heap.push { cls:=.type "dict_values",data:=.fields #[.ref a] }).objs.size] (s1.heap.push { cls:=.type "dict_values",data:=.fields #[.ref a] }).objs.size (fun i h=>h.IsValIter (s1.heap.push { cls:=.type "dict_values",data:=.fields #[.ref a] }).objs.size a i vs.length ep) :=
  w0g (y0s (P:=X.prog) (w:=X.w) rel) ne (fun h e=>(⟨ob,es,e,r⟩:h.DictAt (b0u X.prog X.w) a vs ep))
 refine ⟨_,_,_,_,_,rfl,I3,T,⟨_,Heap.get?_push_size _ rfl,rfl,rfl⟩,fun b hb=>?_,q1 ob⟩
 rw [List.mem_singleton.mp hb]
 refine I1.fpOk (by rw [sz]; exact Nat.le_succ _) ?_
 rw [a0l ne.symm,sz]
 exact I1.hok.fresh (Nat.le_succ _)
section
variable {K:PySem.W.Frag} {td:TE} {ad:AE}
def k1z (a:AE):AI:=fun ρ q=>a ρ fun r ρ1=>match r with
 | .n (.dk kvs)=>q (kvs.map Prod.snd) (fun _=>True) ρ1
 | _=>False
theorem w0s {pin:Nat→Bool} (h:TEok K td ad):TIok K pin (j1i td) (k1z ad):=by
 intro F σ ρ H q Rk r ha k
 refine h F σ ρ H _ _ r ha fun r1 ρ1 x H1 h1 o1=>?_
 split at h1
 ·rename_i kvs
  obtain ⟨Hb,l,o,rb,kb,so,sv,hl,rfl,rfl⟩:=o1
  obtain ⟨t,ks,e,ht,e1,e2⟩:=sv
  cases e
  rw [a0v] at ht
  cases ht
  refine ⟨l,ks,rfl,a0v,fun ob=>?_⟩
  have eh:upd (upd Hb l (.dK ks)) l (.frz ob (.dK ks)) = upd Hb l (.frz ob (.dK ks)):=by
   funext a
   by_cases z:a = l
   ·rw [z,a0v,a0v]
   ·rw [a0l z,a0l z,a0l z]
  rw [eh]
  have kf:Kp σ ρ1 ρ1 Hb (upd Hb l (.frz ob (.dK ks))):=Kp.fresh hl
  refine k _ _ _ _ _ h1 (rb.fresh hl) (kb.trans kf) fun σ2 ρ2 H2 sm _ _ _ _=>?_
  have vl:hid (upd Hb l (.frz ob (.dK ks))) (hs F σ ρ1) l = some (.frz ob (.dK ks)):=f0h (fun z=>t0x rb z hl) a0v
  have h2:H2 l = some (.frz ob (.dK ks)):=(d0b.mp (sm _ _ vl)).2
  have rd:RepDs K (hid H2 (hs F σ2 ρ2)) (ks.map Prod.snd) (kvs.map Prod.snd):=(e2.same kf.vis).same sm
  intro i
  refine ⟨fun d hd=>?_,fun hi=>⟨⟨_,h2⟩,by rw [rd.length]; exact hi⟩⟩
  obtain ⟨v,hv,rv⟩:=rd.get hd
  refine ⟨⟨⟨_,h2⟩,(List.getElem?_eq_some_iff.mp hv).1⟩,fun y H' hy=>?_⟩
  obtain ⟨rfl,hy⟩:=hy
  rw [hv] at hy; cases hy
  exact ⟨Same.refl _,rv⟩
 ·exact h1.elim
end
section
variable {X:Cx}
structure BlkC (X:Cx) (scope:Scope) (own:List Str) (js:List Nat):Prop where
 kind:scope.kind = .function
 cells:∀ y ∈ scope.names,y.2 = .cell→scope.names.lookup y.1 = some .cell
 names:∀ y ∈ scope.names,y.2 = .local→scope.names.lookup y.1 = some .local
 free:∀ y ∈ scope.names,y.2 = .free→X.env.kindOf y.1 = some .cell ∨ X.env.kindOf y.1 = some .free
 uniq:∀ x,(x,NameKind.free) ∈ scope.names→scope.names.lookup x = some .free
 nd:(own ++ capN X.N js).Nodup
 cap:∀ j ∈ js,j < X.N.length∧((X.N[j]?).getD "",NameKind.free) ∈ scope.names
def j1y (sc:Scope) (N:List Str) (scope:Scope) (own:List Str) (js:List Nat):Bool :=
 scope.kind == .function && scope.names.all (fun y=>y.2 != .cell || scope.names.lookup y.1 == some .cell) && scope.names.all (fun y=>y.2 != .local || scope.names.lookup y.1 == some .local) &&
 scope.names.all (fun y=>y.2 != .free || sc.names.lookup y.1 == some .cell || sc.names.lookup y.1 == some .free) && scope.names.all (fun y=>y.2 != .free || scope.names.lookup y.1 == some .free) &&
 decide (own ++ capN N js).Nodup && js.all (fun j=>decide (j < N.length) && scope.names.any fun y=>y.1 == (N[j]?).getD "" && y.2 == .free)
theorem BlkC.of {scope:Scope} {own:List Str} {js:List Nat} (sc:Scope) (N:List Str) (h:j1y sc N scope own js = true:=by decide +kernel) (e1:X.env.scope = sc:=by rfl) (e2:X.N = N:=by rfl):BlkC X scope own js:=by
 subst e1 e2
 unfold j1y at h
 simp only [Bool.and_eq_true,List.all_eq_true,decide_eq_true_eq,beq_iff_eq] at h
 obtain ⟨⟨⟨⟨⟨⟨h1,h2⟩,h3⟩,h4⟩,h5⟩,h6⟩,h7⟩:=h
 refine ⟨h1,fun y hy e=>?_,fun y hy e=>?_,fun y hy e=>?_,fun x hx=>?_,h6,fun j hj=>?_⟩
 ·have:=h2 y hy
  simpa [e] using this
 ·have:=h3 y hy
  simpa [e] using this
 ·have:=h4 y hy
  simp only [e,bne_self_eq_false,Bool.false_or,Bool.or_eq_true,beq_iff_eq] at this
  exact this
 ·have:=h5 _ hx
  simpa using this
 ·obtain ⟨a,b⟩:=h7 j hj
  refine ⟨a,?_⟩
  obtain ⟨y,hy,e⟩:=List.any_eq_true.mp b
  simp only [Bool.and_eq_true,beq_iff_eq] at e
  obtain ⟨e1,e2⟩:=e
  rw [← e1,← e2]
  exact hy
end
def Fly (od:Option Addr) (h:Heap) (e C T:Addr):Prop :=
 ∃ oe vs oT ts,h.get? e = some oe∧oe.cls = .ref C∧oe.dict = od∧oe.data = .fields vs∧vs[1]? = some (.ref T)∧T ≠ e∧h.get? T = some oT∧oT.data = .fields ts∧ts[3]? = some .none
structure Gone (fs:List Addr) (h h':Heap) (e:Addr) (hv:Value):Prop where
 keep:∀ b o,h.get? b = some o→b ≠ e→hv ≠ .ref b→b ∉ fs→h'.get? b = some o
 slot:∀ b o,h.get? b = some o→b ≠ e→hv ≠ .ref b→∃ sl,h'.get? b = some { o with slots:=sl }
section
variable {M:Model} {A:Around} {E:Value→Shared→Prop} {s:Shared} {base:Heap} {env:Env} {outer:List Env} {L e C:Addr} {oe:Obj} {vs:Array Value} {od:Option Addr}
theorem t0t {hd:Value} {had:Bool} {Q:Unit→Shared→Prop} (fr:A.frames = some (env :: outer)) (ff:s.heap.FunFrames base (env :: outer)) (lf:env.frame = some L)
  (ge:s.heap.get? e = some oe) (gc:oe.cls = .ref C) (gd:oe.dict = od) (gf:oe.data = .fields vs) (gz:1 < vs.size)
  (fin:∀ h' T,s.heap.objs.size ≤ T→Fly od h' e C T→(∀ b o,s.heap.get? b = some o→b ≠ e→b ∉ frs (env :: outer)→h'.get? b = some o)→(∀ b o,s.heap.get? b = some o→b ≠ e→∃ sl,h'.get? b = some { o with slots:=sl })→Q () { s with heap:=h' }) :
  wpAny M A (do let a ← frameOf env; let pl ← entryPlaceOf L had; let b ← EntryCells.newEntry hd a .none (rawInt L) .none pl; setField (.ref e) 1 b) (fun _ s'=>wpAny M A (setFlight (.ref e) none) Q E s') E s:=by
 have off:e ∉ frs (env :: outer):=fun q=>by
  obtain ⟨_,o,go,no⟩:=ff.mem q
  cases ge.symm.trans go
  exact no vs gf
 refine wpAny_bind (wpAny_frameOf_fun fr ff lf fun ha sa=>wpAny_bind (wpAny_entryPlaceOf fun pl ip=>?_))
 unfold EntryCells.newEntry newFields
 refine wpAny_bind (wpAny_newObj_type ?_ (ip.sizeOk5 _ _ _ _ _))
 have ge1:ha.get? e = some oe:=(sa.2.1 e off).trans ge
 have sz:ha.objs.size = s.heap.objs.size:=sa.1
 generalize hT:([hd,Value.ref L,.none,rawInt L,.none] ++ (if pl.isEmpty then List.replicate 6 Value.none else pl)).toArray = tv
 have tz:3 < tv.size:=by rw [← hT,List.size_toArray,List.length_append]; simp only [List.length_cons,List.length_nil]; omega
 have neT:e ≠ ha.objs.size:=Nat.ne_of_lt (Heap.lt_size ge1)
 refine wpAny_setField (Heap.get?_push_of_some _ ge1) gf gz ?_
 generalize hp:ha.push { cls:=.type "traceback",dict:=none,data:=.fields tv } = hb
 have gT:hb.get? ha.objs.size = some { cls:=.type "traceback",dict:=none,data:=.fields tv }:=by rw [← hp]; exact Heap.get?_push_size _ rfl
 have kb:∀ b o,ha.get? b = some o→hb.get? b = some o:=fun b o q=>by rw [← hp]; exact Heap.get?_push_of_some _ q
 have w1:=Obj.data_mapFields gf fun a=>a.setIfInBounds 1 (.ref ha.objs.size)
 have g3:=Heap.get?_update_self (Obj.mapFields fun a=>a.setIfInBounds 1 (.ref ha.objs.size)) (kb e oe ge1) (Obj.isFreed_of_fields w1)
 have gT3:=(Heap.get?_update_other hb (Obj.mapFields fun a=>a.setIfInBounds 1 (.ref ha.objs.size)) neT).trans gT
 unfold setFlight
 refine wpAny_bind (wpAny_field g3 w1 (x:=.ref ha.objs.size) (by simp [gz]) ?_)
 rw [if_pos (by simp:(Value.ref ha.objs.size != Value.none) = true)]
 refine wpAny_setField gT3 rfl tz ?_
 have on:∀ b o,b ≠ e→ha.get? b = some o→((hb.update e (Obj.mapFields fun a=>a.setIfInBounds 1 (.ref ha.objs.size))).update ha.objs.size (Obj.mapFields fun a=>a.setIfInBounds 3 ((none:Option Addr).elim Value.none fun f=>rawInt f))).get? b = some o:=fun b o ne q=>by
  rw [Heap.get?_update_other _ _ (Nat.ne_of_gt (Heap.lt_size q)),Heap.get?_update_other _ _ (Ne.symm ne)]
  exact kb b o q
 refine fin _ ha.objs.size (by rw [sz]; exact Nat.le_refl _) ⟨_,_,_,_,(Heap.get?_update_other _ _ neT.symm).trans g3,(Obj.cls_mapFields _ _).trans gc,?_,w1,by simp [gz],neT.symm,Heap.get?_update_self _ gT3 (Obj.isFreed_of_fields (Obj.data_mapFields rfl _)),Obj.data_mapFields rfl _,by simp [tz]⟩ (fun b o q ne nf=>on b o ne ((sa.2.1 b nf).trans q)) fun b o q ne=>?_
 ·obtain ⟨oc,od,oda,osl⟩:=oe
  cases gf
  exact gd
 ·obtain ⟨sl,q'⟩:=sa.2.2 b o q
  exact ⟨sl,on b _ ne q'⟩
theorem lv {hv:Value} {Q:Unit→Shared→Prop} (fr:A.frames = some (env :: outer)) (ff:s.heap.FunFrames base (env :: outer)) (lf:env.frame = some L)
  (ge:s.heap.get? e = some oe) (gc:oe.cls = .ref C) (gd:oe.dict = od) (gf:oe.data = .fields vs) (g1:vs[1]? = some hv)
  (hh:hv = .none ∨ ∃ T oT ts,hv = .ref T∧T ≠ e∧s.heap.get? T = some oT∧oT.data = .fields ts∧ts[3]? = some .none)
  (fin:∀ h' T,s.heap.objs.size ≤ T→Fly od h' e C T→Gone (frs (env :: outer)) s.heap h' e hv→Q () { s with heap:=h' }) :
  wpAny M A (noteFrame (.ref e) env) (fun _ s'=>wpAny M A (setFlight (.ref e) none) Q E s') E s:=by
 have gz:=(Array.getElem?_eq_some_iff.mp g1).1
 unfold noteFrame
 simp only [lf]
 refine wpAny_bind (wpAny_field ge gf g1 ?_)
 rcases hh with rfl | ⟨T,oT,ts,rfl,nT,gT,fT,t3⟩
 ·rw [if_neg (by decide)]
  exact t0t fr ff lf ge gc gd gf gz fun h' T' q1 q2 q3 q4=>fin h' T' q1 q2 ⟨fun b o a1 a2 _ a4=>q3 b o a1 a2 a4,fun b o a1 a2 _=>q4 b o a1 a2⟩
 ·rw [if_pos (by simp:(Value.ref T != Value.none) = true)]
  refine wpAny_bind (wpAny_field gT fT t3 ?_)
  rw [if_neg (by simp [rawInt]:¬ (Value.none == rawInt L) = true)]
  refine wpAny_bind (wpAny_setField gT fT (Array.getElem?_eq_some_iff.mp t3).1 ?_)
  have ot:∀ b,b ≠ T→(s.heap.update T (Obj.mapFields fun a=>a.setIfInBounds 3 Value.none)).get? b = s.heap.get? b:=fun b q=>Heap.get?_update_other _ _ (Ne.symm q)
  have gT':=Heap.get?_update_self (Obj.mapFields fun a=>a.setIfInBounds 3 Value.none) gT (Obj.isFreed_of_fields (Obj.data_mapFields fT _))
  have nr:∀ b o,s.heap.get? b = some o→(∀ us,o.data ≠ .fields us)→b ≠ T:=fun b o q nf z=>by
   subst z
   cases gT.symm.trans q
   exact nf ts fT
  refine t0t fr (ff.of_keeps fun b o q nf=>⟨o,(ot b (nr b o q nf)).trans q,rfl⟩) lf ((ot e nT.symm).trans ge) gc gd gf gz fun h' T' q1 q2 q3 q4=>fin h' T' ?_ q2 ⟨fun b o a1 a2 a3 a4=>q3 b o ((ot b fun z=>a3 (by rw [z])).trans a1) a2 a4,fun b o a1 a2 a3=>q4 b o ((ot b fun z=>a3 (by rw [z])).trans a1) a2⟩
  rwa [Heap.size_update] at q1
end
def Hot (od:Option Addr) (h0 h:Heap) (H:Hp) (e C:Addr):Prop :=
 ∃ oe vs hv,h.get? e = some oe∧oe.cls = .ref C∧oe.dict = od∧oe.data = .fields vs∧vs[1]? = some hv∧h0.get? e = none∧H e = none ∧
  (hv = .none ∨ ∃ T oT ts,hv = .ref T∧T ≠ e∧h.get? T = some oT∧oT.data = .fields ts∧ts[3]? = some .none∧h0.get? T = none∧H T = none)
section
variable {X:Cx} {pins:List (Addr × Obj)} {σ:St} {H:Hp} {s:Shared} {h0:Heap} {e C:Addr} {od:Option Addr}
theorem lvI {E:Value→Shared→Prop} {Q:Unit→Shared→Prop} (I:Inv X pins σ H s) (hs:X.stack = X.env :: X.outer) (hf:X.env.frame = some X.env.locals) (hsub:∀ b o,h0.get? b = some o→b < s.heap.objs.size) (hot:Hot od h0 s.heap H e C)
  (fin:∀ h' ch,(∀ b ∈ ch,h0.get? b = none∧H b = none)→e ∈ ch→Un (frs X.stack) ch H H s.heap h'→HOk X.prog X.w H h'→Hot od h0 h' H e C→Q () { s with heap:=h' }) :
  wpAny (model X.prog X.w) X.A (noteFrame (.ref e) X.env) (fun _ s'=>wpAny (model X.prog X.w) X.A (setFlight (.ref e) none) Q E s') E s:=by
 obtain ⟨oe,vs,hv,ge,gc,gd,gf,g1,ye,ue,hh⟩:=hot
 have hh':hv = .none ∨ ∃ T oT ts,hv = .ref T∧T ≠ e∧s.heap.get? T = some oT∧oT.data = .fields ts∧ts[3]? = some .none:=by
  rcases hh with q | ⟨T,oT,ts,q1,q2,q3,q4,q5,_⟩
  ·exact .inl q
  ·exact .inr ⟨T,oT,ts,q1,q2,q3,q4,q5⟩
 refine lv (hs ▸ I.ok.frames) (hs ▸ I.stack) hf ge gc gd gf g1 hh' fun h' T q1 ⟨oe',vs',oT',ts',f1,f2,f3,f4,f5,f6,f7,f8,f9⟩ g=>?_
 have hch:∀ b ∈ e :: (match hv with | .ref T=>[T] | _=>[]),h0.get? b = none∧H b = none:=fun b hb=>by
  rcases List.mem_cons.mp hb with rfl | hb
  ·exact ⟨ye,ue⟩
  ·rcases hh with rfl | ⟨T,oT,ts,rfl,_,_,_,_,y,u⟩
   ·cases hb
   ·rw [List.mem_singleton.mp hb]; exact ⟨y,u⟩
 have nch:∀ b,b ∉ e :: (match hv with | .ref T=>[T] | _=>[])→b ≠ e∧hv ≠ .ref b:=fun b hb=>⟨fun z=>hb (z ▸ .head _),fun z=>hb (by subst z; exact .tail _ (.head _))⟩
 have there:∀ b o,s.heap.get? b = some o→∃ o',h'.get? b = some o' ∨ b = e ∨ hv = .ref b:=fun b o q=>by
  by_cases z1:b = e
  ·exact ⟨o,.inr (.inl z1)⟩
  ·by_cases z2:hv = .ref b
   ·exact ⟨o,.inr (.inr z2)⟩
   ·obtain ⟨sl,q'⟩:=g.slot b o q z1 z2
    exact ⟨_,.inl q'⟩
 refine fin h' _ hch (.head _) ⟨fun b o q n nf nx=>g.keep b o q (nch b nx).1 (nch b nx).2 (by rw [← hs]; exact nf),fun b o q n _ nx=>g.slot b o q (nch b nx).1 (nch b nx).2,fun b o _ n _=>n,fun b o q nx=>?_,fun _ _ q=>q,fun _ _ _ q=>q,fun b ps q=>⟨#[],by rw [q]; simp⟩⟩ (fun a o q=>?_) ⟨oe',vs',_,f1,f2,f3,f4,f5,ye,ue,.inr ⟨T,oT',ts',rfl,f6,f7,f8,f9,?_,I.hok.fresh q1⟩⟩
 ·obtain ⟨sl,q'⟩:=g.slot b o q (nch b nx).1 (nch b nx).2
  exact ⟨_,q'⟩
 ·have tr:∀ b o',H b = some o'→b ≠ e∧hv ≠ .ref b∧b ∉ frs (X.env :: X.outer):=fun b o' z=>by
   refine ⟨fun w=>?_,fun w=>?_,fun w=>?_⟩
   ·rw [w,ue] at z; cases z
   ·rcases hh with y | ⟨T,oT,ts,y,_,_,_,_,_,u⟩
    ·rw [y] at w; cases w
    ·rw [y] at w; cases w; rw [u] at z; cases z
   ·rw [← hs] at w
    rw [I.stkFree b w] at z; cases z
  refine (I.hok a o q).stay (fun b u hb z=>?_) (fun _ z=>z) fun _ _ z=>z
  have:∃ o',H b = some o':=by
   rcases hb with rfl | hb
   ·exact ⟨_,q⟩
   ·exact ⟨_,hb⟩
  obtain ⟨o',ho'⟩:=this
  obtain ⟨a1,a2,a3⟩:=tr b o' ho'
  exact g.keep b u z a1 a2 a3
 ·cases z:h0.get? T with
  | none=>rfl
  | some o=>exact absurd (hsub T o z) (Nat.not_lt.mpr q1)
end
def odV:Option Addr→Value
 | none=>.none
 | some dx=>.ref dx
def Yg (h:Heap) (od:Option Addr):Prop:=∀ dx,od = some dx→h.get? dx = none
def CX1 (P:Program) (w:World):CXT:=fun outer H s E e s' =>
 ∃ a C od H',e = .ref a∧s'.os = s.os∧AllBare s'.gens∧Un (frs outer) [] H H' s.heap s'.heap∧HOk P w H' s'.heap∧Hot od s.heap s'.heap H' a C∧Yg s.heap od∧E (odV od) (some C) H'
section
variable {P:Program} {w:World} {K:PySem.W.Frag} {mg:Str→Option Value} {base:Heap} {N:List Str} {qual:Str} {scope:Scope} {f:Addr} {cd:Value} {A:Around} {outer:List Env} {s0:Shared} {H0:Hp} {E:XK}
theorem d1o {pins:List (Addr × Obj)} {σ:St} {H:Hp} {s:Shared} {e C:Addr} {od:Option Addr} (I:Inv (cxOf (CX1 P w) P w K mg base N qual scope f cd A outer s0 H0 E) pins σ H s) (hot:Hot od s0.heap s.heap H e C) (hyg:Yg s0.heap od) (he:E (odV od) (some C) H) :
  (cxOf (CX1 P w) P w K mg base N qual scope f cd A outer s0 H0 E).xe (.ref e) s:=by
 show wpAny (model P w) _ (leaving _ (.ref e)) _ _ s
 unfold leaving
 refine wpAny_bind (lvI I rfl rfl (fun b o q=>?_) hot fun h' ch hch hin un hok hot'=>?_)
 ·exact Nat.lt_of_lt_of_le (Heap.lt_size q) I.sz
 ·have lo:∀ b o,s0.heap.get? b = some o→b ∉ ch:=fun b o q z=>by rw [(hch b z).1] at q; cases q
  have nL:∀ b o,s0.heap.get? b = some o→b ≠ s0.heap.objs.size:=fun b o q=>Nat.ne_of_lt (Heap.lt_size q)
  refine ⟨e,C,od,H,rfl,I.os,I.bare,⟨fun b o q n nf _=>?_,fun b o q n hb _=>?_,fun b o q n _=>I.base.free b o q n (fun z=>nomatch z),fun b o q _=>?_,I.base.tups,I.base.frzs,I.base.tbls⟩,hok,hot',hyg,he⟩
  ·refine un.keep b o (I.base.keep b o q n nf fun z=>nomatch z) (I.base.free b o q n fun z=>nomatch z) (fun z=>?_) (lo b o q)
   rcases List.mem_cons.mp z with z | z
   ·exact nL b o q z
   ·exact nf z
  ·obtain ⟨sl,q'⟩:=I.base.slot b o q n hb fun z=>nomatch z
   obtain ⟨sl',q''⟩:=un.slot b _ q' (I.base.free b o q n fun z=>nomatch z) (.tail _ hb) (lo b o q)
   exact ⟨sl',q''⟩
  ·obtain ⟨o',q'⟩:=I.base.there b o q fun z=>nomatch z
   exact un.there b o' q' (lo b o q)
end
abbrev bmV:List Value:=[.type "ValueError",.type "Exception",.type "BaseException",.type "object"]
theorem y0f {K:PySem.W.Frag} {h:Heap} {x:Str} {C:Addr} {mg:Str→Option Value} (KX:K.In h) (hm:mg x = some (.ref C)) (q:PySem.W.excIn K C bmV "ValueError.__new__" = true):OwnCls x C bmV "ValueError.__new__" mg h:=by
 unfold PySem.W.excIn at q
 split at q
 next dd cd sl lk =>
  split at q
  next C' bm k0 k1 k2 k3 n k5 em es =>
   simp only [Bool.and_eq_true,beq_iff_eq,Bool.not_eq_true'] at q
   obtain ⟨⟨⟨⟨⟨rfl,rfl⟩,nd⟩,tl⟩,nk⟩,ni⟩:=q
   obtain ⟨a1,a2,a3,a4,a5,a6,a7,a8,a9,a10,a11⟩:=cd
   obtain ⟨l⟩:=sl
   dsimp only at em nd nk ni es
   subst em nd es
   exact ⟨hm,bm,a4,a1,a5,a2,a6,a7,a8,a9,a10,dd,k0,k1,k2,k3,k5,_,KX _ _ lk,.of_isNs (PySem.W.isNs_of_in KX nk),PySem.W.nsMap_none_of_in KX nk ni,PySem.W.tail_of_in KX tl⟩
  ·cases q
 ·cases q
theorem HOk.get {P:Program} {w:World} {H:Hp} {h:Heap} {a:Addr} {o:HO} (k:HOk P w H h) (e:H a = some o):∃ u,h.get? a = some u:=by
 have x:=k a o e
 cases o with
 | lst xs=>obtain ⟨_,_,_,_,e⟩:=x; exact ⟨_,e⟩
 | tup xs=>obtain ⟨_,_,_,ob,e,_⟩:=x; exact ⟨_,e⟩
 | dK kvs=>obtain ⟨_,_,_,_,o,_,_,e,_⟩:=x; exact ⟨_,e⟩
 | dT kvs=>obtain ⟨_,_,_,_,o,_,_,e,_⟩:=x; exact ⟨_,e⟩
 | set S n=>obtain ⟨o,_,_,_,e,_⟩:=x; exact ⟨_,e⟩
 | ins C dx fs=>obtain ⟨_,_,_,e,_⟩:=x; exact ⟨_,e⟩
 | own y=>exact x
 | xd fs=>obtain ⟨_,⟨_,_,_,e,_⟩,_⟩:=x; exact ⟨_,e⟩
 | rng lo hi=>obtain ⟨_,_,_,e⟩:=x; exact ⟨_,e⟩
 | frz ob u=>obtain ⟨e,_⟩:=x; exact ⟨_,e⟩
 | tbl ps=>exact ⟨_,x⟩
 | met f y=>exact ⟨_,x⟩
 | ext φ=>obtain ⟨_,e,_⟩:=x; exact e
theorem Inv.back0 {X:Cx} {pins:List (Addr × Obj)} {σ:St} {H:Hp} {s:Shared} (I:Inv X pins σ H s) (hx:X.ex = []) {b:Addr} (h:s.heap.get? b = none):X.s₀.heap.get? b = none:=by
 cases q:X.s₀.heap.get? b with
 | none=>rfl
 | some o =>
  obtain ⟨o',q'⟩:=I.base.there b o q (by rw [hx]; simp)
  rw [h] at q'; cases q'
def Fld (H:Hp):Option Str→Option Addr→V→Prop
 | none,od,v=>od = none∧v = .non
 | some f,od,v=>∃ dx,od = some dx∧H dx = some (.xd [(f,v)])
structure Tie (X:Cx) (C:Addr) (fn:Option Str) (R:VK):Prop where
 ex:X.ex = []
 run:∀ {pins:List (Addr × Obj)} {σ:St} {H:Hp} {s:Shared} {e:Addr} {od:Option Addr} {v:V},Inv X pins σ H s→Hot od X.s₀.heap s.heap H e C→Yg X.s₀.heap od→Fld H fn od v→R v H→X.xe (.ref e) s
def SPr (X:Cx) (pins:List (Addr × Obj)) (D:Ends) (f:Flow) (s':Shared):Prop :=
 match f with
 | .next=>∃ σ' H',Inv X pins σ' H' s'∧D.nx σ' H'
 | _=>False
def PSr (X:Cx) (R:VK) (st:Stmt) (t:TS):Prop :=
 ∀ (pins:List (Addr × Obj)) (s:Shared) (σ:St) (H:Hp) (D:Ends),D.rt = R→Inv X pins σ H s→t D σ H→wpAny (model X.prog X.w) X.A (exec st X.env) (SPr X pins D) X.xe s
def PSsr (X:Cx) (R:VK) (st:List Stmt) (t:TS):Prop :=
 ∀ (pins:List (Addr × Obj)) (s:Shared) (σ:St) (H:Hp) (D:Ends),D.rt = R→Inv X pins σ H s→t D σ H→wpAny (model X.prog X.w) X.A (execs st X.env) (SPr X pins D) X.xe s
def d1k (D:Ends):Ends:={ nx:=D.nx,rt:=fun _ _=>False,bk:=fun _ _=>False,ct:=fun _ _=>False }
section
variable {X:Cx} {R:VK} {C:Addr}
theorem h0f {st:Stmt} {t:TS} (h:PS X.nox st t) (ht:∀ D σ H,t D σ H→t (d1k D) σ H:=by intro _ _ _ h; exact h):PSr X R st t:=fun pins s σ H D _ I hw=>by
 refine wpAny_mono (h pins s σ H (d1k D) (I.wish _) (ht D σ H hw)) (fun f s' q=>?_) fun _ _ z=>False.elim z
 cases f with
 | next=>obtain ⟨σ',H',I',q⟩:=q; exact ⟨σ',H',I'.unwish,q⟩
 | brk=>obtain ⟨_,_,_,q⟩:=q; exact q
 | cont=>obtain ⟨_,_,_,q⟩:=q; exact q
 | ret u=>obtain ⟨_,_,_,_,_,q⟩:=q; exact q
theorem b0w:PSsr X R [] tNext:=fun _ _ σ H _ _ I h=>wpAny_execs_nil ⟨σ,H,I,h⟩
theorem a0y {st:Stmt} {rest:List Stmt} {t u:TS} (h1:PSr X R st t) (h2:PSsr X R rest u):PSsr X R (st :: rest) (tSeq t u):=by
 intro pins s σ H D e I h
 refine wpAny_execs_cons (thn (h1 pins s σ H { D with nx:=u D } e I h) fun f s1 q=>?_)
 cases f with
 | next =>
  obtain ⟨σ',H',I',q⟩:=q
  exact h2 pins s1 σ' H' D e I' q
 | ret v=>exact q
 | brk=>exact q
 | cont=>exact q
theorem h0z {st:Stmt}:PSr X R st tNever:=fun _ _ _ _ _ _ _ h=>h.elim
theorem f0e {st:List Stmt}:PSsr X R st tNever:=fun _ _ _ _ _ _ _ h=>h.elim
theorem k0l {c:Expr} {a b:List Stmt} {tc:TT} {t u:TS} {pos:Pos} (hc:PT X.nox c tc) (ha:PSsr X R a t) (hb:PSsr X R b u):PSr X R (.If c a b pos) (tIfS tc t u):=by
 intro pins s σ H D e I h
 refine wpAny_If (thn (hc.nox pins s σ H _ I h) fun d s1 ⟨H1,I1,q1⟩=>?_)
 cases d with
 | true=>exact ha pins s1 σ H1 D e I1 q1
 | false=>exact hb pins s1 σ H1 D e I1 q1
theorem x0u {x:Str} (T:Tie X C none R) (hc:X.calm = true) (hm:X.mg x = some (.ref C)) (hq:PySem.W.excIn X.K C bmV "ValueError.__new__" = true) {e0:Expr} {v0:V} {np cpos pos:Pos} (ha:PE X.nox e0 (tC v0))
  (hg:Gl X x:=by rfl) (he:starEach [e0] X.env = [(false,eval e0 X.env)]:=by rfl) (hdb:(x == ("__debug__" : Str)) = false:=by decide):PSr X R (.Raise (some (.Call (.Name x np) [e0] [] cpos)) none pos) (tRet (tC .non)):=by
 intro pins s σ H D e I h
 obtain ⟨tl,N,nm,q,bs,hdct,sn,sub,ab,col,dd,k0,k1,k2,k3,k5,mN,hC,hN,hni,tw⟩:=(y0f I.mod.kin hm hq).obj
 refine wpAny_Raise_call_subT (k5:=k5) (k3:=k3) (k2:=k2) (k1:=k1) (k0:=k0) (dd:=dd) (col:=col) (ab:=ab) (sub:=sub) (sn:=sn) (hdct:=hdct) (bs:=bs) (N:=N) (q:=q) (nm:=nm) (C:=C) (bm:=tl) (mN:=mN) PySem.F.excBase_ValueError (tw.hasType (by decide +kernel)) (I.ok.hd hc) (by rw [he]; rfl) hni (g0m I hg hm ⟨rfl,?_⟩ hdb)
 rw [he]
 refine Calls.evalArgs_plain (Calls.spliced_cons ?_)
 refine thn (ha.nox pins s σ H (fun v H'=>H' = H) I rfl) fun u s1 ⟨x,H1,I1,r1,q1⟩=>Calls.spliced_nil ?_
 subst q1
 refine ⟨rfl,by show (1:Nat) ≤ _; decide,I1.bk _ _ hC,hN.keeps I1.bk,tw.keeps I1.bk,fun h' a mk=>?_⟩
 obtain ⟨tt,g1,g2,g3⟩:=mk.there
 refine T.run (I1.kept (t':=s1.toks) mk.keeps) ⟨_,_,.none,g1,rfl,rfl,rfl,rfl,I1.back0 T.ex mk.new,?_,.inl rfl⟩ (fun _ z=>nomatch z) ⟨rfl,rfl⟩ (e ▸ h)
 cases z:H1 a with
 | none=>rfl
 | some o =>
  obtain ⟨u,z'⟩:=I1.hok.get z
  rw [mk.new] at z'; cases z'
end
theorem PA.nox {X:Cx} {es:List Expr} {t:TA} (h:PA X.nox es t):PA X es t:=fun pos pins s σ H Q I hw =>
 wpAny_mono (h pos pins s σ H Q (I.wish _) hw) (fun _ _ ⟨xs,H',I',r,q⟩=>⟨xs,H',I'.unwish,r,q⟩) fun _ _ z=>False.elim z
def XW (E:XK) (C:Addr) (fn:Option Str):VK:=fun v H'=>∀ od,Fld H' fn od v→E (odV od) (some C) H'
def spX (C:Addr) (fn:Option Str) (sp:Sp):Sp:=fun vs H Q E=>sp vs H (XW E C fn) E
structure OkX (P:Program) (w:World) (K:PySem.W.Frag) (mg:Str→Option Value) (base:Heap) (k:Nat) (x:Str) (ps:List Str) (C:Addr) (fn:Option Str) (sp:Sp):Prop where
 ex:∃ f fd,mg x = some (.ref f)∧PySem.W.keepIn K (.ref f) = true∧o0m K fd ps []∧FnOk P w K mg base (CX1 P w) k f fd ps (spX C fn sp)
theorem OkX.mono {P:Program} {w:World} {K:PySem.W.Frag} {mg:Str→Option Value} {base:Heap} {x:Str} {ps:List Str} {C:Addr} {fn:Option Str} {j k:Nat} {sp:Sp} (F:OkX P w K mg base j x ps C fn sp) (h:j ≤ k):OkX P w K mg base k x ps C fn sp:=by
 obtain ⟨f,fd,hm,hk,hb,F⟩:=F.ex
 exact ⟨f,fd,hm,hk,hb,F.mono h⟩
section
variable {P:Program} {w:World} {K:PySem.W.Frag} {mg:Str→Option Value} {base:Heap} {N:List Str} {qual:Str} {scope:Scope} {f:Addr} {cd:Value} {A:Around} {outer:List Env} {s0:Shared} {H0:Hp} {E:XK} {C:Addr} {fn:Option Str} {od:Option Addr}
theorem tie1:Tie (cxOf (CX1 P w) P w K mg base N qual scope f cd A outer s0 H0 E) C fn (XW E C fn):=⟨rfl,fun I hot hy hf hr=>d1o I hot hy (hr _ hf)⟩
theorem Hot.older {h0 h1 h:Heap} {H:Hp} {e C:Addr} (q:Hot od h1 h H e C) (le:∀ b,h1.get? b = none→h0.get? b = none):Hot od h0 h H e C:=by
 obtain ⟨oe,vs,hv,a1,a2,a3,a4,a5,a6,a7,a8⟩:=q
 refine ⟨oe,vs,hv,a1,a2,a3,a4,a5,le _ a6,a7,?_⟩
 rcases a8 with z | ⟨T,oT,ts,b1,b2,b3,b4,b5,b6,b7⟩
 ·exact .inl z
 ·exact .inr ⟨T,oT,ts,b1,b2,b3,b4,b5,le _ b6,b7⟩
theorem b1m:q0u (CX1 P w) (cxOf (CX1 P w) P w K mg base N qual scope f cd A outer s0 H0 E) E:=by
 rintro pins σ H s e s' I ⟨a,C,od,H',rfl,os,bare,un,hok,hot,hy,he⟩
 exact d1o (I.call' os un hok bare fun b z=>nomatch z) (hot.older fun b q=>I.back0 rfl q) (fun dx q=>I.back0 rfl (hy dx q)) he
end
section
variable {X:Cx} {E:XK} {C:Addr} {fn:Option Str} {K:PySem.W.Frag} {S:ASp}
theorem j0x {k:Nat} {x:Str} {ps:List Str} {p cpos pos:Pos} {e:Expr} {es:List Expr} {t:TA} (F:OkX X.prog X.w X.K X.mg X.base k x ps C fn (spA K S)) (hr:Room k X.A) (hx:q0u (CX1 X.prog X.w) X E) (ha:PA X.nox (e :: es) t) (hg:Gl X x:=by rfl)
  (hdb:(x == ("__debug__" : Str)) = false:=by decide) (he:starEach (e :: es) X.env = (false,eval e X.env) :: starEach es X.env:=by rfl) (hpl:(backTo cpos (starEach es X.env)).any (·.1) = false:=by rfl)
  (hs:swapsWith (.Call (.Name x p) (e :: es) [] cpos) none pos.line X.env = pure false:=by rfl) :
  PSr X (XW E C fn) (.Expr (.Call (.Name x p) (e :: es) [] cpos) pos) (tRet (w0z (spA K S) [] E0 t)):=by
 obtain ⟨f,fd,hm,hk,hb,F⟩:=F.ex
 intro pins s σ H D e1 I h
 have pe:=y0c (p:=p) (sp:=spX C fn (spA K S)) (E:=E) F hr hg hm hk hb .nil hx ha.nox hdb he hpl
 have h':w0z (spX C fn (spA K S)) [] E t σ H fun _ _=>False:=by
  have h2:t σ H fun vs H1=>spA K S (vs ++ []) H1 D.rt E0:=h
  rw [e1] at h2
  exact h2
 exact wpAny_Expr_any (thn (pe pins s σ H _ I h') fun v s1 ⟨_,_,_,_,q1⟩=>q1.elim) I.quiet hs
theorem f1b {R:VK} {body:List Stmt} {t:TS} (h:PSsr X R body t):PSs X body (fun _ σ H=>∃ D0:Ends,D0.rt = R∧(∀ σ H,¬ D0.nx σ H)∧t D0 σ H):=by
 rintro pins s σ H D I ⟨D0,e,no,ht⟩
 refine thn (h pins s σ H D0 e I ht) fun fl s' q=>?_
 cases fl with
 | next=>obtain ⟨σ',H',_,q⟩:=q; exact (no _ _ q).elim
 | ret v=>exact False.elim q
 | brk=>exact False.elim q
 | cont=>exact False.elim q
end
theorem DefN.aokX {P:Program} {w:World} {K:PySem.W.Frag} {mg:Str→Option Value} {base:Heap} {x:Str} {st:Stmt} {N ps:List Str} {k:Nat} {a:AS} (D:DefN K mg x st ps) (Sc:b0i N ps (a0j st)) (pr:Nat→Bool) (us:En) (S:ASp) (C:Addr) (fn:Option Str) (hus:List.replicate (N.length - ps.length) Sv.un = us)
  (hbody:∀ (f:Addr) (cdv:Value) (A:Around) (outer:List Env) (s:Shared) (H:Hp) (E:XK),Room k (A.deeper (envOfC x (a0j st) s.heap.objs.size f cdv)) →
   ∃ t,PSsr (cxOf (CX1 P w) P w K mg base N x (a0j st) f cdv A outer s H E) (XW E C fn) (d0k st) t∧TSok K pr t a)
  (hS:∀ ss q,S ss q→ss.length = ps.length∧ownB pr ss 0 = true∧a ⟨fun _=>False,fun r ρ=>(∃ d,r = .d d)∧q r (outS ss ρ),fun _=>False,fun _=>False⟩ (ss ++ us)):OkX P w K mg base (k + 1) x ps C fn (spA K S):=by
 have lenOk:∀ vs H Q E,spX C fn (spA K S) vs H Q E→vs.length = ps.length:=fun vs H Q E h=>by
  obtain ⟨ss,Z,q,r,hs',_⟩:=h
  have:=r.len
  rw [List.length_map] at this
  rw [this]; exact (hS ss q hs').1
 obtain ⟨f,fd,hm,F,hb⟩:=D.ex
 refine ⟨f,fd,hm,F.kp,.all hb,?_⟩
 obtain ⟨oc,od,kV,doc,pm,an,cdv,ct,osl,rfl,lk,hcd⟩:=F.ex
 refine j1n lk hcd Sc lenOk fun A outer s H vs Q E hr h=>?_
 have hl:=lenOk _ _ _ _ h
 obtain ⟨ss,Z,q,r0,hs',post⟩:=h
 obtain ⟨h1,h2,h3⟩:=hS ss q hs'
 obtain ⟨t,ht,tok⟩:=hbody f cdv A outer s H E hr
 refine ⟨_,f1b ht,{ nx:=fun _ _=>False,rt:=XW E C fn,bk:=fun _ _=>False,ct:=fun _ _=>False },rfl,fun _ _ z=>z,?_⟩
 have hp:∀ i a,(F0 vs ss H Z).pin i a→pr i = true:=fun i a h=>by
  rcases h with h | h
  ·have:=r0h h2 i h.1; rwa [Nat.zero_add] at this
  ·exact h.elim
 unfold k0h
 rw [hl]
 rw [← hus] at h3
 refine tok (F0 vs ss H Z) _ _ H _ _ hp (r0.ext _) h3 ⟨fun _ _ _ z=>z.elim,fun _ _ _ z=>z.elim,fun _ _ _ z=>z.elim,fun σ' ρ' rr v H' hq r=>?_⟩
 obtain ⟨⟨d,e⟩,hq⟩:=hq
 subst e
 obtain ⟨r1,r2⟩:=r
 obtain ⟨o1,o2,o3⟩:=r0.out r1
 exact post (.d d) _ v H' hq o3 (fun i z=>nomatch z) ⟨o1,r2.same o2⟩
section
variable {X:Cx} {pins:List (Addr × Obj)} {σ σ1:St} {H H1:Hp} {s s1:Shared} {h':Heap} {ch:List Addr} {e C:Addr}
theorem Inv.hot (I1:Inv X pins σ1 H1 s1) (I:Inv X pins σ H s) (hx:X.ex = []) (un:Un (frs X.stack) ch H H s.heap h') (hok:HOk X.prog X.w H h') (hch:∀ b ∈ ch,s1.heap.get? b = none):Inv X pins σ H { s with heap:=h' }:=by
 have n0:∀ b o,X.s₀.heap.get? b = some o→b ∉ ch:=fun b o q z=>by
  obtain ⟨o',q'⟩:=I1.base.there b o q (by rw [hx]; simp)
  rw [hch b z] at q'; cases q'
 have nf:∀ b o,X.s₀.heap.get? b = some o→b ∉ X.fs→b ∉ frs X.stack:=fun b o q n z=>by
  rcases List.mem_cons.mp (I.stkSub b z) with z | z
  ·exact absurd (Nat.lt_of_lt_of_le (Heap.lt_size q) I.ok.above) (by rw [z]; exact Nat.lt_irrefl _)
  ·exact n z
 have nx:∀ b,b ∉ X.ex:=fun b=>by rw [hx]; simp
 obtain ⟨m,⟨o,es,ep,ho,r⟩,hl⟩:=id I.loc
 have nL:X.env.locals ∉ ch:=fun z=>by
  obtain ⟨m1,⟨o1,_,_,ho1,_⟩,_⟩:=id I1.loc
  rw [hch _ z] at ho1; cases ho1
 have nC:∀ x c,X.env.cells.lookup x = some c→c ∉ ch:=fun x c q z=>by
  obtain ⟨v,o1,ho1,_⟩:=I1.cell x c q
  rw [hch _ z] at ho1; cases ho1
 have cell:∀ {x c v},X.env.cells.lookup x = some c→s.heap.IsCell c v→Heap.IsCell h' c v:=fun {x c v} q ⟨oc,hoc,hd⟩=>by
  obtain ⟨sl,q'⟩:=un.any hoc (I.freeC x c q) (nC x c q)
  exact ⟨_,q',hd⟩
 obtain ⟨sl,hL⟩:=un.any ho I.free nL
 refine ⟨I.ok,I.os,I.bare,⟨fun b o q n f _=>?_,fun b o q n f _=>?_,fun b o q n _=>I.base.free b o q n (nx b),fun b o q _=>?_,I.base.tups,I.base.frzs,I.base.tbls⟩,⟨m,⟨_,es,ep,hL,r⟩,fun i x v a1 a2 a3=>?_⟩,fun x c q=>?_,I.free,I.freeC,fun p hp=>?_,hok,I.len⟩
 ·exact un.keep b o (I.base.keep b o q n f (nx b)) (I.base.free b o q n (nx b)) (nf b o q f) (n0 b o q)
 ·obtain ⟨sl1,q1⟩:=I.base.slot b o q n f (nx b)
  obtain ⟨sl2,q2⟩:=un.any q1 (I.base.free b o q n (nx b)) (n0 b o q)
  exact ⟨sl2,q2⟩
 ·obtain ⟨o',q'⟩:=I.base.there b o q (nx b)
  exact un.there b o' q' (n0 b o q)
 ·obtain ⟨u,ru,lk⟩:=hl i x v a1 a2 a3
  refine ⟨u,ru,?_⟩
  rcases lk with z | ⟨z1,c,z2,z3⟩
  ·exact .inl z
  ·exact .inr ⟨z1,c,z2,cell z2 z3⟩
 ·obtain ⟨v,hv⟩:=I.cell x c q
  exact ⟨v,cell q hv⟩
 ·obtain ⟨p1,p2,p3,p4,p5⟩:=I.pin p hp
  refine ⟨un.keep _ _ p1 p2 (fun z=>?_) (fun z=>?_),p2,p3,p4,p5⟩
  ·rcases List.mem_cons.mp (I.stkSub _ z) with z | z
   ·exact p3 z
   ·exact p4 z
  ·have:=(I1.pin p hp).1
   rw [hch _ z] at this; cases this
theorem sfI {A:Around} {E:Value→Shared→Prop} {Q:Unit→Shared→Prop} {h0:Heap} {od:Option Addr} (I:Inv X pins σ H s) (hot:Hot od h0 s.heap H e C)
  (fin:∀ h' ch,(∀ b ∈ ch,h0.get? b = none)→Un (frs X.stack) ch H H s.heap h'→HOk X.prog X.w H h'→(∃ oe vs,h'.get? e = some oe∧oe.cls = .ref C∧oe.dict = od∧oe.data = .fields vs)→Q () { s with heap:=h' }) :
  wpAny (model X.prog X.w) A (setFlight (.ref e) none) Q E s:=by
 obtain ⟨oe,vs,hv,ge,gc,gd,gf,g1,ye,ue,hh⟩:=hot
 unfold setFlight
 refine wpAny_bind (wpAny_field ge gf g1 ?_)
 rcases hh with rfl | ⟨T,oT,ts,rfl,nT,gT,fT,t3,yT,uT⟩
 ·rw [if_neg (by decide)]
  exact wpAny_pure (fin s.heap [] (fun _ z=>nomatch z) (.kept fun _ _ q=>q) I.hok ⟨oe,vs,ge,gc,gd,gf⟩)
 ·rw [if_pos (by simp:(Value.ref T != Value.none) = true)]
  refine wpAny_setField gT fT (Array.getElem?_eq_some_iff.mp t3).1 ?_
  have ot:∀ b,b ≠ T→(s.heap.update T (Obj.mapFields fun a=>a.setIfInBounds 3 ((none:Option Addr).elim Value.none fun f=>rawInt f))).get? b = s.heap.get? b:=fun b q=>Heap.get?_update_other _ _ (Ne.symm q)
  have nin:∀ b,b ∉ [T]→b ≠ T:=fun b q z=>q (by rw [z]; exact .head _)
  refine fin _ [T] (fun b z=>by rw [List.mem_singleton.mp z]; exact yT) ⟨fun b o q _ _ n=>(ot b (nin b n)).trans q,fun b o q _ _ n=>⟨o.slots,(ot b (nin b n)).trans q⟩,fun _ _ _ n _=>n,fun b o q n=>⟨o,(ot b (nin b n)).trans q⟩,fun _ _ q=>q,fun _ _ _ q=>q,fun b ps q=>⟨#[],by rw [q]; simp⟩⟩ (fun a o q=>?_) ⟨oe,vs,(ot e nT.symm).trans ge,gc,gd,gf⟩
  refine (I.hok a o q).stay (fun b u hb z=>(ot b fun w=>?_).trans z) (fun _ z=>z) fun _ _ z=>z
  subst w
  rcases hb with hb | hb
  ·rw [← hb,uT] at q; cases q
  ·rw [uT] at hb; cases hb
def hcx (X:Cx) (pins:List (Addr × Obj)) (e:Addr) (oe:Obj):Cx:={ X with A:=X.A.mark (some (.ref e)),calm:=false,pn:=X.pn ++ pins ++ [(e,oe)],xe:=fun _ _=>False }
theorem Inv.hcx {oe:Obj} (I:Inv X pins σ H s) (ge:s.heap.get? e = some oe) (ue:H e = none) (nL:e ≠ X.env.locals) (nf:e ∉ X.fs) (nc:∀ v,oe.data ≠ .cell v):Inv (hcx X pins e oe) [] σ H s:=by
 refine ⟨⟨I.ok.mod,I.ok.kind,I.ok.glob,I.ok.blt,I.ok.above,I.ok.inj,I.ok.has,I.ok.cab,fun z=>(nomatch z),I.ok.frames,I.ok.stk,I.ok.exf,I.ok.bs,I.ok.bsz,I.ok.noex,I.ok.exfs,I.ok.funs,I.ok.frf⟩,I.os,I.bare,I.base,I.loc,I.cell,I.free,I.freeC,fun p hp=>?_,I.hok,I.len⟩
 have hp':p ∈ X.pn ++ pins ∨ p = (e,oe):=by
  have:p ∈ (X.pn ++ pins ++ [(e,oe)]) ++ []:=hp
  simpa [or_assoc] using this
 rcases hp' with z | rfl
 ·exact I.pin p z
 ·exact ⟨ge,ue,nL,nf,nc⟩
theorem Inv.forget {oe:Obj} {m':Str→Option Value} {t':Nat} (I:Inv (L2.hcx X pins e oe) [] σ H s) (sb:Heap.SameBut X.env.locals s.heap h') (hn:h'.Ns X.env.locals m') (hd:X.calm = true→X.A.handled = none) (hfm:X.A.frames = some X.stack):Inv X pins (List.replicate X.N.length none) H { s with heap:=h',toks:=t' }:=by
 have kp:∀ b o,b ≠ X.env.locals→s.heap.get? b = some o→h'.get? b = some o:=fun b o n q=>(sb.2 b n).trans q
 have n0:∀ b o,X.s₀.heap.get? b = some o→b ≠ X.env.locals:=fun b o q=>Nat.ne_of_lt (Nat.lt_of_lt_of_le (Heap.lt_size q) I.ok.above)
 have cl:∀ x c,X.env.cells.lookup x = some c→c ≠ X.env.locals:=fun x c q z=>by
  obtain ⟨v,oc,hoc,hdc⟩:=I.cell x c q
  obtain ⟨m,⟨o,es,ep,ho,hdo,_⟩,_⟩:=id I.loc
  rw [z] at hoc
  cases hoc.symm.trans (show s.heap.get? X.env.locals = some o from ho)
  rw [hdc] at hdo; cases hdo
 refine ⟨⟨I.ok.mod,I.ok.kind,I.ok.glob,I.ok.blt,I.ok.above,I.ok.inj,I.ok.has,I.ok.cab,hd,hfm,I.ok.stk,I.ok.exf,I.ok.bs,I.ok.bsz,I.ok.noex,I.ok.exfs,I.ok.funs,I.ok.frf⟩,I.os,I.bare,⟨fun b o q n f x=>kp b o (n0 b o q) (I.base.keep b o q n f x),fun b o q n f x=>?_,I.base.free,fun b o q x=>?_,I.base.tups,I.base.frzs,I.base.tbls⟩,⟨m',hn,fun i x v _ a2 _=>?_⟩,fun x c q=>?_,I.free,I.freeC,fun p hp=>?_,fun a o q=>?_,List.length_replicate⟩
 ·obtain ⟨sl,q'⟩:=I.base.slot b o q n f x
  exact ⟨sl,kp b _ (n0 b o q) q'⟩
 ·obtain ⟨o',q'⟩:=I.base.there b o q x
  exact ⟨o',kp b o' (n0 b o q) q'⟩
 ·rw [List.getElem?_replicate] at a2
  split at a2 <;> cases a2
 ·obtain ⟨v,oc,hoc,hdc⟩:=I.cell x c q
  exact ⟨v,oc,kp c oc (cl x c q) hoc,hdc⟩
 ·have hp':p ∈ (X.pn ++ pins ++ [(e,oe)]) ++ []:=by rw [List.append_nil]; exact List.mem_append_left _ hp
  obtain ⟨p1,p2,p3,p4,p5⟩:=I.pin p hp'
  exact ⟨kp _ _ p3 p1,p2,p3,p4,p5⟩
 ·refine (I.hok a o q).stay (fun b u hb z=>kp b u (fun w=>?_) z) (fun _ z=>z) fun _ _ z=>z
  have fr:H b = none:=by rw [w]; exact I.free
  rcases hb with hb | hb
  ·rw [← hb,fr] at q; cases q
  ·rw [fr] at hb; cases hb
end
section
variable {X:Cx} {K:PySem.W.Frag} {S:ASp}
theorem f1c {body:List Stmt} {t:TS} {h0:ExceptHandler} {hs:List ExceptHandler} {pos:Pos} (h:PSs X.nox body t):PS X (.Try body (h0 :: hs) [] [] pos) t:=by
 intro pins s σ H D I ht
 refine wpAny_Try_except (wpAny_mono (h pins s σ H D (I.wish _) ht) (fun f s1 q=>?_) fun _ _ z=>False.elim z)
 have q':=SP.unwish q
 cases f with
 | next=>exact wpAny_execs_nil q'
 | ret v=>exact q'
 | brk=>exact q'
 | cont=>exact q'
theorem x0w {st:Stmt} {t u:TS} (h1:PS X st t) (h2:PS X st u):PS X st (fun D σ H=>t D σ H ∨ u D σ H):=fun pins s σ H D I h=>h.elim (h1 pins s σ H D I) (h2 pins s σ H D I)
end
end L2
namespace L2
open PySem PySem.Spec PyProof.Rows PySem.W
section
variable {prog:Program} {w:World} {A:Around} {E:Value→Shared→Prop} {s:Shared} {K:PySem.W.Frag} {x D:Addr} {ox:Obj} {odo:Option Obj}
theorem z0n {Q:Option Value→Shared→Prop} (KX:K.In s.heap) (I:PySem.W.InstAt s.heap x ox D odo) (hga:findIn K (.ref D) "__getattribute__" = some (some (.builtin "BaseException.__getattribute__"))) (hgn:findIn K (.ref D) "__getattr__" = some none)
  (hf:findObj K D odo "__class__" = some (.bind (.builtin "getset_descriptor.__get__") (.builtin "object.__class__"))) (hm:mroIn K D (.type "object") = some true) (hb:subIn K (.ref D) (.type "BaseException") = some true)
  (h:Q (some (.ref D)) { s with toks:=s.toks + 1 }):wpAny (model prog w) A (getAttr? (.ref x) "__class__") Q E s:=by
 obtain ⟨hh,g,d,t,os⟩:=s
 have L0:=I.type (M:=model prog w)
 have L1:=looks_findIn (M:=model prog w) KX hga
 have L2:=looks_findIn (M:=model prog w) KX hgn
 have L3:=looks_find (M:=model prog w) KX I hf
 have L4:=looks_subIn (M:=model prog w) KX hb
 have f3:=PySem.F.excAttr_ValueError.ga.bind (.ref x)
 have hk:builtinKind "BaseException.__getattribute__" = some .slot:=by decide +kernel
 have hsp:splitId "BaseException.__getattribute__" = some ("BaseException", "__getattribute__"):=by decide +kernel
 have ha:=PySem.F.args_bexc_ga (.ref x) (.str "__class__" t)
 unfold getAttr? getAttrBy? getAttrBy
 refine wpAny_bind (wpAny_mkText (wpAny_bind (wpAny_attempt (wpAny_holding (wpAny_bind (L0.at (wpAny_bind (L1.at ?_))))))))
 show wpAny _ _ (getAttrByItsOwn _ _ _ _ _ _) _ _ _
 unfold getAttrByItsOwn
 repeat (any_goals (first | assumption | with_reducible refine L0.at ?_ | with_reducible refine L1.at ?_ | with_reducible refine L2.at ?_ | wp_step))
 refine codeAny_call_builtin PySem.F.excAttr_ValueError.ga.plain PySem.F.entry_bexc_ga ?_
 simp only [checkBuiltinCall,hk,hsp]
 refine wpAny_bind ?_
 unfold isInstance
 repeat (any_goals (first | assumption | with_reducible refine L0.at ?_ | with_reducible refine L4.at ?_ | with_reducible refine L3.at ?_ | wp_step))
 refine class_get (s:=⟨hh,g,d,t + 1,os⟩) (ox:=ox) (od:=odo) KX I hm ?_
 show wpAny _ _ (ret (.ref D)) _ _ _
 refine wpAny_pure ?_
 exact handed_on rfl (wpAny_pure h)
end
structure ExIs (K:PySem.W.Frag) (C:Addr):Prop where
 ga:findIn K (.ref C) "__getattribute__" = some (some (.builtin "BaseException.__getattribute__"))
 gn:findIn K (.ref C) "__getattr__" = some none
 cl:∀ od,findObj K C od "__class__" = some (.bind (.builtin "getset_descriptor.__get__") (.builtin "object.__class__"))
 mo:mroIn K C (.type "object") = some true
 be:subIn K (.ref C) (.type "BaseException") = some true
 is:(clsIn K C).isSome = true
theorem ExIs.of {K:PySem.W.Frag} {C:Addr} (ga:findIn K (.ref C) "__getattribute__" = some (some (.builtin "BaseException.__getattribute__"))) (gn:findIn K (.ref C) "__getattr__" = some none) (hc:hasDictIn K C = true) (ha:findIn K (.ref C) "__class__" = some (some (.builtin "object.__class__")))
  (hn:specialIn K (.builtin "object.__class__") "__get__" = some (some (.builtin "getset_descriptor.__get__"))) (ht:takesIn K (.builtin "object.__class__") = some true) (mo:mroIn K C (.type "object") = some true) (be:subIn K (.ref C) (.type "BaseException") = some true):ExIs K C:=by
 obtain ⟨cd,hcd,_⟩:=any_some hc
 refine ⟨ga,gn,fun od=>?_,mo,be,by rw [hcd]; rfl⟩
 unfold findObj
 rw [hcd,Option.bind_some,ha,Option.bind_some]
 simp only [hn,ht,Option.bind_some]
theorem b1u {K:PySem.W.Frag} {a C:Addr} {oe:Obj} {odo:Option Obj} (q:ExIs K C):KitX K (.ref a) (.ref C) (fun h=>PySem.W.InstAt h a oe C odo) where
 ty:=fun _ _ _ I=>I.type
 it:=fun _ _ KX _=>by
  have z:=q.is
  unfold clsIn at z
  split at z
  next lk =>
   intro A' Q' E' s' k w
   unfold isType loadHead
   exact wpAny_bind (wpAny_loadPart (k _ _ (KX _ _ lk)) (wpAny_pure w))
  ·cases z
 ne:=fun h tp dd its n sl KX g=>Bool.eq_false_iff.mpr fun e=>by
  have e':C = tp:=Value.ref.inj (beq_iff_eq.mp e)
  subst e'
  have z:=q.is
  unfold clsIn at z
  split at z
  next lk=>cases (KX _ _ lk).symm.trans g
  ·cases z
 ca:=fun KX I k=>z0n KX I q.ga q.gn (q.cl _) q.mo q.be k
section
variable {K:PySem.W.Frag} {pr:Nat→Bool} {t u:TS} {a b:AS} {S:ASp} {ts:TA} {as:AA} {th:Addr→TS} {ah:AS} {i:Nat}
def aOr2 (a b:AS):AS:=fun k ρ=>a k ρ ∨ b k ρ
theorem k0i (h1:TSok K pr t a) (h2:TSok K pr u b):TSok K pr (fun D σ H=>t D σ H ∨ u D σ H) (aOr2 a b):=fun F σ ρ H D e hp r ha k=>ha.elim (fun z=>.inl (h1 F σ ρ H D e hp r z k)) fun z=>.inr (h2 F σ ρ H D e hp r z k)
end
section
variable {X:Cx} {pins:List (Addr × Obj)} {σ σ1:St} {H H1:Hp} {s s1:Shared} {h':Heap} {e C:Addr}
def mcx (X:Cx) (e:Addr):Cx:={ X with A:=X.A.mark (some (.ref e)),calm:=false,xe:=fun _ _=>False }
theorem Inv.mcx (I:Inv X pins σ H s) (e:Addr):Inv (mcx X e) pins σ H s :=
 ⟨⟨I.ok.mod,I.ok.kind,I.ok.glob,I.ok.blt,I.ok.above,I.ok.inj,I.ok.has,I.ok.cab,fun z=>(nomatch z),I.ok.frames,I.ok.stk,I.ok.exf,I.ok.bs,I.ok.bsz,I.ok.noex,I.ok.exfs,I.ok.funs,I.ok.frf⟩,I.os,I.bare,I.base,I.loc,I.cell,I.free,I.freeC,I.pin,I.hok,I.len⟩
theorem Inv.trackX {od:Option Addr} (I1:Inv X pins σ1 H1 s1) (I:Inv X pins σ H s) (hex:X.ex = []) (ue:H e = none) (y:s1.heap.get? e = none) (hp:exP e C od s.heap):Inv X pins σ (upd H e (.ext (exP e C od))) s:=by
 obtain ⟨oe,vs,ge,gc,gd,gf⟩:=id hp
 have y0:=I1.back0 hex y
 have ne:∀ {b:Addr} {o:HO},H b = some o→b ≠ e:=fun z w=>by rw [w,ue] at z; cases z
 have n0:∀ b o,X.s₀.heap.get? b = some o→b ≠ e:=fun b o q z=>by rw [z,y0] at q; cases q
 have nL:X.env.locals ≠ e:=fun z=>by
  obtain ⟨m1,⟨o1,_,_,ho1,_⟩,_⟩:=id I1.loc
  rw [z,y] at ho1; cases ho1
 have nC:∀ x c,X.env.cells.lookup x = some c→c ≠ e:=fun x c q z=>by
  obtain ⟨v,o1,ho1,_⟩:=I1.cell x c q
  rw [z,y] at ho1; cases ho1
 refine ⟨I.ok,I.os,I.bare,⟨I.base.keep,I.base.slot,fun b o q n x=>?_,I.base.there,fun b xs q=>?_,fun b o u q=>?_,fun b ps q=>?_⟩,I.loc,I.cell,?_,fun x c q=>?_,fun p hp'=>?_,fun a o q=>?_,I.len⟩
 ·rw [a0l (n0 b o q)]; exact I.base.free b o q n x
 ·have:=I.base.tups b xs q
  rw [a0l (ne this)]; exact this
 ·have:=I.base.frzs b o u q
  rw [a0l (ne this)]; exact this
 ·obtain ⟨more,this⟩:=I.base.tbls b ps q
  exact ⟨more,by rw [a0l (ne this)]; exact this⟩
 ·rw [a0l nL]; exact I.free
 ·rw [a0l (nC x c q)]; exact I.freeC x c q
 ·obtain ⟨p1,p2,p3,p4,p5⟩:=I.pin p hp'
  refine ⟨p1,?_,p3,p4,p5⟩
  rw [a0l fun z=>?_]
  ·exact p2
  ·have:=(I1.pin p hp').1
   rw [z,y] at this; cases this
 ·by_cases z:a = e
  ·subst z
   rw [a0v] at q
   cases q
   exact ⟨hp,⟨oe,ge⟩,fun h1 h2 ⟨oe,vs,g1,g2,g3,g4⟩ k=>⟨oe,vs,k _ g1,g2,g3,g4⟩⟩
  ·rw [a0l z] at q
   exact (I.hok a o q).stay (fun _ _ _ w=>w) (fun b w=>by rw [a0l (ne w)]; exact w) fun b xs w=>by rw [a0l (ne w)]; exact w
theorem Inv.goes {m:Str→Option Value} {v:Option Value} {n:Str} {i:Nat} {t':Nat} (I:Inv (L2.mcx X e) pins σ H s) (ok:X.Ok) (hN:X.N.Nodup) (hi:X.N[i]? = some n) (hm:∀ (i:Nat) (x:Str) (v:V),X.N[i]? = some x→σ[i]? = some (some v)→Vis X.env.scope x→∃ u,RelV v u∧Look X.env s.heap m x u) (sb:Heap.SameBut X.env.locals s.heap h') (hn:h'.Ns X.env.locals (fun x=>if x = n then v else m x)) :
  Inv X pins (σ.set i none) H { s with heap:=h',toks:=t' }:=by
 have kp:∀ b o,b ≠ X.env.locals→s.heap.get? b = some o→h'.get? b = some o:=fun b o n q=>(sb.2 b n).trans q
 have n0:∀ b o,X.s₀.heap.get? b = some o→b ≠ X.env.locals:=fun b o q=>Nat.ne_of_lt (Nat.lt_of_lt_of_le (Heap.lt_size q) I.ok.above)
 have cl:∀ x c,X.env.cells.lookup x = some c→c ≠ X.env.locals:=fun x c q z=>by
  obtain ⟨v,oc,hoc,hdc⟩:=I.cell x c q
  obtain ⟨m,⟨o,es,ep,ho,hdo,_⟩,_⟩:=id I.loc
  rw [z] at hoc
  cases hoc.symm.trans (show s.heap.get? X.env.locals = some o from ho)
  rw [hdc] at hdo; cases hdo
 refine ⟨ok,I.os,I.bare,⟨fun b o q n f x=>kp b o (n0 b o q) (I.base.keep b o q n f x),fun b o q n f x=>?_,I.base.free,fun b o q x=>?_,I.base.tups,I.base.frzs,I.base.tbls⟩,⟨_,hn,fun j x v' a1 a2 a3=>?_⟩,fun x c q=>?_,I.free,I.freeC,fun p hp=>?_,fun a o q=>?_,by rw [List.length_set]; exact I.len⟩
 ·obtain ⟨sl,q'⟩:=I.base.slot b o q n f x
  exact ⟨sl,kp b _ (n0 b o q) q'⟩
 ·obtain ⟨o',q'⟩:=I.base.there b o q x
  exact ⟨o',kp b o' (n0 b o q) q'⟩
 ·have ij:i ≠ j:=fun z=>by
   subst z
   have:i < σ.length:=by rw [I.len]; exact (List.getElem?_eq_some_iff.mp hi).1
   rw [List.getElem?_set_self this] at a2; cases a2
  rw [List.getElem?_set_ne ij] at a2
  obtain ⟨u,ru,lk⟩:=hm j x v' a1 a2 a3
  refine ⟨u,ru,?_⟩
  have xn:x ≠ n:=fun z=>by
   subst z
   have l1:=(List.getElem?_eq_some_iff.mp hi).1
   have:=(List.getElem?_inj l1 hN).mp (hi.trans a1.symm)
   exact ij this
  rcases lk with ⟨z1,z2⟩ | ⟨z1,c,z2,oc,z3,z4⟩
  ·exact .inl ⟨z1,by show (if x = n then v else m x) = some u; rw [if_neg xn]; exact z2⟩
  ·exact .inr ⟨z1,c,z2,oc,kp c oc (cl x c z2) z3,z4⟩
 ·obtain ⟨v,oc,hoc,hdc⟩:=I.cell x c q
  exact ⟨v,oc,kp c oc (cl x c q) hoc,hdc⟩
 ·obtain ⟨p1,p2,p3,p4,p5⟩:=I.pin p hp
  exact ⟨kp _ _ p3 p1,p2,p3,p4,p5⟩
 ·refine (I.hok a o q).stay (fun b u hb z=>kp b u (fun w=>?_) z) (fun _ z=>z) fun _ _ z=>z
  have fr:H b = none:=by rw [w]; exact I.free
  rcases hb with hb | hb
  ·rw [← hb,fr] at q; cases q
  ·rw [fr] at hb; cases hb
end
structure ECls (C:Addr) (h:Heap):Prop where
 obj:∃ bm N nm q bs hdct sn sub ab col dd k0 k1 k2 k3 k5,h.get? C = some (excClassObj nm q C N bs bm hdct sn sub ab col dd k0 k1 k2 k3 k5 "ValueError.__new__")∧OwnTail h bmV bm
def h0i (K:PySem.W.Frag) (C:Addr):Bool:=match K.lookup C with
 | some ⟨.type "type",_,.cls cd,sl⟩=>(match cd.mro,sl.toList with
  | .ref C' :: bm,[_,_,_,_,some (.builtin n),_]=>C' == C && n == "ValueError.__new__" && !cd.hasDel && PySem.W.tailIn K bmV bm
  | _,_=>false)
 | _=>false
theorem ecls {K:PySem.W.Frag} {h:Heap} {C:Addr} (KX:K.In h) (q:h0i K C = true):ECls C h:=by
 unfold h0i at q
 split at q
 next dd cd sl lk =>
  split at q
  next C' bm k0 k1 k2 k3 n k5 em es =>
   simp only [Bool.and_eq_true,beq_iff_eq,Bool.not_eq_true'] at q
   obtain ⟨⟨⟨rfl,rfl⟩,nd⟩,tl⟩:=q
   obtain ⟨a1,a2,a3,a4,a5,a6,a7,a8,a9,a10,a11⟩:=cd
   obtain ⟨l⟩:=sl
   dsimp only at em nd es
   subst em nd es
   exact ⟨bm,a4,a1,a5,a2,a6,a7,a8,a9,a10,dd,k0,k1,k2,k3,k5,KX _ _ lk,PySem.W.tail_of_in KX tl⟩
  ·cases q
 ·cases q
theorem z0p {M:Model} {A:Around} {E:Value→Shared→Prop} {h:Heap} {g:Array GenState} {d:Drawn} {t:Nat} {os:OsState} {e C Dc:Addr} {oe:Obj} {Q:Bool→Shared→Prop} {b:Bool}
  (oD:ECls Dc h) (ge:h.get? e = some oe) (gc:oe.cls = .ref C) (hs:∀ (A':Around) (E':Value→Shared→Prop) (Q':Bool→Shared→Prop),Q' b ⟨h,g,d,t,os⟩→wpAny M A' (isSubtype (.ref C) (.ref Dc)) Q' E' ⟨h,g,d,t,os⟩)
  (hq:Q b ⟨h,g,d,t,os⟩):wpAny M A (excMatches (.ref e) (.ref Dc)) Q E ⟨h,g,d,t,os⟩:=by
 obtain ⟨b2,N2,m2,q2,s2,c2,n2,u2,a2,l2,d2,k20,k21,k22,k23,k25,hD,T2⟩:=oD.obj
 have hB:(Value.ref Dc :: b2).contains (.type "BaseException") = true:=by rw [List.contains_cons,T2.hasType (b:=true) (by decide +kernel),Bool.or_true]
 have f:=tc_notTuple
 unfold excMatches
 repeat (first | (with_reducible refine wpAny_loadPart_at ge ?_; rw [gc]) | with_reducible refine wpAny_loadPart_at hD ?_ | (with_reducible refine wpAny_isSubtype_exc hD ?_; rw [hB]) | wp_step)
 refine hs _ _ _ ?_
 cases b with
 | true =>
  repeat wp_step
  exact hq
 | false =>
  repeat wp_step
  exact hq
def goE (i:Nat) (D:Ends):Ends:={ nx:=fun σ H=>D.nx (σ.set i none) H,rt:=D.rt,bk:=fun σ H=>D.bk (σ.set i none) H,ct:=fun σ H=>D.ct (σ.set i none) H }
section
variable {X:Cx} {K:PySem.W.Frag} {S:ASp}
def HB (X:Cx) (C:Addr) (od:Option Addr) (hs:List ExceptHandler) (tH:Addr→TS):Prop :=
 ∀ (a:Addr) (D:Ends) (pins:List (Addr × Obj)) (σ:St) (H1 H2:Hp) (s1 s3:Shared),Inv X pins σ H1 s1→Inv X pins σ H2 s3→Hot od s1.heap s3.heap H2 a C→tH a D σ H2 →
  wpAny (model X.prog X.w) X.A (handleBy (.ref a) X.env hs) (SP X pins D) X.xe s3
def d1b (C:Addr) (i:Nat) (od:Option Addr) (th:TS):Addr→TS:=fun a D σ H=>th (goE i D) (σ.set i (some (.ref a))) (upd H a (.ext (exP a C od)))
theorem p0z {i:Nat} {y n:Str} {C Dc:Addr} {od:Option Addr} {np hpos:Pos} {suite:List Stmt} {b0:Stmt} {rest:List ExceptHandler} {th:TS}
  (hex:X.ex = []) (hy:X.mg y = some (.ref Dc)) (q2:h0i X.K Dc = true) (q3:PySem.W.subIn X.K (.ref C) (.ref Dc) = some true)
  (hN:X.N.Nodup) (hi:X.N[i]? = some n) (hloc:X.env.scope.names.lookup n = some .local) (hh:∀ a,PSs (mcx X a) (b0 :: suite) th) (hgy:Gl X y:=by rfl) (hdy:(y == ("__debug__" : Str)) = false:=by decide) :
  HB X C od (.ExceptHandler (some (.Name y np)) (some n) (b0 :: suite) hpos :: rest) (d1b C i od th):=by
 intro a D pins σ H1 H2 s1 s3 I1 I3 hot3 hW
 obtain ⟨oe3,vs3,hv3,ge3,gc3,gd3,gf3,g13,y3,u3,hh3⟩:=id hot3
 refine wpAny_handleBy_cons (codeAny_handlers_test (g0m (I3.mcx a) hgy hy ?_ hdy)) (by intro q; cases q)
 refine z0p (b:=true) (ecls I3.kIn q2) ge3 gc3 (fun A' E' Q' q=>(PySem.W.looks_subIn I3.kIn q3).at q) (codeAny_handlers_suite_as ?_)
 refine sfI I3 hot3 fun h4 ch4 hch4 un4 hok4 ⟨oe4,vs4,ge4,gc4,gd4,gf4⟩=>?_
 have I4:=Inv.hot I1 I3 hex un4 hok4 hch4
 have I4':=(Inv.trackX (C:=C) (od:=od) I1 I4 hex u3 y3 ⟨oe4,vs4,ge4,gc4,gd4,gf4⟩).mcx a
 refine k0g (X:=L2.mcx X a) (v:=.ref a) I4' hN hi (.inl hloc) rfl (fun s5 I5 _=>?_) (.inr hloc)
 refine wpAny_mono (hh a pins s5 _ _ (goE i D) I5 hW) (fun fl s6 q6=>?_) fun _ _ z=>False.elim z
 have go:∀ {σ6:St} {H6:Hp} {Q:Unit→Shared→Prop},Inv (L2.mcx X a) pins σ6 H6 s6→(∀ s7,Inv X pins (σ6.set i none) H6 s7→Q () s7)→wpAny (model X.prog X.w) X.A (do bindName X.env n .none; unbindBehindTheSuite X.env n hpos) Q X.xe s6:=fun I6 k=>by
  obtain ⟨m6,hn6,hm6⟩:=id I6.loc
  refine wpAny_nameGoes_keeps hloc hn6 (by show (X.env.scope.kind == _ || _) = _; rw [I3.ok.kind]; rfl) fun h7 v7 hn7 hs7=>?_
  exact k _ (I6.goes I3.ok hN hi hm6 hs7 hn7)
 cases fl with
 | next=>obtain ⟨σ6,H6,I6,q⟩:=q6; exact go I6 fun s7 I7=>⟨_,H6,I7,q⟩
 | brk=>obtain ⟨σ6,H6,I6,q⟩:=q6; exact go I6 fun s7 I7=>⟨_,H6,I7,q⟩
 | cont=>obtain ⟨σ6,H6,I6,q⟩:=q6; exact go I6 fun s7 I7=>⟨_,H6,I7,q⟩
 | ret u=>obtain ⟨v,σ6,H6,I6,rv,q⟩:=q6; exact go I6 fun s7 I7=>⟨v,_,H6,I7,rv,q⟩
end
section
variable {X:Cx} {R:VK} {E:XK} {C:Addr} {fn:Option Str} {K:PySem.W.Frag} {S:ASp}
theorem d1f {st:Stmt} {t u:TS} (h1:PSr X R st t) (h2:PSr X R st u):PSr X R st (fun D σ H=>t D σ H ∨ u D σ H):=fun pins s σ H D e I h=>h.elim (h1 pins s σ H D e I) (h2 pins s σ H D e I)
def h1r (t:TE):TE:=fun σ H Q=>t σ H fun _ H1=>Q .non H1
theorem v0a {x:Str} (T:Tie X C none R) (hc:X.calm = true) (hm:X.mg x = some (.ref C)) (hq:PySem.W.excIn X.K C bmV "ValueError.__new__" = true) {e0:Expr} {t0:TE} {np cpos pos:Pos} (ha:PE X.nox e0 t0)
  (hg:Gl X x:=by rfl) (he:starEach [e0] X.env = [(false,eval e0 X.env)]:=by rfl) (hdb:(x == ("__debug__" : Str)) = false:=by decide):PSr X R (.Raise (some (.Call (.Name x np) [e0] [] cpos)) none pos) (tRet (h1r t0)):=by
 intro pins s σ H D e I h
 obtain ⟨tl,N,nm,q,bs,hdct,sn,sub,ab,col,dd,k0,k1,k2,k3,k5,mN,hC,hN,hni,tw⟩:=(y0f I.mod.kin hm hq).obj
 refine wpAny_Raise_call_subT (k5:=k5) (k3:=k3) (k2:=k2) (k1:=k1) (k0:=k0) (dd:=dd) (col:=col) (ab:=ab) (sub:=sub) (sn:=sn) (hdct:=hdct) (bs:=bs) (N:=N) (q:=q) (nm:=nm) (C:=C) (bm:=tl) (mN:=mN) PySem.F.excBase_ValueError (tw.hasType (by decide +kernel)) (I.ok.hd hc) (by rw [he]; rfl) hni (g0m I hg hm ⟨rfl,?_⟩ hdb)
 rw [he]
 refine Calls.evalArgs_plain (Calls.spliced_cons ?_)
 refine thn (ha.nox pins s σ H (fun v H'=>D.rt .non H') I h) fun u s1 ⟨x,H1,I1,r1,q1⟩=>Calls.spliced_nil ?_
 refine ⟨rfl,by show (1:Nat) ≤ _; decide,I1.bk _ _ hC,hN.keeps I1.bk,tw.keeps I1.bk,fun h' a mk=>?_⟩
 obtain ⟨tt,g1,g2,g3⟩:=mk.there
 refine T.run (I1.kept (t':=s1.toks) mk.keeps) ⟨_,_,.none,g1,rfl,rfl,rfl,rfl,I1.back0 T.ex mk.new,?_,.inl rfl⟩ (fun _ z=>nomatch z) ⟨rfl,rfl⟩ (e ▸ q1)
 cases z:H1 a with
 | none=>rfl
 | some o =>
  obtain ⟨u,z'⟩:=I1.hok.get z
  rw [mk.new] at z'; cases z'
end
section
variable {Y:Cx} (K:PySem.W.Frag)
def rIsX (K:PySem.W.Frag) (c:V) (u:Value):List V→Hp→VK→Prop:=fun xs H Q=>∃ a C od b,xs = [.ref a,c]∧H a = some (.ext (exP a C od))∧(∀ dx,od = some dx→H dx ≠ none)∧ExIs K C∧kitOne K (.ref C) u = some b∧Q (.bl b) H
theorem b1x {pins:List (Addr × Obj)} {σ:St} {H:Hp} {s:Shared} {a C:Addr} {od:Option Addr} (I:Inv Y pins σ H s) (h:H a = some (.ext (exP a C od))) (hd:∀ dx,od = some dx→H dx ≠ none):∃ oe odo,PySem.W.InstAt s.heap a oe C odo:=by
 obtain ⟨⟨oe,vs,ge,gc,gd,gf⟩,_,_⟩:=I.hok a _ h
 cases od with
 | none=>exact ⟨oe,none,ge,gc,by unfold notCls; rw [gf],by rw [gd]; trivial⟩
 | some dx =>
  cases z:H dx with
  | none=>exact absurd z (hd dx rfl)
  | some o =>
   obtain ⟨u,z'⟩:=I.hok.get z
   exact ⟨oe,some u,ge,gc,by unfold notCls; rw [gf],by rw [gd]; exact z'⟩
theorem c0o {c:V} {u:Value} (rc:∀ u',RelV c u'→u' = u) (hK:Y.K = K:=by rfl):h0c Y (.builtin "isinstance") (rIsX K c u):=by
 subst hK
 intro pins s σ H xs us Q I r h
 obtain ⟨a,C,od,b,rfl,hH,hd,q,hk,h⟩:=h
 cases r with
 | cons r1 rr =>
  cases rr with
  | cons r2 rr =>
   cases rr
   cases (show _ = Value.ref a from r1)
   rw [rc _ r2]
   obtain ⟨oe,odo,it⟩:=b1x I hH hd
   exact kia_one (b1u q) I.kIn it hk (by intro z; cases z) fun tk=>⟨.bl b,H,I.tok tk,rfl,h⟩
def x0p (K:PySem.W.Frag):V→List V→Hp→VK→Prop:=fun x vs H Q=>∃ (l:Addr) (bs:List Bool) (k:Bool),x = .ref l∧vs = [.bl k]∧SqL K H l (bs.map V.bl)∧Q (.int (bs.count k:Nat)) H
theorem y0m (hK:Y.K = K:=by rfl):MtR Y "list.count" (x0p K):=by
 subst hK
 intro pins s σ H x vs v us Q I rx rv h
 obtain ⟨l,bs,k,rfl,rfl,hq,q⟩:=h
 cases rx
 obtain ⟨u,rfl,ru⟩:=rv.one
 cases ru
 obtain ⟨its,r,pl,hz⟩:=I.list hq
 obtain ⟨⟨cl,dd,dt,sl⟩,n,e,c1,c2,c3⟩:=pl
 simp only at c1 c2 c3
 subst c1 c2 c3
 have all:∀ {bs:List Bool} {its:List Value},Vals (bs.map V.bl) its→its = bs.map Value.bool:=by
  intro bs
  induction bs with
  | nil=>intro its r; cases r; rfl
  | cons b bs ih=>intro its r; cases r with | cons r1 rr=>rw [ih rr,show _ = Value.bool b from r1]; rfl
 have ei:=all r
 subst ei
 refine call_meets PySem.F.slot_list_count ⟨_,e,rfl⟩ PySem.F.entry_list_count (PySem.F.args_list_count_2 _ _) (SeqAt.list_countAt l (bs.map Value.bool).toArray n none sl (.bool k) (isBoolOf k)) ⟨e,fun y hy=>?_,?_⟩
 ·have hy':y ∈ bs.map Value.bool:=by simpa using hy
  obtain ⟨b,_,rfl⟩:=List.mem_map.mp hy'
  exact SeqAt.EqAt.bool_bool b k
 ·have ec:(bs.map Value.bool).toArray.toList.countP (isBoolOf k) = bs.count k:=by
   show (bs.map Value.bool).countP (isBoolOf k) = bs.count k
   rw [List.countP_map]; rfl
  rw [ec]
  exact ⟨.int (bs.count k:Nat),H,I.tok _,⟨s.toks,rfl⟩,q⟩
end
section
variable {K:PySem.W.Frag} {pr:Nat→Bool} {F:Fr} {σ:St} {ρ:En} {H:Hp} {th:TS} {ah:AS} {S:ASp} {ts:TA} {as:AA} {ta:TE} {a:AE}
theorem Rel.gone (r:Rel K F σ ρ H) {i:Nat} (hm:∀ a,¬ F.pin i a):Rel K F (σ.set i none) (pt ρ i .un) H:=by
 rcases Nat.lt_or_ge i ρ.length with hi | hi
 case inr =>
  rw [t0f ρ i .un hi,List.set_eq_of_length_le (by rw [r.len]; exact hi)]; exact r
 have sub:∀ a,b0q (σ.set i none) (pt ρ i .un) a→b0q σ ρ a:=fun a ⟨j,hj,e⟩=>by
  obtain ⟨ij,hj⟩:=e0c rfl hj
  rw [List.getElem?_set_ne ij] at e
  exact ⟨j,hj,e⟩
 have vis:Same (hid H (hs F σ ρ)) (hid H (hs F (σ.set i none) (pt ρ i .un))):=b0k fun a o e n=>⟨e,fun z=>n (z.imp id (sub a))⟩
 refine ⟨by rw [List.length_set,h0e,r.len],r.fr,r.zl,fun a h=>r.zo a (sub a h),fun j a hj e=>?_,fun j a h=>?_,r.ml,r.ma,fun j k a hj hk ej ek=>?_,fun j=>?_⟩
 ·obtain ⟨ij,hj⟩:=e0c rfl hj
  rw [List.getElem?_set_ne ij] at e
  exact r.ow j a hj e
 ·have:i ≠ j:=fun e=>hm a (e ▸ h)
  rw [List.getElem?_set_ne this]; exact r.mi j a h
 ·obtain ⟨nj,hj⟩:=e0c rfl hj
  obtain ⟨nk,hk⟩:=e0c rfl hk
  rw [List.getElem?_set_ne nj] at ej
  rw [List.getElem?_set_ne nk] at ek
  exact r.nd j k a hj hk ej ek
 ·by_cases ij:i = j
  ·subst ij
   rw [n0x ρ i .un hi]; trivial
  ·rw [c0k ρ i j _ ij,List.getElem?_set_ne ij]
   exact (r.sl j).keep vis fun _ _ _ _ e=>e
def l1d (a:AE):AE:=fun ρ q=>a ρ fun _ ρ1=>q (.d .non) ρ1
theorem a1t {t:TE} (h:TEok K t a):TEok K (h1r t) (l1d a):=by
 intro F σ ρ H q Q r ha k
 refine h F σ ρ H _ _ r ha fun r1 ρ1 v H1 h1 o=>?_
 obtain ⟨r',k1,_⟩:=o.inF
 exact (k.after k1).non r' h1
def goA (i:Nat) (k:AEnds):AEnds:=⟨fun ρ=>k.nx (pt ρ i .un),k.rt,fun ρ=>k.bk (pt ρ i .un),fun ρ=>k.ct (pt ρ i .un)⟩
def exF:Option Str→R→Option (Option (List (Str × D)))
 | none,_=>some none
 | some f,r=>match r.frz with
  | .d d=>some (some [(f,d)])
  | _=>none
theorem c1k {f:Str} {r:R} {fs:Option (List (Str × D))} (h:exF (some f) r = some fs):∃ d,r.frz = .d d∧fs = some [(f,d)]:=by
 unfold exF at h
 dsimp only at h
 split at h
 next d e=>cases h; exact ⟨d,e,rfl⟩
 ·cases h
def d1z (C:Addr) (fn:Option Str) (i:Nat) (ah:AS) (r:R):AS:=fun k ρ=>match exF fn r with
 | some fs=>ah (goA i k) (pt ρ i (.ex C fs))
 | none=>False
def l1c (ca:AE) (ah:R→AS):AS:=fun k ρ=>ca ρ fun r ρ1=>ah r k ρ1
theorem h0u {fn:Option Str} {tH:Option Addr→Addr→TS} {aH:R→AS} (ht:TAok K ts as)
  (hh:∀ (F:Fr) (σ:St) (ρ:En) (H1 H':Hp) (D:Ends) (k:AEnds) (r:R) (v:V) (a:Addr) (od:Option Addr),(∀ i a,F.pin i a→pr i = true)→Rel K F σ ρ H'→InF K F σ ρ H' v r.frz→aH r k ρ→c1q K F D k→H' a = none→Fld H' fn od v→(∀ dx,od = some dx→¬ hs F σ ρ dx)→tH od a D σ H') :
  TSok K pr (fun D σ H=>ts σ H fun vs H1=>spA K S (vs ++ []) H1 (fun v H'=>∀ a od,H' a = none→Fld H' fn od v→(∀ dx,od = some dx→H1 dx = none)→tH od a D σ H') E0) (l1c (g1u S as) aH):=by
 intro F σ ρ H D k hp r ha ko
 refine ht F σ ρ H _ _ r ha fun rs ρ1 vs H1 h1 r1 i1 k1=>?_
 obtain ⟨hd,hS⟩:=h1
 have s:=i1.srcs
 rw [List.append_nil]
 refine ⟨rs.map (d0u ρ1),(g0g F σ ρ1 H1 (vs.map some) (rs.map (d0u ρ1))).Z,_,r1.sub s hd,hS,fun rr ss' v H' hq sb no out a od hn hf hdx=>?_⟩
 have o:Out K F σ ρ1 H1 (back ρ1 rs ss') v H' rr:=by
  cases rr with
  | o i=>exact absurd rfl (no i)
  | d d =>
   obtain ⟨a,b⟩:=out
   obtain ⟨x,y,z⟩:=r1.back s hd a sb
   exact ⟨x,y,RepD.same b z⟩
  | x sv =>
   obtain ⟨a,b,c⟩:=out
   obtain ⟨x,y,z⟩:=r1.back s hd a sb
   exact ⟨x,y,b,c.keep z fun l o ho=>by rw [b] at ho; cases ho⟩
  | t n =>
   obtain ⟨a,b⟩:=out
   obtain ⟨x,y,z⟩:=r1.back s hd a sb
   exact ⟨x,y,b⟩
  | n sv =>
   obtain ⟨Hb,l,o,a,b,c,e1,e2,e3⟩:=out
   obtain ⟨x,y,z⟩:=r1.back s hd a sb
   exact ⟨Hb,l,o,x,y,b,c.keep z fun _ _ _ _ e=>e,e1,e2,e3⟩
 obtain ⟨r',k',i'⟩:=o.inF
 refine hh F σ _ H1 H' D k rr v a od hp r' i' hq ko hn hf fun dx e z=>?_
 rcases z with z | z
 ·exact (r1.zl dx z).1 (hdx dx e)
 ·exact e0q r1 (k'.so z) (hdx dx e)
theorem i0n {C:Addr} {fn:Option Str} {i:Nat} (hi:pr i = false) (hh:TSok K pr th ah) :
  ∀ (F:Fr) (σ:St) (ρ:En) (H1 H':Hp) (D:Ends) (k:AEnds) (r:R) (v:V) (a:Addr) (od:Option Addr),(∀ i a,F.pin i a→pr i = true)→Rel K F σ ρ H'→InF K F σ ρ H' v r.frz→d1z C fn i ah r k ρ→c1q K F D k→H' a = none→Fld H' fn od v→(∀ dx,od = some dx→¬ hs F σ ρ dx)→d1b C i od th a D σ H':=by
 intro F σ ρ H1 H' D k r v a od hp r' i' z ko hn hf hd
 have np:=p0k hp hi
 unfold d1z at z
 split at z
 next fs ef =>
  have hx:exD K (hid (upd H' a (.ext (exP a C od))) (hs F σ ρ)) fs od:=by
   cases fn with
   | none=>cases ef; obtain ⟨rfl,_⟩:=hf; trivial
   | some f =>
    obtain ⟨dx,rfl,hdx⟩:=hf
    obtain ⟨d,er,ef⟩:=c1k ef
    ·subst ef
     rw [er] at i'
     have na:dx ≠ a:=b0c hdx hn
     refine ⟨[(f,v)],f0h (hd dx rfl) (by rw [a0l na]; exact hdx),rfl,?_⟩
     show RepDs K _ [v] [d]
     unfold RepDs RepDs
     refine ⟨RepD.same (show RepD K (hid H' (hs F σ ρ)) v d from i') (b0k fun b o e n=>⟨by rw [a0l (b0c e hn)]; exact e,n⟩),trivial⟩
  have rf:=(r'.fresh (o:=.ext (exP a C od)) hn).setS (i:=i) (v:=.ref a) (s:=.ex C fs) rfl ⟨a,od,rfl,f0h (g0o r' hn) a0v,hx⟩ np
  exact hh F _ _ _ (goE i D) (goA i k) hp rf z ⟨fun σ2 ρ2 H2 q r2=>ko.nx _ _ _ q (r2.gone np),fun σ2 ρ2 H2 q r2=>ko.bk _ _ _ q (r2.gone np),fun σ2 ρ2 H2 q r2=>ko.ct _ _ _ q (r2.gone np),ko.rt⟩
 ·exact z.elim
theorem z0q {fs:Option (List (Str × D))} {od:Option Addr} {S:Addr→Prop} (h:exD K (hid H S) fs od):∀ dx,od = some dx→H dx ≠ none:=by
 rintro dx rfl
 cases fs with
 | none=>exact h.elim
 | some fs =>
  obtain ⟨ks,h1,_⟩:=h
  rw [(d0b.mp h1).2]; exact fun z=>nomatch z
def aIsX (K:PySem.W.Frag) (i:Nat) (u:Value):AE:=fun ρ q=>match gt ρ i with
 | .ex C _=>∃ b,ExIs K C∧kitOne K (.ref C) u = some b∧q (.d (.bl b)) ρ
 | _=>False
theorem d0z {i:Nat} {c:V} {u:Value}:TEok K (tCB (rIsX K c u) (u0w (tVar i) (u0w (tC c) tNil))) (aIsX K i u):=by
 intro F σ ρ H q Q a h b
 have s:=a.sl i
 unfold aIsX at h
 split at h
 ·rename_i C fs hg
  rw [hg] at s
  obtain ⟨e,od,e1,e2,e3⟩:=s
  obtain ⟨b',h1,h2,h3⟩:=h
  exact ⟨.ref e,e1,e,C,od,b',rfl,(d0b.mp e2).2,z0q e3,h1,h2,b.bl a h3⟩
 ·exact h.elim
@[irreducible] def gCnt (ds:List D) (k:Bool) (q:Nat→Prop):Prop:=∃ bs:List Bool,ds = bs.map D.bl∧q (bs.count k)
theorem s0b {bs:List Bool} {k:Bool} {q:Nat→Prop} (h:q (bs.count k)):gCnt (bs.map D.bl) k q:=by unfold gCnt; exact ⟨bs,rfl,h⟩
theorem x0n {Hh:Hp}:∀ {bs:List Bool} {vs:List V},RepDs K Hh vs (bs.map D.bl)→vs = bs.map V.bl
 | [],[],_=>rfl
 | b :: bs,v :: vs,h=>by
  unfold RepDs at h
  obtain ⟨h1,h2⟩:=h
  unfold RepD at h1
  rw [h1,x0n h2]; rfl
 | [],_ :: _,h=>by unfold RepDs at h; exact h.elim
 | _ :: _,[],h=>by unfold RepDs at h; exact h.elim
def aCnt (a:AE) (as:AA):AE:=fun ρ q=>a ρ fun r ρ1=>match view ρ1 r.frz with
 | some (.lst ds)=>as ρ1 fun rs ρ2=>(match rs with
  | [.d (.bl k)]=>gCnt ds k fun j=>ρ1 = ρ2∧q (.d (.int (j:Nat))) ρ2
  | _=>False)
 | _=>False
theorem e1m (ha:TEok K ta a) (hs':TAok K ts as):TEok K (tBM K "list" (x0p K) ta ts) (aCnt a as):=by
 intro F σ ρ H q Q r h k
 refine ha F σ ρ H _ _ r h fun r1 ρ1 x H1 h1 o1=>?_
 obtain ⟨r1',k1,i1⟩:=o1.inF
 split at h1
 ·rename_i ds e
  obtain ⟨l0,us0,rfl,sq0,_⟩:=d0o r1' i1 e
  refine ⟨.inl ⟨rfl,_,sq0⟩,hs' F σ ρ1 H1 _ _ r1' h1 fun rs ρ2 vs H2 h2 r2 i2 k2=>?_⟩
  split at h2
  ·rename_i y
   obtain ⟨z,rfl,iz⟩:=i2.one
   unfold gCnt at h2
   obtain ⟨bs,rfl,e12,hq⟩:=h2
   subst e12
   obtain ⟨l,us,el,sq,rd⟩:=d0o r2 (i1.keep k2) e
   rw [x0n rd] at sq
   exact ⟨l,bs,y,el,by rw [iz.blv],sq,((k.after k1).after k2).int r2 hq⟩
  ·exact h2.elim
 ·exact h1.elim
end
end L2
namespace L2
open PySem PySem.Spec PyProof.Rows Builtin
end L2
namespace L2
open PySem PySem.Spec PyProof.Rows
def Itw (K:PySem.W.Frag) (l:Addr) (n:Nat):It :=
 ⟨fun i H=>∃ xs x,SqL K H l xs∧xs.length = n∧i < n∧xs[n - 1 - i]? = some x,fun i H x H'=>H' = H∧∀ xs,SqL K H l xs→xs[n - 1 - i]? = some x,fun i H=>n ≤ i⟩
theorem a1q {P:Program} {w:World} {K:PySem.W.Frag} {tg:Expr} (a it:Addr) (n:Nat):Turn P w K tg (Itw K a n) [it] it (fun i h=>i ≤ n∧h.IsRevIter it a ((n:Int) - 1 - (i:Int))) where
 mem:=by simp
 obj:=fun i h st b hb=>by
  have e:b = it:=by simpa using hb
  subst e
  obtain ⟨_,o,e,c,d⟩:=st
  exact ⟨o,e,fun v z=>by rw [d] at z; cases z⟩
 keep:=fun i h h' st k=>⟨st.1,st.2.at fun o e=>k it (by simp) o e⟩
 item:=by
  intro X hP hw hK hc i pins s σ H E I hf st hg
  subst hP hw hK
  obtain ⟨xs,x,hq,hn,hi,hx⟩:=hg
  obtain ⟨its,rv,p,hz⟩:=I.list hq
  obtain ⟨u,hu,ru⟩:=rv.get hx
  obtain ⟨f0,f1,f2,f3,f4,f5⟩:=hf it (by simp)
  have st2:=st.2
  rw [show (n:Int) - 1 - (i:Int) = ((n - 1 - i:Nat):Int) by omega] at st2
  refine wpAny_pyNext_rev_item st2 p.isList (x:=u) (by simpa using hu) fun h' st' sb=>?_
  have I1:Inv X pins σ H { s with heap:=h' }:=I.turned (t':=s.toks) (fun b o hb e=>(sb.2 b hb).trans e) f0 f1 f3 f4 f5
  rw [show ((n - 1 - i:Nat):Int) - 1 = (n:Int) - 1 - ((i + 1:Nat):Int) by omega] at st'
  obtain ⟨o,e,c,d⟩:=id st'
  exact ⟨u,rfl,z0f (s:={ s with heap:=h' }) e c d (by decide) ⟨x,H,I1,ru,⟨rfl,fun ys hy=>by rw [I.list_inj hy hq]; exact hx⟩,⟨by omega,st'⟩,fun b hb=>(hf b hb).1⟩⟩
 done:=by
  intro X hP hw hK hc i pins s σ H E I hf st hg
  subst hP hw hK
  obtain ⟨f0,f1,f2,f3,f4,f5⟩:=hf it (by simp)
  have hg':n ≤ i:=hg
  have st2:=st.2
  have st1:=st.1
  rw [show (n:Int) - 1 - (i:Int) = -1 by omega] at st2
  exact wpAny_pyNext_rev_end (I.ok.hd hc) st2 fun h' eb=>⟨rfl,I.turned (t':=s.toks) (fun b o hb e=>eb b o hb e) f0 f1 f3 f4 f5⟩
 self:=fun _ _ _ _ _ st h=>wpAny_pyIter_revIter st.2 h
def iRev (K:PySem.W.Frag) (t:TA):TI:=fun σ H R=>t σ H fun vs H1=>∃ l xs,vs = [.ref l]∧SqL K H1 l xs∧R (Itw K l xs.length) H1
theorem i1h (K:PySem.W.Frag) {X:Cx} {tg:Expr} {a:Expr} {ta:TA} {p pos:Pos} (hg:Gl X "reversed") (hm:X.mg "reversed" = none) (ha:PA X [a] ta) (hK:X.K = K:=by rfl) (hs:starEach [a] X.env = [(false,eval a X.env)]:=by rfl) :
  PI X tg (.Call (.Name "reversed" p) [a] [] pos) (iRev K ta):=by
 subst hK
 intro pins s σ H R I h
 refine Call_ (l0g I hg hm s0k (PyProof.Rows.callWith_type1 (thn (ha pos pins s σ H _ I h) fun us s1 ⟨vs,H1,I1,r1,q1⟩=>?_) hs rfl))
 obtain ⟨l,xs,rfl,h1,q⟩:=q1
 obtain ⟨u,rfl,ru⟩:=o0p r1
 cases ru
 obtain ⟨its,rv,p1,_⟩:=I1.list h1
 have hl:=rv.length
 refine call_reversed_list p1.isList ?_
 have it:Heap.IsRevIter (s1.heap.push (revObj l ((its.toArray.size:Int) - 1))) s1.heap.objs.size l ((xs.length:Int) - 1 - ((0:Nat):Int)):=⟨_,Heap.get?_push_size _ rfl,rfl,by rw [List.size_toArray,← hl]; simp [revObj]⟩
 refine wpAny_pyIter_revIter it ?_
 refine ⟨s1.heap.objs.size,[s1.heap.objs.size],_,_,H1,rfl,I1.kept (t':=s1.toks) fun b o e=>Heap.get?_push_of_some _ e,a1q l _ xs.length,⟨Nat.zero_le _,it⟩,fun b hb=>?_,q⟩
 have e:b = s1.heap.objs.size:=by simpa using hb
 subst e
 exact I1.fpOk (Nat.le_refl _) (I1.hok.fresh (Nat.le_refl _))
section
variable {K:PySem.W.Frag} {ts:TA} {as:AA}
theorem h1j {S:Addr→Prop} {H:Hp} {a:Addr} {vs:List V} {ds:List D} (h:SqL K H a vs) (rd:RepDs K (hid H S) vs ds):WkAt K S H (Itw K a vs.length) ds.reverse:=by
 have hl:=rd.length
 intro k
 constructor
 ·intro d e
  have hk:k < ds.length:=by
   have:=(List.getElem?_eq_some_iff.mp e).1
   rwa [List.length_reverse] at this
  rw [List.getElem?_reverse hk] at e
  obtain ⟨v,e1,rv⟩:=rd.get e
  rw [← hl] at e1
  refine ⟨⟨vs,v,h,rfl,by omega,e1⟩,fun x H' z=>⟨z.1 ▸ Same.refl H,?_⟩⟩
  have:=z.2 vs h
  rw [e1] at this; cases this; rw [z.1]; exact rv
 ·intro z
  rw [List.length_reverse] at z
  show vs.length ≤ k
  omega
theorem w0d {pin:Nat→Bool} {ρ:En} {r:R} {ds:List D} {c:En→Prop} (e:o0n pin ρ r = some (ds,c)):c ρ:=by
 cases r with
 | n s=>cases e
 | t n=>cases e
 | x n=>cases e
 | d d =>
  cases d with
  | lst es=>simp only [o0n,Option.some.injEq,Prod.mk.injEq] at e; rw [← e.2]; trivial
  | _=>cases e
 | o i =>
  unfold o0n at e
  cases hg:gt ρ i with
  | ow es =>
   simp only [hg] at e
   split at e
   ·simp only [Option.some.injEq,Prod.mk.injEq] at e
    rw [← e.2]; exact hg
   ·cases e
  | _=>simp [hg] at e
def aRvd (pin:Nat→Bool) (as:AA):AI:=fun ρ q=>as ρ fun rs ρ1=>match rs with
 | [r1]=>(match o0n pin ρ1 r1 with
  | some (ds,c)=>q ds.reverse c ρ1
  | _=>False)
 | _=>False
theorem a1w {pin:Nat→Bool} (h:TAok K ts as):TIok K pin (iRev K ts) (aRvd pin as):=by
 intro F σ ρ H q Rk r ha k
 refine h F σ ρ H _ _ r ha fun rs ρ1 vs H1 h1 r1 i1 k1=>?_
 split at h1
 ·obtain ⟨x,rfl,ix⟩:=i1.one
  split at h1
  ·rename_i ds c e1
   obtain ⟨l1,us1,rfl,s1,w1⟩:=s0t r1 ix e1
   obtain ⟨v0,z0,rd0⟩:=w1 σ ρ1 H1 (Same.refl _) r1.sl (fun _ _ _ e=>e) (w0d e1)
   refine ⟨l1,v0,rfl,z0,k _ _ _ _ _ h1 r1 k1 fun σ2 ρ2 H2 sm sv pn al hc=>?_⟩
   obtain ⟨v1,z1,rd1⟩:=w1 σ2 ρ2 H2 sm sv pn hc
   have:=h1j z1 rd1
   rw [rd1.length,← rd0.length] at this
   exact this
  ·exact h1.elim
 ·exact h1.elim
end
theorem q0i {prog:Program} {w:World} {A:Around} (hh:A.handled = none) (it l:Addr) (hne:l ≠ it) (xs:Array Value) :
  Draws prog w A it [it,l] xs.size (fun i v=>xs[i]? = some v) (fun i h=>h.IsTupleIter it l i∧h.IsTuple l xs) where
 live:=fun _ _ st=>let ⟨o,ho,_⟩:=st.1; ⟨o,ho⟩
 frame:=fun _ _ _ st hk=>(o0c (prog:=prog) (w:=w) hne).keep _ _ _ st fun b o hb e=>hk b hb o e
 item:=fun i s Q E hi st hQ=>(o0c hne).item A i s xs[i] Q E st (by simp [hi]) fun h' st' sb=>hQ _ h' s.toks (by simp [hi]) st' sb
 done:=fun s Q E st hE=>(o0c hne).fin A xs.size s Q E hh st (by simp) hE
open AutoSeq1 (wpAny_loadPart') in
theorem r0x (l:Addr) (xs:Array Value) :
  Meets (Builtin.«enumerate.__new__» ⟨[.type "enumerate",.ref l],[]⟩) (fun _ R s=>s.heap.IsTuple l xs ∧
   R (.ok (.ret (.ref (s.heap.push { cls:=.type "tuple_iterator",data:=.fields #[.ref l,.int 0 0] }).objs.size)))
    { s with heap:=(s.heap.push { cls:=.type "tuple_iterator",data:=.fields #[.ref l,.int 0 0] }).push { cls:=.type "enumerate",data:=.fields #[.none,.bool false,.ref s.heap.objs.size,rawInt 0,.none,.none] } }) :=
 .of_wp fun prog w A R s h=>by
  obtain ⟨hp,g,d,tk,os⟩:=s; obtain ⟨hl,h⟩:=h
  have hsub:=sub_enumerate
  have hL:Heap.IsTuple (Shared.heap ⟨hp,g,d,tk,os⟩) l xs:=hl
  wp_walk
  refine wpAny_stack_any fun st=>wpAny_pure ?_
  split
  ·rename_i c _ _ _ _ _
   cases (c == Value.type "enumerate")
   ·wp_walk using wpAny_pyIter_tuple hL
    exact ⟨_,rfl,h⟩
   ·wp_walk using wpAny_pyIter_tuple hL
    exact ⟨_,rfl,h⟩
  ·wp_walk using wpAny_pyIter_tuple hL
   exact ⟨_,rfl,h⟩
theorem v0w {prog:Program} {w:World} {A:Around} {E:Value→Shared→Prop} {s:Shared} {l:Addr} {xs:Array Value} {Q:Value→Shared→Prop} (hL:s.heap.IsTuple l xs)
  (h:∀ h',IsEnum h' (s.heap.objs.size + 1) s.heap.objs.size 0 .none→h'.IsTupleIter s.heap.objs.size l 0→h'.objs.size = s.heap.objs.size + 2 →
   (∀ b o,s.heap.get? b = some o→h'.get? b = some o)→Q (.ref (s.heap.objs.size + 1)) { s with heap:=h' }) :
  wpAny (model prog w) A (call (.type "enumerate") [.ref l]) Q E s:=by
 refine callType_new F.called_enumerate (by decide) (F.typeCall_enumerate_1 _) (F.newCall_enumerate_1 _) (fun obj=>F.args_object_init_2 obj _) F.entry_enumerate_new
  (r0x l xs) ⟨hL,?_⟩
 have hz:(s.heap.push { cls:=.type "tuple_iterator",data:=.fields #[.ref l,.int 0 0] }).objs.size = s.heap.objs.size + 1:=Heap.size_push ..
 show _∧_
 rw [hz]
 have he:IsEnum ((s.heap.push { cls:=.type "tuple_iterator",data:=.fields #[.ref l,.int 0 0] }).push
   { cls:=.type "enumerate",data:=.fields #[.none,.bool false,.ref s.heap.objs.size,rawInt 0,.none,.none] }) (s.heap.objs.size + 1) s.heap.objs.size 0 .none:=by
  have:=Heap.get?_push_size (s.heap.push { cls:=.type "tuple_iterator",data:=.fields #[.ref l,.int 0 0] })
   (o:={ cls:=.type "enumerate",data:=.fields #[.none,.bool false,.ref s.heap.objs.size,rawInt 0,.none,.none] }) rfl
  rw [hz] at this; exact this
 refine ⟨⟨_,he,rfl⟩,h _ he ⟨_,Heap.get?_push_of_some _ (Heap.get?_push_size _ rfl),rfl,rfl⟩ (by rw [Heap.size_push,hz]) fun b o x=>Heap.get?_push_of_some _ (Heap.get?_push_of_some _ x)⟩
def Itf (K:PySem.W.Frag) (l:Addr) (n:Nat):It :=
 ⟨fun i H=>∃ xs x,SqT K H l xs∧xs.length = n∧xs[i]? = some x,fun i H v H'=>∃ p x,v = .ref p∧H p = none∧H' = upd H p (.tup [.int (i:Nat),x])∧∀ xs,SqT K H l xs→xs[i]? = some x,
  fun i H=>n ≤ i∧∃ xs,SqT K H l xs∧xs.length = n⟩
theorem u0s {P:Program} {w:World} {K:PySem.W.Frag} {elts:List Expr} {x1} {tpos:Pos} {e it l:Addr} {n:Nat} (ne:e ≠ it) (nl:l ≠ it) (nel:e ≠ l) :
  Turn P w K (.Tuple elts x1 tpos) (Itf K l n) [e,it] e (fun i h=>((∃ old,IsEnum h e it (i:Nat) old)∧h.IsTupleIter it l i)∧i ≤ n) where
 mem:=by simp
 obj:=fun i h st b hb=>by
  obtain ⟨⟨⟨old,he⟩,⟨o1,e1,c1,d1⟩⟩,_⟩:=st
  simp only [List.mem_cons,List.not_mem_nil,or_false] at hb
  rcases hb with rfl | rfl
  ·exact ⟨_,he,fun v q=>by cases q⟩
  ·exact ⟨o1,e1,fun v q=>by rw [d1] at q; cases q⟩
 keep:=fun i h h' st k=>by
  obtain ⟨⟨⟨old,he⟩,h1⟩,hi⟩:=st
  exact ⟨⟨⟨old,k e (by simp) _ he⟩,h1.at fun o q=>k it (by simp) o q⟩,hi⟩
 item:=by
  intro X hP hw hK hc i pins s σ H E I hf st hg
  subst hP hw hK
  obtain ⟨xs,x,q1,hln,hx⟩:=hg
  obtain ⟨⟨⟨old,he⟩,h1⟩,hin⟩:=st
  obtain ⟨its,rv,p1,_⟩:=I.tuple q1
  have hxi:=(List.getElem?_eq_some_iff.mp hx).1
  obtain ⟨u,hu,ru⟩:=rv.get hx
  have hlt:i < its.toArray.size:=by rw [List.size_toArray]; exact (List.getElem?_eq_some_iff.mp hu).1
  refine wpAny_pyNext_enum_itemD (q0i (show X.A.in1.handled = none from I.ok.hd hc) it l nl its.toArray) he ⟨h1,p1⟩ hlt ne (by simp [ne,nel]) fun y h' tk hy a1 a2 a3 a4 hk=>?_
  have ey:y = u:=by
   have hy':its[i]? = some y:=by simpa using hy
   rw [hu] at hy'; cases hy'; rfl
  subst ey
  refine ⟨_,rfl,wpAny_letOwnedTupleGo_enum (s:={ s with heap:=h',toks:=tk + 1 }) a1 fun h2' he' hs'=>?_⟩
  have hs2:Heap.SameBut e h' h2':=hs'
  have ls:∀ {b o},s.heap.get? b = some o→b ≠ s.heap.objs.size:=fun e=>Nat.ne_of_lt (Heap.lt_size e)
  have es:e ≠ s.heap.objs.size:=ls he
  have up:∀ b o,b ∉ [e,it]→s.heap.get? b = some o→h2'.get? b = some o:=fun b o hb q=>by
   simp only [List.mem_cons,List.not_mem_nil,or_false,not_or] at hb
   exact (hs2.2 b hb.1).trans (hk b o hb.1 hb.2 q)
  have I1:Inv X pins σ H { s with heap:=h2',toks:=tk + 1 }:=I.turns (t':=tk + 1) up hf
  have fp:FpOk X pins H s.heap.objs.size:=I.fpOk (Nat.le_refl _) (I.hok.fresh (Nat.le_refl _))
  have g:h2'.get? s.heap.objs.size = some { cls:=.type "tuple",data:=.seq #[.int i tk,y] }:=(hs2.2 _ (Ne.symm es)).trans a3
  have I2:=I1.trackO (o:=.tup [.int (i:Nat),x]) fp ⟨by show 2 ≤ sizeLine; decide,[.int i tk,y],.cons ⟨_,rfl⟩ (.cons ru .nil),_,g,rfl,_,rfl⟩
  refine ⟨.ref s.heap.objs.size,upd H s.heap.objs.size (.tup [.int (i:Nat),x]),I2,rfl,⟨_,x,rfl,fp.1,rfl,fun zs hz=>by rw [I.tuple_inj hz q1]; exact hx⟩,?_,fun b hb=>?_⟩
  ·refine ⟨⟨⟨y,by simpa using he'⟩,?_⟩,by omega⟩
   obtain ⟨o,q,r⟩:=a2.1; exact ⟨o,(hs2.2 it (Ne.symm ne)).trans q,r⟩
  ·have hb':=(hf b hb).1
   have ne':b ≠ s.heap.objs.size:=by
    obtain ⟨o1,e1,_⟩:=h1
    simp only [List.mem_cons,List.not_mem_nil,or_false] at hb
    rcases hb with rfl | rfl
    ·exact ls he
    ·exact ls e1
   rw [a0l ne']; exact hb'
 done:=by
  intro X hP hw hK hc i pins s σ H E I hf st hg
  subst hP hw hK
  obtain ⟨hni,xs,q1,hl⟩:=hg
  obtain ⟨⟨⟨old,he⟩,h1⟩,hin⟩:=st
  obtain ⟨its,rv,p1,_⟩:=I.tuple q1
  have l1:=rv.length
  have ei:i = its.toArray.size:=by rw [List.size_toArray]; omega
  subst ei
  refine wpAny_pyNext_enum_endD (q0i (show X.A.in1.handled = none from I.ok.hd hc) it l nl its.toArray) he ⟨h1,p1⟩ fun h' hk=>⟨rfl,I.turns (ch:=[e,it]) (t':=s.toks) (fun b o hb q=>?_) hf⟩
  simp only [List.mem_cons,List.not_mem_nil,or_false,not_or] at hb
  exact hk b o hb.2 q
 self:=fun _ _ _ _ _ st h=>by obtain ⟨⟨⟨old,he⟩,_⟩,_⟩:=st; exact wpAny_pyIter_enum he h
def d1q (K:PySem.W.Frag) (t:TA):TI:=fun σ H R=>t σ H fun vs H1=>∃ l xs,vs = [.ref l]∧SqT K H1 l xs∧R (Itf K l xs.length) H1
theorem b1h (K:PySem.W.Frag) {X:Cx} {elts:List Expr} {x1} {tpos:Pos} {a:Expr} {ta:TA} {p pos:Pos} (hg:Gl X "enumerate") (hm:X.mg "enumerate" = none) (ha:PA X [a] ta) (hK:X.K = K:=by rfl) (hs:starEach [a] X.env = [(false,eval a X.env)]:=by rfl) :
  PI X (.Tuple elts x1 tpos) (.Call (.Name "enumerate" p) [a] [] pos) (d1q K ta):=by
 subst hK
 intro pins s σ H R I h
 refine Call_ (l0g I hg hm j0h (PyProof.Rows.callWith_type1 (thn (ha pos pins s σ H _ I h) fun us s1 ⟨vs,H1,I1,r1,q1⟩=>?_) hs rfl))
 obtain ⟨l,xs,rfl,h1,q⟩:=q1
 obtain ⟨u,rfl,ru⟩:=o0p r1
 cases ru
 obtain ⟨its,_,p1,_⟩:=I1.tuple h1
 have lt:l < s1.heap.objs.size:=by obtain ⟨o,e,_⟩:=id p1; exact Heap.lt_size e
 refine v0w p1 fun h' he hi hsz hk=>?_
 refine wpAny_pyIter_enum he ?_
 refine ⟨_,_,_,_,H1,rfl,I1.kept (t':=s1.toks) hk,u0s (show s1.heap.objs.size + 1 ≠ s1.heap.objs.size by omega) (Nat.ne_of_lt lt) (Ne.symm (Nat.ne_of_lt (Nat.lt_succ_of_lt lt))),⟨⟨⟨_,he⟩,hi⟩,Nat.zero_le _⟩,fun b hb=>?_,q⟩
 have le:s1.heap.objs.size ≤ b:=by
  simp only [List.mem_cons,List.not_mem_nil,or_false] at hb
  rcases hb with rfl | rfl <;> omega
 exact I1.fpOk le (I1.hok.fresh le)
section
variable {K:PySem.W.Frag} {ts:TA} {as:AA}
theorem a1n {S:Addr→Prop} {H:Hp} {l:Addr} {vs:List V} {ds:List D} (al:∀ a,S a→H a ≠ none) (h1:SqT K H l vs) (r1:RepDs K (hid H S) vs ds):WkAt K S H (Itf K l vs.length) (j0m 0 ds):=by
 intro k
 constructor
 ·intro d e
  obtain ⟨x,ex,rfl⟩:=g0p e
  rw [Nat.zero_add]
  obtain ⟨v,e1,rv⟩:=r1.get ex
  refine ⟨⟨vs,v,h1,rfl,e1⟩,fun z H' ⟨p,a,ez,hp,eH,ha⟩=>?_⟩
  have a1:=ha vs h1
  rw [e1] at a1
  cases a1
  subst eH ez
  have sm:Same H (upd H p (.tup [.int (k:Nat),v])):=(Same.refl H).new hp
  have sm':Same (hid H S) (hid (upd H p (.tup [.int (k:Nat),v])) S):=b0k fun a o e n=>⟨sm a o e,n⟩
  refine ⟨sm,?_⟩
  unfold RepD
  exact ⟨p,[.int (k:Nat),v],rfl,(f0h (fun z=>al p z hp) a0v),.cons (by unfold RepD; rfl) (.cons (rv.same sm') .nil)⟩
 ·intro z
  rw [f0j] at z
  exact ⟨by rw [r1.length]; exact z,vs,h1,rfl⟩
def k1e (as:AA):AI:=fun ρ q=>as ρ fun rs ρ1=>match rs with
 | [.d (.tup ds)]=>q (j0m 0 ds) (fun _=>True) ρ1
 | _=>False
theorem u0v {pin:Nat→Bool} (h:TAok K ts as):TIok K pin (d1q K ts) (k1e as):=by
 intro F σ ρ H q Rk r ha k
 refine h F σ ρ H _ _ r ha fun rs ρ1 vs H1 h1 r1 i1 k1=>?_
 split at h1
 ·rename_i ds
  obtain ⟨x,rfl,ix⟩:=i1.one
  have rd:RepD K _ x (.tup ds):=ix
  unfold RepD at rd
  obtain ⟨a,vs,rfl,sq,rd⟩:=rd
  refine ⟨a,vs,rfl,c0j.seqT sq.sq,k _ _ _ _ _ h1 r1 k1 fun σ2 ρ2 H2 sm sv pn al hc=>?_⟩
  exact a1n (fun a z=>(al a z).1) (c0j.seqT (sm.seqT sq.sq)) (rd.same sm)
 ·exact h1.elim
end
end L2
namespace L2
open PySem PySem.Spec PyProof.Rows PySem.W
section
variable {prog:Program} {w:World} {A:Around} {E:Value→Shared→Prop} {h:Heap} {g:Array GenState} {d:Drawn} {t:Nat} {os:OsState}
variable {nm q:Str} {C N:Addr} {bs bm bmB:List Value} {hdct:Bool} {sn:List Str} {sub:List Value} {ab:Bool} {col:Option Bool} {dd:Option Addr} {k0 k1 k2 k3 k5:Option Value} {B newId initId:String}
theorem m0a (F:ExcBaseFacts B newId initId bmB) (T:OwnTail h bmB bm) {mN:Str→Option Value} {rest:List Value} {fI:Addr} {oI:Obj} {Q:Fin→Shared→Prop}
  (hC:h.get? C = some (excClassObj nm q C N bs bm hdct sn sub ab col dd k0 k1 k2 k3 k5 newId)) (hn:h.Ns N mN) (hi:mN "__init__" = some (.ref fI)) (hfI:h.get? fI = some oI) (hfc:oI.cls = .type "function")
  (hq:∀ h' e,Heap.MadeExcOf h h' e (.ref C) rest→wpAny (model prog w) A (call (.ref fI) (.ref e :: rest)) (fun r s'=>r = .none∧Q (.done (.ret (.ref e))) s') E ⟨h',g,d,t,os⟩) (hrest:rest.length ≤ sizeLine) :
  wpAny (model prog w) A (Builtin.«type.__call__» ⟨.ref C :: rest,[]⟩) Q E ⟨h,g,d,t,os⟩:=by
 repeat (first | with_reducible refine wpAny_loadPart_at hC ?_ | with_reducible refine wpAny_madeBy_exc hC ?_ | wp_step)
 refine codeAny_call_builtin_code (Code.quiet_builtin _ F.quiet) (wpAny_check_new_subT F T hC ?_)
 refine codeAny_exc_new_subT F T hC ?_ hrest
 show wpAny _ _ _ _ _ _
 have hC₁:=Heap.get?_push_of_some { cls:=.ref C,data:=.fields #[.ref h.objs.size,.none,.none,.none,.bool false,.none] }
  (Heap.get?_push_of_some { cls:=.type "tuple",data:=.seq rest.toArray } hC)
 have hfI₁:=Heap.get?_push_of_some { cls:=.ref C,data:=.fields #[.ref h.objs.size,.none,.none,.none,.bool false,.none] }
  (Heap.get?_push_of_some { cls:=.type "tuple",data:=.seq rest.toArray } hfI)
 have hn₁:((h.push { cls:=.type "tuple",data:=.seq rest.toArray }).push { cls:=.ref C,data:=.fields #[.ref h.objs.size,.none,.none,.none,.bool false,.none] }).Ns N mN :=
  let ⟨o,es,ep,e,r⟩:=hn; ⟨o,es,ep,Heap.get?_push_of_some _ (Heap.get?_push_of_some _ e),r⟩
 have hget:((h.push { cls:=.type "tuple",data:=.seq rest.toArray }).push
   { cls:=.ref C,data:=.fields #[.ref h.objs.size,.none,.none,.none,.bool false,.none] }).get? (h.objs.size + 1) = some
   { cls:=.ref C,data:=.fields #[.ref h.objs.size,.none,.none,.none,.bool false,.none] }:=by heap_get
 have hcC:(Value.ref C :: bm).contains (.ref C) = true:=by simp
 have T₁:=T.keeps (h':=(h.push { cls:=.type "tuple",data:=.seq rest.toArray }).push { cls:=.ref C,data:=.fields #[.ref h.objs.size,.none,.none,.none,.bool false,.none] })
  fun b o e=>Heap.get?_push_of_some _ (Heap.get?_push_of_some _ e)
 unfold isInstance
 repeat (first | with_reducible refine wpAny_loadPart_at hget ?_ | (with_reducible refine wpAny_isSubtype_exc hC₁ ?_; rw [hcC]) | wp_step)
 show wpAny _ _ (typeLookup (.ref C) _) _ _ _
 refine wpAny_typeLookup_tail hC₁ hn₁ T₁ F.mroIs F.init.lookup ?_
 rw [hi]
 refine wpAny_holding (wpAny_bind ?_)
 unfold bindSpecial
 refine wpAny_bind (wpAny_typeOf (T := "function") ⟨_,hfI₁,hfc⟩ ?_)
 rw [if_pos (by decide)]
 refine wpAny_pure (wpAny_bind (wpAny_mono (hq _ (h.objs.size + 1) ⟨fun b o hb=>Heap.get?_push_of_some _ (Heap.get?_push_of_some _ hb),Heap.get?_none_of_le (Nat.le_succ _),h.objs.size,hget,Heap.get?_none_of_le (Nat.le_refl _),?_⟩) (fun r s' hr=>?_) fun _ _ x=>x))
 ·exact Heap.get?_push_of_some _ (Heap.get?_push_at rfl rfl)
 ·obtain ⟨rfl,hQ⟩:=hr
  wp_walk
  exact hQ
theorem a1a (F:ExcBaseFacts B newId initId bmB) (T:OwnTail h bmB bm) {mN:Str→Option Value} {rest:List Value} {fI:Addr} {oI:Obj} {Q:Value→Shared→Prop}
  (hC:h.get? C = some (excClassObj nm q C N bs bm hdct sn sub ab col dd k0 k1 k2 k3 k5 newId)) (hn:h.Ns N mN) (hi:mN "__init__" = some (.ref fI)) (hfI:h.get? fI = some oI) (hfc:oI.cls = .type "function")
  (hq:∀ h' e,Heap.MadeExcOf h h' e (.ref C) rest→wpAny (model prog w) (A.under (.builtin "type.__call__" ⟨.ref C :: rest,[]⟩)) (call (.ref fI) (.ref e :: rest)) (fun r s'=>r = .none∧Q (.ref e) s') E ⟨h',g,d,t,os⟩) (hrest:rest.length ≤ sizeLine) :
  wpAny (model prog w) A (call (.ref C) rest) Q E ⟨h,g,d,t,os⟩:=by
 have f1:=tc_lookup
 have f2:=tc_bind (.ref C)
 have hT:(⟨h,g,d,t,os⟩:Shared).TypeIs (.ref C) "type" := ⟨_,hC,rfl⟩
 refine wpAny_call (codeAny_of_tree ?_)
 show wpAny _ _ (callAny (.ref C) _) _ _ _
 repeat (any_goals (first | assumption | with_reducible refine wpAny_loadPart_at hC ?_ | wp_step))
 refine ⟨rfl,?_⟩
 refine codeAny_call_builtin_at (Code.quiet_builtin _ (by decide +kernel)) entry_typeCall (wpAny_check_type_call_sub hC (m0a (hrest:=hrest) F T hC hn hi hfI hfc fun h' e hm=>?_))
 exact hq h' e hm
end
section
variable {M:Model} {A:Around} {E:Value→Shared→Prop} {env:Env}
variable {nm q:Str} {C N:Addr} {bs bm:List Value} {hdct:Bool} {sn:List Str} {sub:List Value} {ab:Bool} {col:Option Bool} {dd:Option Addr} {k0 k1 k2 k3 k5:Option Value} {newId:String}
theorem m0b {s:Shared} {x:Sem Value} {Q:Flow→Shared→Prop} (hbase:bm.contains (.type "BaseException") = true) (hh:A.handled = none)
  (h:wpAny M A x (fun v s₁=>∃ e t od,v = .ref e∧s₁.heap.get? C = some (excClassObj nm q C N bs bm hdct sn sub ab col dd k0 k1 k2 k3 k5 newId) ∧
   s₁.heap.get? e = some { cls:=.ref C,dict:=od,data:=.fields #[.ref t,.none,.none,.none,.bool false,.none] }∧E (.ref e) s₁) E s) :
  wpAny M A (raiseStmt env (some x) none) Q E s:=by
 have hcB:(Value.ref C :: bm).contains (.type "BaseException") = true:=by rw [List.contains_cons,hbase,Bool.or_true]
 unfold raiseStmt
 refine wpAny_bind (wpAny_mono h (fun v s₁ h₁=>?_) fun _ _ x=>x)
 obtain ⟨e,t,od,rfl,hC,he,hE⟩:=h₁
 obtain ⟨hp,g,d,tk,os⟩:=s₁
 repeat (first | with_reducible refine wpAny_loadPart_at he ?_ | with_reducible refine wpAny_loadPart_at hC ?_ | (with_reducible refine wpAny_isSubtype_exc hC ?_; rw [hcB]) | wp_step)
 exact wpAny_raiseNew_none hh hE
end
section
variable {prog:Program} {w:World} {A:Around} {E:Value→Shared→Prop} {s:Shared} {env:Env}
variable {nm q:Str} {C N:Addr} {bs bm bmB:List Value} {hdct:Bool} {sn:List Str} {sub:List Value} {ab:Bool} {col:Option Bool} {dd:Option Addr} {k0 k1 k2 k3 k5:Option Value} {B newId initId:String}
theorem l0z (F:ExcBaseFacts B newId initId bmB) {mN:Str→Option Value} {x:Str} {np cpos pos:Pos} {args:List Expr} {Q:Flow→Shared→Prop} {fI:Addr} {oI:Obj}
  (hbase:bm.contains (.type "BaseException") = true) (hh:A.handled = none) (hplain:(backTo cpos (starEach args env)).any (·.1) = false) (hi:mN "__init__" = some (.ref fI)) (hfc:oI.cls = .type "function")
  (h:wpAny (model prog w) A (eval (.Name x np) env) (fun f s₁=>f = .ref C∧wpAny (model prog w) A (evalArgs (.ref C) true (backTo cpos (starEach args env)) [])
   (fun a s₂=>a.kw = []∧a.pos.length ≤ sizeLine∧s₂.heap.get? C = some (excClassObj nm q C N bs bm hdct sn sub ab col dd k0 k1 k2 k3 k5 newId)∧s₂.heap.Ns N mN∧OwnTail s₂.heap bmB bm∧s₂.heap.get? fI = some oI ∧
    ∀ h' e,Heap.MadeExcOf s₂.heap h' e (.ref C) a.pos→wpAny (model prog w) (A.under (.builtin "type.__call__" ⟨.ref C :: a.pos,[]⟩)) (call (.ref fI) (.ref e :: a.pos))
     (fun r s'=>r = .none∧s'.heap.get? C = some (excClassObj nm q C N bs bm hdct sn sub ab col dd k0 k1 k2 k3 k5 newId)∧∃ t od,s'.heap.get? e = some { cls:=.ref C,dict:=od,data:=.fields #[.ref t,.none,.none,.none,.bool false,.none] }∧E (.ref e) s') E { s₂ with heap:=h' }) E s₁) E s) :
  wpAny (model prog w) A (exec (.Raise (some (.Call (.Name x np) args [] cpos)) none pos) env) Q E s:=by
 rw [arm_exec_Raise]
 refine wpAny_bind (wpAny_standAt (m0b (C:=C) (nm:=nm) (q:=q) (N:=N) (bs:=bs) (bm:=bm) (hdct:=hdct) (sn:=sn) (sub:=sub) (ab:=ab) (col:=col) (dd:=dd) (k0:=k0) (k1:=k1) (k2:=k2) (k3:=k3) (k5:=k5) (newId:=newId) hbase hh (wpAny_bind (wpAny_mono (wpAny_Call_ofName (wpAny_mono h (fun f s₁ h₁=>?_) fun _ _ x=>x)) (fun v s₃ h₃=>wpAny_bind (wpAny_standAt (wpAny_pure h₃))) fun _ _ x=>x))))
 obtain ⟨rfl,h₁⟩:=h₁
 unfold callWith
 refine wpAny_bind (wpAny_holding (wpAny_mono h₁ (fun a s₂ h₂=>wpAny_bind (wpAny_standAt ?_)) fun _ _ x=>x))
 obtain ⟨apos,akw⟩:=a
 obtain ⟨hkw,hlen,hC,hn,T,hfI,h₂⟩:=h₂
 obtain rfl:akw = []:=hkw
 obtain ⟨hp,g,d,tk,os⟩:=s₂
 simp only [hplain]
 refine wpAny_bind (wpAny_keeperOf_exc hC ?_)
 refine wpAny_bind (a1a (hrest:=hlen) F T hC hn hi hfI hfc fun h' e hm=>wpAny_mono (h₂ h' e hm) (fun r s' ⟨hr,hC',t,od,he,hE⟩=>⟨hr,?_⟩) fun _ _ x=>x)
 exact wpAny_bind (wpAny_holding (wpAny_point (wpAny_pure ⟨e,t,od,rfl,hC',he,hE⟩)))
end
end L2
namespace L2
open PySem PySem.Spec PyProof.Rows PySem.W Builtin Builtin.ObjectAttr
theorem r0c {h:Heap} {bmB l:List Value} (T:OwnTail h bmB l) (self:Value) (what:Str):refuseLoop self what l = refuseLoop self what bmB:=by
 induction T with
 | base=>rfl
 | own _ _ _ _ ih=>rw [refuseLoop_ref,ih]
section
variable {prog:Program} {w:World} {A:Around} {E:Value→Shared→Prop} {h:Heap} {g:Array GenState} {d:Drawn} {t:Nat} {os:OsState} {K:PySem.W.Frag}
variable {nm q:Str} {C N x:Addr} {bs bm:List Value} {sn:List Str} {sub:List Value} {ab:Bool} {col:Option Bool} {dd:Option Addr} {k0 k1 k2 k3 k5:Option Value} {newId:String} {hdct:Bool} {name:Str} {v:Value} {o:Obj}
theorem a1f (T:OwnTail h bmV bm) {u:Value} {od:Option Addr} {t0:Addr} {Q:Value→Shared→Prop} (hC:h.get? C = some (excClassObj nm q C N bs bm hdct sn sub ab col dd k0 k1 k2 k3 k5 "ValueError.__new__"))
  (he:h.get? x = some { cls:=.ref C,dict:=od,data:=.fields #[.ref t0,.none,.none,.none,.bool false,.none] })
  (hq:∀ h',(∀ b ob,b ≠ x→h.get? b = some ob→h'.get? b = some ob)→(∃ t1,h'.get? x = some { cls:=.ref C,dict:=od,data:=.fields #[.ref t1,.none,.none,.none,.bool false,.none] })→Q .none ⟨h',g,d,t,os⟩) :
  wpAny (model prog w) A (call (.builtin "ValueError.__init__") [.ref x,u]) Q E ⟨h,g,d,t,os⟩:=by
 have F:=PySem.F.excBase_ValueError
 refine wpAny_call (codeAny_call_builtin F.init.plain F.initEntry (wpAny_check_init_subT F T hC he rfl ?_))
 wp_walk
 refine hq _ (fun b ob ne hb=>?_) ⟨h.objs.size,?_⟩
 ·rw [Heap.get?_update_other _ _ (Ne.symm ne)]
  exact Heap.get?_push_of_some _ hb
 ·rw [Heap.get?_update_self _ (Heap.get?_push_of_some _ he) rfl]
  rfl
theorem z0y {M:Model} {nameV:Value} {Q:Unit→Shared→Prop} (T:OwnTail h bmV bm) (hC:h.get? C = some (excClassObj nm q C N bs bm hdct sn sub ab col dd k0 k1 k2 k3 k5 newId)) (hx:h.get? x = some o) (hc:o.cls = .ref C) (hq:Q () ⟨h,g,d,t,os⟩) :
  wpAny M A (checkBuiltinCall "object.__setattr__" ⟨[.ref x,nameV,v],[]⟩) Q E ⟨h,g,d,t,os⟩:=by
 have SF:=PySem.F.store_ValueError
 have hcB:(Value.ref C :: bm).contains (.type "object") = true:=by rw [List.contains_cons,T.hasType SF.hasOwner,Bool.or_true]
 have ha:=SF.args (.ref x) nameV v
 simp only [checkBuiltinCall,SF.kind,SF.split]
 refine wpAny_bind ?_
 ·unfold isInstance
  repeat (first | (with_reducible refine wpAny_loadPart_at hx ?_; rw [hc]) | (with_reducible refine wpAny_isSubtype_exc hC ?_; rw [hcB]) | wp_step)
  exact hq
theorem e1v {Q:Unit→Shared→Prop} (KX:K.In h) (T:OwnTail h bmV bm) (hC:h.get? C = some (excClassObj nm q C N bs bm true sn sub ab col dd k0 k1 k2 k3 k5 newId))
  (hsa:findIn K (.ref C) "__setattr__" = some (some (.builtin "object.__setattr__"))) (hna:findIn K (.ref C) name = some none) (hx:h.get? x = some o) (hc:o.cls = .ref C) (hdn:o.dict = none) (hnc:∀ c,o.data ≠ .cls c)
  (hq:∀ h' dx tk',h.get? dx = none→dx ≠ x→h.objs.size ≤ dx→h'.get? x = some { o with dict:=some dx }→h'.Ns1 dx (fun y=>if y = name then some v else none)→(∀ b ob,b ≠ x→h.get? b = some ob→h'.get? b = some ob)→Q () ⟨h',g,d,tk',os⟩) :
  wpAny (model prog w) A (setAttr (.ref x) name v) Q E ⟨h,g,d,t,os⟩:=by
 have SF:=PySem.F.store_ValueError
 have f3:=SF.slot.bind (.ref x)
 have L1:=looks_findIn (M:=model prog w) KX hsa
 have L2:=looks_findIn (M:=model prog w) KX hna
 have hpass:=SF.passes (.ref x)
 have hcB:(Value.ref C :: bm).contains (.type "object") = true:=by rw [List.contains_cons,T.hasType SF.hasOwner,Bool.or_true]
 unfold setAttr callSpecial? specialOf
 repeat (any_goals (first | assumption | (with_reducible refine wpAny_loadPart_at hx ?_; rw [hc]) | with_reducible refine L1.at ?_ | wp_step))
 refine codeAny_call_builtin SF.slot.plain SF.entry ?_
 have core:wpAny (model prog w) A.in1 (Builtin.«object.__setattr__» ⟨[.ref x,.str name t,v],[]⟩) (fun fin s'=>fin = .done (.ret .none)∧Q () s') (fun _ _=>False) ⟨h,g,d,t + 1,os⟩:=by
  unfold Builtin.«object.__setattr__»
  repeat (first | rw [refuse_eq] | (rw [refuseLoop_ref,r0c T,hpass]) | (with_reducible refine wpAny_loadPart_at hx ?_; rw [hc]) | with_reducible refine wpAny_mroOf_exc hC ?_ | with_reducible refine L2.at ?_ | wp_step)
  rw [hdn,if_neg (by simp [typeHasDict])]
  split
  ·rename_i hcd
   cases hcd
  split
  ·rename_i c hcd
   exact absurd hcd (hnc c)
  ·have hx₁:(h.push { cls:=.type "dict",data:=.dict #[] }).get? x = some o:=Heap.get?_push_of_some _ hx
   have hxs:x ≠ h.objs.size:=Nat.ne_of_lt (Heap.lt_size hx)
   refine wpAny_bind (wpAny_alloc' ?_)
   refine wpAny_bind (wpAny_update' hx₁ ?_)
   refine wpAny_pure ?_
   have hgd:((h.push { cls:=.type "dict",data:=.dict #[] }).update x fun o=>{ cls:=o.cls,dict:=some h.objs.size,data:=o.data,slots:=o.slots }).get? h.objs.size
     = some { cls:=.type "dict",data:=.dict #[] } :=
    (Heap.get?_update_ne _ _ _ _ hxs.symm).trans (Heap.get?_push_at rfl rfl)
   have hnd:((h.push { cls:=.type "dict",data:=.dict #[] }).update x fun o=>{ cls:=o.cls,dict:=some h.objs.size,data:=o.data,slots:=o.slots }).Ns h.objs.size (fun _=>none) :=
    ⟨_,#[],_,hgd,rfl,fun e he=>absurd he (by simp),fun _=>rfl⟩
   show wpAny _ _ (storeInDict h.objs.size (.str name t) name v) _ _ _
   unfold storeInDict newKeyGuard
   refine wpAny_bind (wpAny_pure (wpAny_bind (wpAny_nsSet1 (Heap.Ns1.of_empty hnd) fun h' hn' hs=>?_)))
   obtain ⟨oD,esD,epD,hoD,hdD,hcD⟩:=hn'.count (Within.cons name v Within.nil)
   refine wpAny_bind (wpAny_lookBehind hoD (by rw [hdD]; exact pastItsLine_dict (Nat.le_trans hcD (by rw [List.length_cons,List.length_nil,sizeLine_eq]; omega))) ?_)
   wp_walk
   refine ⟨rfl,hq h' h.objs.size _ (Heap.get?_none_of_le (Nat.le_refl _)) hxs.symm (Nat.le_refl _) ?_ hn' fun b ob hbx hb=>?_⟩
   ·refine (hs.2 x hxs).trans (Heap.get?_update_self _ hx₁ ?_)
    have hfr:=(Heap.get?_some_iff.mp hx).2
    obtain ⟨oc,od,odt,osl⟩:=o
    cases odt <;> first | rfl | exact hfr
   ·exact (hs.2 b (Nat.ne_of_lt (Heap.lt_size hb))).trans ((Heap.get?_update_ne _ _ _ _ hbx).trans (Heap.get?_push_of_some _ hb))
 refine z0y T hC hx hc (wpAny_mono core (fun fin s' ⟨z1,z2⟩=>?_) fun _ _ z=>z.elim)
 subst z1
 repeat (any_goals (first | assumption | wp_step))
end
end L2
namespace L2
open PySem PySem.Spec PyProof.Rows PySem.W
def exI (e C:Addr) (od:Option Addr):Heap→Prop:=fun h=>∃ t,h.get? e = some { cls:=.ref C,dict:=od,data:=.fields #[.ref t,.none,.none,.none,.bool false,.none] }
theorem exI.ok {P:Program} {w:World} {H:Hp} {h:Heap} {e C:Addr} {od:Option Addr} (q:exI e C od h):d0a P w H h e (.ext (exI e C od)) :=
 ⟨q,let ⟨t,g⟩:=q; ⟨_,g⟩,fun h1 h2 ⟨t,g⟩ k=>⟨t,k _ g⟩⟩
def l0m (K:PySem.W.Frag) (C fI:Addr):Bool:=match K.lookup C with
 | some ⟨.type "type",_,.cls cd,sl⟩=>(match cd.mro,sl.toList with
  | .ref C' :: bm,[_,_,_,_,some (.builtin n),_]=>C' == C && n == "ValueError.__new__" && !cd.hasDel && PySem.W.tailIn K bmV bm && PySem.W.nsOkIn K cd.ns && PySem.W.nsIn K cd.ns "__init__" == some (some (.ref fI)) && cd.hasDict
  | _,_=>false)
 | _=>false
structure OwnI (C fI:Addr) (h:Heap):Prop where
 obj:∃ bm N nm q bs sn sub ab col dd k0 k1 k2 k3 k5 mN,h.get? C = some (excClassObj nm q C N bs bm true sn sub ab col dd k0 k1 k2 k3 k5 "ValueError.__new__")∧h.Ns N mN∧mN "__init__" = some (.ref fI)∧OwnTail h bmV bm
theorem v0e {K:PySem.W.Frag} {h:Heap} {N:Addr} {mg:Str→Option Value} {n:Str} {v:Value} (X:K.In h) (G:h.Ns N mg) (e:nsIn K N n = some (some v)):mg n = some v:=by
 obtain ⟨o,es,ep,ho,hd,_,hf⟩:=G
 unfold nsIn at e
 split at e
 ·rename_i c d es' n' sl q
  have:=X _ _ q
  rw [ho] at this
  cases this
  cases hd
  split at e
  ·rename_i en he
   cases e
   rw [← hf]
   unfold nsFind findBy
   rw [← Array.find?_toList,he]
   rfl
  ·split at e <;> cases e
 ·cases e
theorem y0e {K:PySem.W.Frag} {h:Heap} {C fI:Addr} (KX:K.In h) (q:l0m K C fI = true):OwnI C fI h:=by
 unfold l0m at q
 split at q
 next dd cd sl lk =>
  split at q
  next C' bm k0 k1 k2 k3 n k5 em es =>
   simp only [Bool.and_eq_true,beq_iff_eq,Bool.not_eq_true'] at q
   obtain ⟨⟨⟨⟨⟨⟨rfl,rfl⟩,nd⟩,tl⟩,nk⟩,ni⟩,hd⟩:=q
   obtain ⟨a1,a2,a3,a4,a5,a6,a7,a8,a9,a10,a11⟩:=cd
   obtain ⟨l⟩:=sl
   dsimp only at em nd nk ni es hd
   subst em nd es hd
   exact ⟨bm,a4,a1,a5,a2,a7,a8,a9,a10,dd,k0,k1,k2,k3,k5,_,KX _ _ lk,.of_isNs (PySem.W.isNs_of_in KX nk),v0e KX (.of_isNs (PySem.W.isNs_of_in KX nk)) ni,PySem.W.tail_of_in KX tl⟩
  ·cases q
 ·cases q
structure v0y (K:PySem.W.Frag) (D:Addr):Prop where
 sp:specialIn K (.ref D) "__getattribute__" = some (some (.builtin "type.__getattribute__"))
 rd:readsIn K D (.type "type") = true
 fc:findCls K (.ref D) (.type "type") "__init__" = some (.val (.builtin "ValueError.__init__"))
structure ExcI (K:PySem.W.Frag) (C fI:Addr) (f:Str):Prop where
 cl:l0m K C fI = true
 fn:typeIn K (.ref fI) = some (.type "function")
 sa:findIn K (.ref C) "__setattr__" = some (some (.builtin "object.__setattr__"))
 na:findIn K (.ref C) f = some none
section
variable {X:Cx} {pins:List (Addr × Obj)} {σ σ1:St} {H H1:Hp} {s s1:Shared} {h':Heap} {e C:Addr}
theorem Inv.track2 {o:HO} (I:Inv X pins σ H s) (ue:H e = none) (y0:X.s₀.heap.get? e = none) (nL:X.env.locals ≠ e) (nC:∀ x c,X.env.cells.lookup x = some c→c ≠ e) (nP:∀ p ∈ X.pn ++ pins,p.1 ≠ e) (new:d0a X.prog X.w (upd H e o) s.heap e o):Inv X pins σ (upd H e o) s:=by
 have ne:∀ {b:Addr} {o:HO},H b = some o→b ≠ e:=fun z w=>by rw [w,ue] at z; cases z
 have n0:∀ b o,X.s₀.heap.get? b = some o→b ≠ e:=fun b o q z=>by rw [z,y0] at q; cases q
 refine ⟨I.ok,I.os,I.bare,⟨I.base.keep,I.base.slot,fun b o q n x=>?_,I.base.there,fun b xs q=>?_,fun b o u q=>?_,fun b ps q=>?_⟩,I.loc,I.cell,?_,fun x c q=>?_,fun p hp'=>?_,fun a o q=>?_,I.len⟩
 ·rw [a0l (n0 b o q)]; exact I.base.free b o q n x
 ·have:=I.base.tups b xs q
  rw [a0l (ne this)]; exact this
 ·have:=I.base.frzs b o u q
  rw [a0l (ne this)]; exact this
 ·obtain ⟨more,this⟩:=I.base.tbls b ps q
  exact ⟨more,by rw [a0l (ne this)]; exact this⟩
 ·rw [a0l nL]; exact I.free
 ·rw [a0l (nC x c q)]; exact I.freeC x c q
 ·obtain ⟨p1,p2,p3,p4,p5⟩:=I.pin p hp'
  exact ⟨p1,by rw [a0l (nP p hp')]; exact p2,p3,p4,p5⟩
 ·by_cases z:a = e
  ·subst z
   rw [a0v] at q
   cases q
   exact new
  ·rw [a0l z] at q
   exact (I.hok a o q).stay (fun _ _ _ w=>w) (fun b w=>by rw [a0l (ne w)]; exact w) fun b xs w=>by rw [a0l (ne w)]; exact w
def rm (H:Hp) (e:Addr):Hp:=fun b=>if b = e then none else H b
theorem x0m:rm H e e = none:=by unfold rm; rw [if_pos rfl]
theorem r0b {b:Addr} (h:b ≠ e):rm H e b = H b:=by unfold rm; rw [if_neg h]
theorem Inv.untrack {φ:Heap→Prop} (I:Inv X pins σ H s) (he:H e = some (.ext φ)) (y0:X.s₀.heap.get? e = none):Inv X pins σ (rm H e) s:=by
 have ne:∀ {b:Addr} {o:HO},H b = some o→(∀ φ,o ≠ .ext φ)→b ≠ e:=fun z n w=>by rw [w,he] at z; cases z; exact n _ rfl
 have nn:∀ b,H b = none→rm H e b = none:=fun b z=>by unfold rm; split <;> first | rfl | exact z
 refine ⟨I.ok,I.os,I.bare,⟨I.base.keep,I.base.slot,fun b o q n x=>nn b (I.base.free b o q n x),I.base.there,fun b xs q=>?_,fun b o u q=>?_,fun b ps q=>?_⟩,I.loc,I.cell,nn _ I.free,fun x c q=>nn _ (I.freeC x c q),fun p hp'=>?_,fun a o q=>?_,I.len⟩
 ·have:=I.base.tups b xs q
  rw [r0b (ne this fun _ z=>nomatch z)]; exact this
 ·have:=I.base.frzs b o u q
  rw [r0b (ne this fun _ z=>nomatch z)]; exact this
 ·obtain ⟨more,this⟩:=I.base.tbls b ps q
  exact ⟨more,by rw [r0b (ne this fun _ z=>nomatch z)]; exact this⟩
 ·obtain ⟨p1,p2,p3,p4,p5⟩:=I.pin p hp'
  exact ⟨p1,nn _ p2,p3,p4,p5⟩
 ·by_cases z:a = e
  ·subst z; rw [x0m] at q; cases q
  ·rw [r0b z] at q
   exact (I.hok a o q).stay (fun _ _ _ w=>w) (fun b w=>by rw [r0b (ne w fun _ z=>nomatch z)]; exact w) fun b xs w=>by rw [r0b (ne w fun _ z=>nomatch z)]; exact w
theorem h1l {o:HO} (h:H e = some o):upd H e o = H:=by
 funext b; unfold upd; split
 ·rename_i z; rw [z,h]
 ·rfl
end
section
variable {X:Cx} {C D:Addr} {y f:Str} {np apos cpos pos pos' sp:Pos} {e text value:Expr} {es:List Expr} {t:TA} {tv:TE}
def rBI (C:Addr):List V→Hp→VK→Prop:=fun vs H Q=>∃ e od x,vs = [.ref e,x]∧H e = some (.ext (exI e C od))∧Q .non H
theorem b1l {pl:Sem Bool} (B:v0y X.K D) (hc:h0i X.K C = true) (hm:X.mg y = some (.ref D)) (ha:PA X (e :: es) t) (hg:Gl X y:=by rfl) (hdb:(y == ("__debug__" : Str)) = false:=by decide)
  (hst:starEach (e :: es) X.env = (false,eval e X.env) :: starEach es X.env:=by rfl) (hpl:(backTo cpos (starEach es X.env)).any (·.1) = false:=by rfl)
  (ht:eval (.Call (.Attribute (.Name y np) "__init__" apos) (e :: es) [] cpos) X.env = (do
   let ov ← eval (.Name y np) X.env
   standAt apos.atName
   let (f,first) ← holding [ov] (getMethod ov "__init__" pl)
   callWith cpos f first (backTo cpos (starEach (e :: es) X.env)) (backToKw cpos (keywordEach [] X.env))):=by rfl) :
  PE X (.Call (.Attribute (.Name y np) "__init__" apos) (e :: es) [] cpos) (fun σ H Q=>t σ H fun vs H1=>rBI C vs H1 Q):=by
 intro pins s σ H Q I h
 refine PySem.W.methodCall_KW (pl:=pl) (g0m I hg hm ?_ hdb) ht
 refine method_cls I.kIn B.sp (cls_value I.kIn B.rd B.fc rfl ?_)
 have hA:=ha cpos pins _ σ H _ (I.tok (s.toks + 1)) h
 rw [hst] at hA ⊢
 refine Calls.callWith_builtin (by show (false || (backTo cpos (starEach es X.env)).any (·.1)) = false; rw [hpl] <;> rfl) (Calls.evalArgs_plain ?_)
 refine thn hA fun us s2 ⟨vs,H2,I2,r,q⟩=>?_
 obtain ⟨e',od,x,rfl,he,hq⟩:=q
 obtain ⟨t0,ge⟩:=(I2.hok e' _ he).1
 obtain ⟨bm,N,nm,q,bs,hdct,sn,sub,ab,col,dd,k0,k1,k2,k3,k5,hC,T⟩:=(ecls I2.kIn hc).obj
 cases r with
 | cons r1 rr =>
  cases rr with
  | cons r2 rr =>
   cases rr
   cases (show _ = Value.ref e' from r1)
   obtain ⟨hh,g,d,tk,os⟩:=s2
   refine a1f T hC ge fun h' k hx=>⟨.non,H2,?_,rfl,hq⟩
   have:=I2.write (x:=e') (e:=e') (o:=.ext (exI e' C od)) (t':=tk) (h':=h') (by rw [he]; exact True.intro) (.inl rfl) (fun b u ne z=>k b u ne z) (let ⟨t1,g1⟩:=hx; ⟨_,g1⟩) (exI.ok hx)
   rw [h1l he] at this
   exact this
def sXF (C:Addr) (tv:TE) (i:Nat) (f:Str):TS:=fun D σ H=>tv σ H fun y H1=>∃ e,σ[i]? = some (some (.ref e))∧H1 e = some (.ext (exI e C none)) ∧
 ∀ dx,H1 dx = none→dx ≠ e→D.nx σ (upd (upd H1 e (.ext (exI e C (some dx)))) dx (.xd [(f,y)]))
theorem f1d {i:Nat} {sn:Str} {fI:Addr} (c:ExcI X.K C fI f) (hv:PE X value tv) (hi:PE X (.Name sn sp) (tVar i)) (hs:swapsWith value (some (.Attribute (.Name sn sp) f pos')) pos.line X.env = pure false:=by rfl) :
  PS X (.Assign [.Attribute (.Name sn sp) f pos'] value pos) (sXF C tv i f):=by
 intro pins s σ H D I h
 refine plainObj_wpAny_Assign_Attribute (thn (hv pins s σ H _ I h) fun u s1 ⟨yv,H1,I1,ry,e,e1,e2,q⟩=>thn (hi pins s1 σ H1 (fun x H2=>x = .ref e∧H2 = H1) I1 ⟨.ref e,e1,rfl,rfl⟩) fun ov s2 ⟨x,H2,I2,rx,ex,eH⟩=>?_) hs
 subst ex eH
 obtain rfl:ov = Value.ref e:=rx
 obtain ⟨t0,ge⟩:=(I2.hok e _ e2).1
 obtain ⟨bm,N,nm,q',bs,sn',sub,ab,col,dd,k0,k1,k2,k3,k5,mN,hC,hN,_,T⟩:=(y0e I2.kIn c.cl).obj
 obtain ⟨hh,g,d,tk,os⟩:=s2
 refine e1v I2.kIn T hC c.sa c.na ge rfl rfl (fun _ z=>nomatch z) fun h' dx tk' hn ne hz gx nx k=>?_
 have ud:H2 dx = none:=I2.hok.fresh hz
 have I3:=I2.write (x:=e) (e:=e) (o:=.ext (exI e C (some dx))) (t':=tk') (h':=h') (by rw [e2]; exact True.intro) (.inl rfl) (fun b u ne z=>k b u ne z) ⟨_,gx⟩ (exI.ok ⟨t0,gx⟩)
 have sz0:X.s₀.heap.objs.size ≤ dx:=Nat.le_trans I2.sz hz
 have ge':∀ b o,hh.get? b = some o→b ≠ dx:=fun b o z w=>by rw [w,hn] at z; cases z
 have I4:=I3.track2 (e:=dx) (o:=.xd [(f,yv)]) (by rw [a0l ne]; exact ud) (Heap.get?_none_of_le sz0)
  (fun z=>by obtain ⟨m1,⟨o1,_,_,ho1,_⟩,_⟩:=id I2.loc; exact ge' _ _ ho1 z)
  (fun x c q z=>by obtain ⟨v,o1,ho1,_⟩:=I2.cell x c q; exact ge' _ _ ho1 z)
  (fun p hp z=>ge' _ _ (I2.pin p hp).1 z) ⟨_,nx,fun g=>?_⟩
 ·exact ⟨σ,_,I4,q dx ud ne⟩
 ·show RelO (List.lookup g [(f,yv)]) (if g = f then some u else none)
  by_cases z:g = f
  ·rw [if_pos z]
   have hb:(g == f) = true:=beq_iff_eq.mpr z
   simp only [List.lookup,hb]
   exact ry
  ·rw [if_neg z]
   have hb:(g == f) = false:=beq_eq_false_iff_ne.mpr z
   simp only [List.lookup,hb]
   trivial
end
section
variable {X:Cx} {R:VK} {C fI:Addr} {f x:Str}
def tRsI (C:Addr) (f:Str) (sp:Sp) (t0:TE):TS:=fun D σ H=>t0 σ H fun v H1=>∀ e,H1 e = none→sp [.ref e,v] (upd H1 e (.ext (exI e C none)))
 (fun r H2=>r = .non∧∃ dx y,H2 e = some (.ext (exI e C (some dx)))∧H2 dx = some (.xd [(f,y)])∧dx ≠ e∧H1 dx = none∧D.rt y (rm H2 e)) E0
theorem u0z {k:Nat} {fd:FuncData} {ps:List Str} {sp:Sp} (T:Tie X C (some f) R) (hc:X.calm = true) (hm:X.mg x = some (.ref C)) (c:ExcI X.K C fI f) (F:FnOk X.prog X.w X.K X.mg X.base CX0 k fI fd ps sp) (hr:Room (k + 1) X.A) (hb:o0m X.K fd ps [])
  {e0:Expr} {t0:TE} {np cpos pos:Pos} (ha:PE X.nox e0 t0) (hg:Gl X x:=by rfl) (he:starEach [e0] X.env = [(false,eval e0 X.env)]:=by rfl) (hdb:(x == ("__debug__" : Str)) = false:=by decide) :
  PSr X R (.Raise (some (.Call (.Name x np) [e0] [] cpos)) none pos) (tRsI C f sp t0):=by
 intro pins s σ H D e I h
 obtain ⟨tl,N,nm,q,bs,sn,sub,ab,col,dd,k0,k1,k2,k3,k5,mN,hC,hN,hi,tw⟩:=(y0e I.mod.kin c.cl).obj
 obtain ⟨oI,lkI,hfc⟩:=Option.map_eq_some_iff.mp (show (X.K.lookup fI).map (·.cls) = some (.type "function") from c.fn)
 refine l0z (k5:=k5) (k3:=k3) (k2:=k2) (k1:=k1) (k0:=k0) (dd:=dd) (col:=col) (ab:=ab) (sub:=sub) (sn:=sn) (hdct:=true) (bs:=bs) (N:=N) (q:=q) (nm:=nm) (C:=C) (bm:=tl) (mN:=mN) (fI:=fI) (oI:=oI) PySem.F.excBase_ValueError (tw.hasType (by decide +kernel)) (I.ok.hd hc) (by rw [he]; rfl) hi hfc (g0m I hg hm ⟨rfl,?_⟩ hdb)
 rw [he]
 refine Calls.evalArgs_plain (Calls.spliced_cons ?_)
 refine thn (ha.nox pins s σ H _ I h) fun u s1 ⟨v,H1,I1,r1,q1⟩=>Calls.spliced_nil ?_
 refine ⟨rfl,by show (1:Nat) ≤ _; decide,I1.bk _ _ hC,hN.keeps I1.bk,tw.keeps I1.bk,I1.kIn _ _ lkI,fun h' a mk=>?_⟩
 obtain ⟨tt,g1,g2,g3⟩:=mk.there
 have ua:H1 a = none:=by
  cases z:H1 a with
  | none=>rfl
  | some o =>
   obtain ⟨u,z'⟩:=I1.hok.get z
   rw [mk.new] at z'; cases z'
 have y0:=I1.back0 T.ex mk.new
 have ga:∀ b o,s1.heap.get? b = some o→b ≠ a:=fun b o z w=>by rw [w,mk.new] at z; cases z
 have It:=(I1.kept (t':=s1.toks) mk.keeps).track2 (e:=a) (o:=.ext (exI a C none)) ua y0
  (fun z=>by obtain ⟨m1,⟨o1,_,_,ho1,_⟩,_⟩:=id I1.loc; exact ga _ _ ho1 z)
  (fun x c q z=>by obtain ⟨v,o1,ho1,_⟩:=I1.cell x c q; exact ga _ _ ho1 z)
  (fun p hp z=>ga _ _ (I1.pin p hp).1 z) (exI.ok ⟨tt,g1⟩)
 have hl:([Value.ref a,u]:List Value).length = ps.length:=F.len _ _ _ _ (q1 a ua)
 refine wpAny_call (codeAny_mono (F.run _ X.stack _ _ ⟨[Value.ref a,u],[]⟩ [Value.ref a,u] [.ref a,v] _ E0 (hr.make C [u] []) (It.env0.make C [u] []) (by have:=hb _ [Value.ref a,u] It.kIn (by simpa using hl); simpa using this) (.cons rfl (.cons r1 .nil)) (q1 a ua)) fun rr s' hq=>?_)
 cases rr with
 | error ev=>exact False.elim hq
 | ok fl =>
  cases fl with
  | next=>exact False.elim hq
  | brk=>exact False.elim hq
  | cont=>exact False.elim hq
  | ret w' =>
   obtain ⟨v',H2,os,bare,un,hok,rv,ev,dx,y,e2,e3,ne,ud,qq⟩:=hq
   subst ev
   have I2:Inv X pins σ H2 s':=It.call' os un hok bare fun b z=>nomatch z
   have yd:X.s₀.heap.get? dx = none:=by
    refine I1.back0 T.ex ?_
    cases z:s1.heap.get? dx with
    | none=>rfl
    | some o =>
     have:=un.free dx o (mk.keeps _ _ z) (by rw [a0l ne]; exact ud) (fun z=>nomatch z)
     rw [e3] at this; cases this
   have I3:=I2.untrack e2 y0
   obtain ⟨t1,g4⟩:=(I2.hok a _ e2).1
   refine ⟨rv,I2.bk _ _ hC,t1,some dx,g4,?_⟩
   exact T.run I3 ⟨_,_,.none,g4,rfl,rfl,rfl,rfl,y0,x0m,.inl rfl⟩ (fun z w=>by cases w; exact yd) ⟨dx,rfl,by rw [r0b ne]; exact e3⟩ (e ▸ qq)
end
def spIP (C:Addr) (f:Str):Sp:=fun vs H Q _=>∃ e,∃ n:Nat,vs = [.ref e,.int n]∧n < 10000000000000000000000000000000000000000000000000000000000000000000000∧H e = some (.ext (exI e C none))∧∀ dx,H dx = none→dx ≠ e→Q .non (upd (upd H e (.ext (exI e C (some dx)))) dx (.xd [(f,.int n)]))
theorem tn3:∀ k:Nat,k < 10000000000000000000000000000000000000000000000000000000000000000000000→(toString (k:Int):Str).length ≤ 70:=fun k h=>toString_length_le (v:=(k:Int)) (k:=70) (by omega) (by decide) (by omega)
theorem i1w {k:Nat} (h:k < 10000000000000000000000000000000000000000000000000000000000000000000000):(k:Int).natAbs.log2 < 1920:=by
 rw [Int.natAbs_natCast]
 by_cases h0:k = 0
 ·subst h0; decide
 ·have:=(Nat.log2_lt h0).mpr (show k < 2 ^ 233 by omega)
  omega
section
variable {K:PySem.W.Frag} {C:Addr} {f:Str} {pr:Nat→Bool} {t0:TE} {a0:AE}
theorem e1y {H:Hp} {e dx:Addr} {o o1 o2:HO} (he:H e = none) (ne:dx ≠ e):rm (upd (upd (upd H e o) e o1) dx o2) e = upd H dx o2:=by
 funext b
 unfold rm upd
 by_cases z:b = e
 ·subst z; rw [if_pos rfl,if_neg (Ne.symm ne),he]
 ·rw [if_neg z]
  by_cases w:b = dx
  ·rw [if_pos w,if_pos w]
  ·rw [if_neg w,if_neg w,if_neg z,if_neg z]
def aRsP (a:AE):AS:=fun k ρ=>a ρ fun r ρ1=>match r with
 | .d (.int i)=>(0 ≤ i∧i < 10000000000000000000000000000000000000000000000000000000000000000000000)∧k.rt (.d (.int i)) ρ1
 | _=>False
theorem u0x (ha:TEok K t0 a0):TSok K pr (tRsI C f (spIP C f) t0) (aRsP a0):=by
 intro F σ ρ H D k hp r h ko
 refine ha F σ ρ H _ _ r h fun r1 ρ1 v H1 h1 o=>?_
 obtain ⟨r',k1,i1⟩:=o.inF
 split at h1
 ·rename_i i
  obtain ⟨⟨l0,l2⟩,h1⟩:=h1
  have ev:v = .int i:=i1.int
  subst ev
  intro e ue
  refine ⟨e,i.toNat,by rw [Int.toNat_of_nonneg l0],by omega,a0v,fun dx hd ne=>⟨rfl,dx,.int i,?_,?_,ne,?_,?_⟩⟩
  ·rw [a0l (Ne.symm ne),a0v]
  ·rw [a0v,Int.toNat_of_nonneg l0]
  ·rw [a0l ne] at hd; exact hd
  ·rw [a0l ne] at hd
   rw [e1y ue ne]
   refine ko.rt σ ρ1 (.d (.int i)) _ _ h1 ⟨r'.fresh hd,?_⟩
   unfold RepD; rfl
 ·exact h1.elim
end
section
variable {prog:Program} {w:World} {A:Around} {E:Value→Shared→Prop} {s:Shared} {K:PySem.W.Frag} {x D:Addr} {ox:Obj} {odo:Option Obj}
theorem g1a {name:Str} {v:Value} {Q:Value→Shared→Prop} (KX:K.In s.heap) (I:PySem.W.InstAt s.heap x ox D odo) (hga:findIn K (.ref D) "__getattribute__" = some (some (.builtin "BaseException.__getattribute__"))) (hgn:findIn K (.ref D) "__getattr__" = some none)
  (hf:findObj K D odo name = some (.value v)) (hb:subIn K (.ref D) (.type "BaseException") = some true) (hh:handedIn v = true)
  (h:Q v { s with toks:=s.toks + 1 }):wpAny (model prog w) A (getAttr (.ref x) name true) Q E s:=by
 obtain ⟨hp,g,d,t,os⟩:=s
 have L0:=I.type (M:=model prog w)
 have L1:=looks_findIn (M:=model prog w) KX hga
 have L2:=looks_findIn (M:=model prog w) KX hgn
 have L3:=looks_find (M:=model prog w) KX I hf
 have L4:=looks_subIn (M:=model prog w) KX hb
 have f3:=PySem.F.excAttr_ValueError.ga.bind (.ref x)
 have hk:builtinKind "BaseException.__getattribute__" = some .slot:=by decide +kernel
 have hsp:splitId "BaseException.__getattribute__" = some ("BaseException", "__getattribute__"):=by decide +kernel
 have ha:=PySem.F.args_bexc_ga (.ref x) (.str name t)
 unfold getAttr getAttrBy
 refine wpAny_bind (wpAny_mkText (wpAny_holding (wpAny_bind (L0.at (wpAny_bind (L1.at ?_))))))
 show wpAny _ _ (getAttrByItsOwn _ _ _ _ _ _) _ _ _
 unfold getAttrByItsOwn
 repeat (any_goals (first | assumption | with_reducible refine L0.at ?_ | with_reducible refine L1.at ?_ | with_reducible refine L2.at ?_ | wp_step))
 refine codeAny_call_builtin PySem.F.excAttr_ValueError.ga.plain PySem.F.entry_bexc_ga ?_
 simp only [checkBuiltinCall,hk,hsp]
 refine wpAny_bind ?_
 unfold isInstance
 repeat (any_goals (first | assumption | with_reducible refine L0.at ?_ | with_reducible refine L4.at ?_ | with_reducible refine L3.at ?_ | wp_step))
 show wpAny _ _ (handedOut v) _ _ _
 exact handed_on hh h
end
structure ExG (K:PySem.W.Frag) (C:Addr) (f:Str):Prop extends ExIs K C where
 na:findIn K (.ref C) f = some none
 hd:hasDictIn K C = true
def h1q (K:PySem.W.Frag) (ta:TE) (f:Str):TE:=fun σ H Q=>ta σ H fun x H1=>∃ e C dx fs v,x = .ref e∧H1 e = some (.ext (exP e C (some dx)))∧H1 dx = some (.xd fs)∧fs.lookup f = some v∧ExG K C f∧Q v H1
section
variable {X:Cx} {e:Expr} {ta:TE} {f:Str} {pos:Pos} {K:PySem.W.Frag}
theorem f1m {h:Heap} {dx:Addr} {o:Obj} {mA:Str→Option Value} {n:Str} {u:Value} (hN:h.Ns1 dx mA) (ho:h.get? dx = some o) (hu:mA n = some u):lookIn n o = some (some u):=by
 obtain ⟨o',es,ep,ho',hd,_,_,hf⟩:=hN
 rw [ho] at ho'
 cases ho'
 unfold lookIn
 rw [hd]
 dsimp only
 have q:=hf n
 rw [hu] at q
 unfold nsFind findBy at q
 rw [← Array.find?_toList] at q
 obtain ⟨en,q1,q2⟩:=Option.map_eq_some_iff.mp q
 rw [q1]
 dsimp only
 rw [q2]
theorem y0a (he:PE X e ta) (hb:attributeBase e f X.env (eval e X.env) = eval e X.env:=by rfl):PE X (.Attribute e f pos) (h1q X.K ta f):=by
 intro pins s σ H Q I h
 refine g1p hb (thn (he pins s σ H _ I h) fun u s1 ⟨x,H1,I1,rx,a,C,dx,fs,v,ex,ea,ed,l,g,q⟩=>?_)
 subst ex
 obtain rfl:u = Value.ref a:=rx
 obtain ⟨⟨oe,vs,ge,gc,gd,gf⟩,_,_⟩:=I1.hok a _ ea
 obtain ⟨mA,hN,r⟩:=I1.hok dx _ ed
 obtain ⟨od,_,_,ho,_⟩:=id hN
 obtain ⟨u,hu,ru⟩:=RelO.some_of (v:=v) (o:=mA f) (by rw [← l]; exact r f)
 have it:PySem.W.InstAt s1.heap a oe C (some od):=⟨ge,gc,by unfold notCls; rw [gf],by rw [gd]; exact ho⟩
 obtain ⟨cd,hcd,hcd2⟩:=any_some g.hd
 refine g1a I1.kIn it g.ga g.gn (v:=u) ?_ g.be (z0e ru) ⟨v,H1,I1.tok _,ru,q⟩
 unfold findObj PySem.W.ownOf
 rw [hcd,Option.bind_some,g.na,Option.bind_some]
 simp only [Option.bind_some,hcd2,if_pos]
 rw [f1m hN ho hu]
 rfl
def k1c (K:PySem.W.Frag) (i:Nat) (f:Str):AE:=fun ρ q=>match gt ρ i with
 | .ex C (some fs)=>∃ d,fs.lookup f = some d∧ExG K C f∧q (.d d) ρ
 | _=>False
theorem t0u {Hh:Hp} {f:Str} {d:D}:∀ {ks:List (Str × V)} {fs:List (Str × D)},ks.map Prod.fst = fs.map Prod.fst→RepDs K Hh (ks.map Prod.snd) (fs.map Prod.snd)→fs.lookup f = some d→∃ v,ks.lookup f = some v∧RepD K Hh v d
 | [],[],_,_,h=>by cases h
 | (k,v) :: ks,(g,d') :: fs,e,r,h=>by
  simp only [List.map_cons,List.cons.injEq] at e
  obtain ⟨e1,e2⟩:=e
  simp only [List.map_cons] at r
  unfold RepDs at r
  subst e1
  simp only [List.lookup] at h ⊢
  split at h
  ·rename_i q; cases h; exact ⟨v,rfl,r.1⟩
  ·rename_i q; exact t0u e2 r.2 h
 | [],_ :: _,e,_,_=>by cases e
 | _ :: _,[],e,_,_=>by cases e
theorem s0w {i:Nat}:TEok K (h1q K (tVar i) f) (k1c K i f):=by
 intro F σ ρ H q Q a h b
 have s:=a.sl i
 unfold k1c at h
 split at h
 ·rename_i C fs hg
  rw [hg] at s
  obtain ⟨e,od,e1,e2,e3⟩:=s
  obtain ⟨d,h1,h2,h3⟩:=h
  cases od with
  | none=>exact e3.elim
  | some dx =>
   obtain ⟨ks,k1,k2,k3⟩:=e3
   obtain ⟨v,l,rv⟩:=t0u k2 k3 h1
   exact ⟨.ref e,e1,e,C,dx,ks,v,rfl,(d0b.mp e2).2,(d0b.mp k1).2,l,h2,b (.d d) ρ v H h3 ⟨a,.refl,rv⟩⟩
 ·exact h.elim
end
def k1w:Stmt→Stmt
 | .ClassDef _ _ _ (st :: _) _ _ _ _ _ _ _=>st
 | _=>.Pass ⟨0,0,0,0⟩
structure v0x (K:PySem.W.Frag) (C fI:Addr) (f qual:Str) (st:Stmt) (ps:List Str):Prop where
 xi:ExcI K C fI f
 fn:∃ fd,Fun K "__init__" qual st fI fd∧∀ us:List Value,us.length = ps.length→bindArgs fd ⟨us,[]⟩ = pure (ps.zip us)
theorem b1y {K:PySem.W.Frag} {C fI:Addr} {f qual:Str} {st:Stmt} {ps:List Str} {oc:Value} {od an:Option Addr} {osl:Array (Option Value)} {kV doc pm cdv ct:Value} (i:findIn K (.ref C) "__init__" = some (some (.ref fI)))
  (l:K.lookup fI = some ⟨oc,od,.func (PySem.W.fnOf "__init__" qual (f0v st) (d0k st) (a0j st) .none kV doc pm an cdv ct),osl⟩) (c:PySem.W.codeIn K cdv qual = true) (k:PySem.W.keepIn K (.ref fI) = true)
  (cl:l0m K C fI = true) (fn:typeIn K (.ref fI) = some (.type "function")) (sa:findIn K (.ref C) "__setattr__" = some (some (.builtin "object.__setattr__"))) (na:findIn K (.ref C) f = some none)
  (hb:∀ (kV doc pm:Value) (an:Option Addr) (cdv ct:Value) (us:List Value),us.length = ps.length→bindArgs (PySem.W.fnOf "__init__" qual (f0v st) (d0k st) (a0j st) .none kV doc pm an cdv ct) ⟨us,[]⟩ = pure (ps.zip us)):v0x K C fI f qual st ps :=
 ⟨⟨cl,fn,sa,na⟩,_,d1s l c k,fun us hl=>hb kV doc pm an cdv ct us hl⟩
theorem z0o {K:PySem.W.Frag} {C:Addr} (q:excIn K C bmV "ValueError.__new__" = true):h0i K C = true:=by
 unfold excIn at q
 unfold h0i
 split at q
 next dd cd sl lk =>
  try rw [lk]
  split at q
  next C' bm k0 k1 k2 k3 n k5 em es =>
   simp only [Bool.and_eq_true,beq_iff_eq,Bool.not_eq_true'] at q
   obtain ⟨⟨⟨⟨⟨rfl,rfl⟩,nd⟩,tl⟩,nk⟩,ni⟩:=q
   first | (simp [em,es,nd,tl]; done) | simp_all
  ·cases q
 ·cases q
theorem v0r {K:PySem.W.Frag} {C fI:Addr} (q:l0m K C fI = true):h0i K C = true:=by
 unfold l0m at q
 unfold h0i
 split at q
 next dd cd sl lk =>
  try rw [lk]
  split at q
  next C' bm k0 k1 k2 k3 n k5 em es =>
   simp only [Bool.and_eq_true,beq_iff_eq,Bool.not_eq_true'] at q
   obtain ⟨⟨⟨⟨⟨⟨rfl,rfl⟩,nd⟩,tl⟩,nk⟩,ni⟩,hd⟩:=q
   first | (simp [em,es,nd,tl]; done) | simp_all
  ·cases q
 ·cases q
theorem j3 {σ:St} {H:Hp} {Q:VK} {a c:Str} {n i:Nat} (ha:a.length ≤ 1000) (hc:c.length ≤ 1000) (hn:n < 10000000000000000000000000000000000000000000000000000000000000000000000) (hv:σ[i]? = some (some (.int n))) (h:∀ t,Q (.str t) H):y0w (tC (.str a)) (y0w (tFmt (tVar i)) (y0w (tC (.str c)) jNil)) Str.empty σ H Q:=by
 have t3:=tn3 n hn
 have l0:Str.empty.length = 0:=rfl
 have e1:(Str.empty ++ a).length ≤ 1000:=by rw [Str.length_append,l0]; omega
 have e2:(Str.empty ++ a ++ (toString (n:Int):Str)).length ≤ 1070:=by rw [Str.length_append]; omega
 have e3:(Str.empty ++ a ++ (toString (n:Int):Str) ++ c).length ≤ 2070:=by rw [Str.length_append]; omega
 refine ⟨_,rfl,by rw [sizeLine_eq]; omega,.int n,hv,n,rfl,i1w hn,_,rfl,by rw [sizeLine_eq]; omega,_,rfl,by rw [sizeLine_eq]; omega,by rw [sizeLine_eq]; omega,h _⟩
theorem aj3 {ρ:En} {q:Ko} {x:AE} {a c:Str} {n:Nat} (ha:a.length ≤ 1000) (hc:c.length ≤ 1000) (hn:n < 10000000000000000000000000000000000000000000000000000000000000000000000) (hx:∀ q':Ko,q' (.d (.int n)) ρ→x ρ q') (h:∀ t,q (.d (.str t)) ρ):u0m (aC (.d (.str a))) (u0m (aFmt x) (u0m (aC (.d (.str c))) ajNil)) Str.empty ρ q:=by
 have t3:=tn3 n hn
 have l0:Str.empty.length = 0:=rfl
 have e1:(Str.empty ++ a).length ≤ 1000:=by rw [Str.length_append,l0]; omega
 have e2:(Str.empty ++ a ++ (toString (n:Int):Str)).length ≤ 1070:=by rw [Str.length_append]; omega
 have e3:(Str.empty ++ a ++ (toString (n:Int):Str) ++ c).length ≤ 2070:=by rw [Str.length_append]; omega
 refine ⟨by omega,hx _ ⟨i1w hn,by omega,by omega,by omega,h _⟩⟩
end L2
namespace L2
open PySem PySem.Spec PyProof.Rows
section
variable {P:Program} {w:World} {A:Around} {R:Result→Shared→Prop} {s:Shared}
theorem o0f (elt tg iter tg2 iter2:Expr) (ifs ifs2:List Expr) (scope:Scope) (pos:Pos) (it acc:Value) (env:Env) :
  compTurn (.ListComp elt [⟨tg,iter,ifs,0⟩,⟨tg2,iter2,ifs2,0⟩] scope pos) 0 it acc env = (do
   standAt iter.pos
   match ← pyNext it with
   | none=>pure (.done .next)
   | some v =>
    letOwnedTupleGo tg it v
    assign tg env v
    let mut ok:=true
    for c in ifs do
     if ok then ok ← isTrue c env (eval c env)
    if ok then
     let x ← eval iter2 env
     standAt iter2.pos
     let x ← foldedSetIterable iter2 env x
     let _ ← runOwn (.compStart (.ListComp elt [⟨tg,iter,ifs,0⟩,⟨tg2,iter2,ifs2,0⟩] scope pos) 1 (← holding [x] (pyIter x)) acc env) env
    again (.compLoop (.ListComp elt [⟨tg,iter,ifs,0⟩,⟨tg2,iter2,ifs2,0⟩] scope pos) 0 it acc env)):=by rfl
theorem o0e (elt tg iter tg2 iter2:Expr) (ifs ifs2:List Expr) (scope:Scope) (pos:Pos) (it acc:Value) (env:Env) :
  compTurn (.ListComp elt [⟨tg,iter,ifs,0⟩,⟨tg2,iter2,ifs2,0⟩] scope pos) 1 it acc env = (do
   standAt iter2.pos
   match ← pyNext it with
   | none=>pure (.done .next)
   | some v =>
    letOwnedTupleGo tg2 it v
    assign tg2 env v
    let mut ok:=true
    for c in ifs2 do
     if ok then ok ← isTrue c env (eval c env)
    if ok then
     (do let _ ← call (.builtin "list.append") [acc,← eval elt env])
    again (.compLoop (.ListComp elt [⟨tg,iter,ifs,0⟩,⟨tg2,iter2,ifs2,0⟩] scope pos) 1 it acc env)):=by rfl
abbrev h1o (M:Model) (A:Around) (ifs:List Expr) (env:Env) (Q:Bool→Shared→Prop) (s:Shared):Prop :=
 wpAny M A (forIn ifs true fun c r=>if r = true then do let ok ← isTrue c env (eval c env); pure (ForInStep.yield ok) else pure (ForInStep.yield r)) Q (fun _ _=>False) s
theorem z0w {elt tg iter tg2 iter2:Expr} {ifs ifs2:List Expr} {scope:Scope} {pos:Pos} {it acc:Value} {env:Env} (J:Nat→Shared→Prop)
  (turn:∀ n s,J n s→wpAny (model P w) A (pyNext it) (fun r s1=>match r with
   | none=>R (.ok .next) s1
   | some v=>wpAny (model P w) A (letOwnedTupleGo tg2 it v) (fun _ s2=>wpAny (model P w) A (assign tg2 env v) (fun _ s3 =>
     h1o (model P w) A ifs2 env (fun ok s4 =>
      if ok = true then wpAny (model P w) A (eval elt env) (fun x s5=>wpAny (model P w) A (call (.builtin "list.append") [acc,x]) (fun _ s6=>∃ m,m < n∧J m s6) (fun _ _=>False) s5) (fun _ _=>False) s4
      else ∃ m,m < n∧J m s4) s3) (fun _ _=>False) s2) (fun _ _=>False) s1) (fun _ _=>False) s)
  (n:Nat) (h:J n s):codeAny (model P w) A (.compLoop (.ListComp elt [⟨tg,iter,ifs,0⟩,⟨tg2,iter2,ifs2,0⟩] scope pos) 1 it acc env) R s:=by
 have no:∀ {α:Type} {t:Sem α} {Q Q':α→Shared→Prop} {E:Value→Shared→Prop} {s:Shared},wpAny (model P w) A t Q (fun _ _=>False) s→(∀ a s,Q a s→Q' a s)→wpAny (model P w) A t Q' E s :=
  fun h hq=>wpAny_mono h hq fun _ _ f=>f.elim
 refine codeAny_loop rfl J (fun n s hJ=>?_) n h
 show wpAny _ A ((compTurn (.ListComp elt [⟨tg,iter,ifs,0⟩,⟨tg2,iter2,ifs2,0⟩] scope pos) 1 it acc env).onRaise (fun x=>do noteFrame x env; theTreesLotGoes x)) _ _ s
 refine wpAny_noted ?_
 rw [o0e]
 refine wpAny_bind (wpAny_standAt (wpAny_bind (no (turn n s hJ) fun r s1 h1=>?_)))
 cases r with
 | none=>exact wpAny_pure h1
 | some v =>
  refine wpAny_bind (no h1 fun _ s2 h2=>wpAny_bind (no h2 fun _ s3 h3=>wpAny_bind (no h3 fun ok s4 h4=>?_)))
  cases ok with
  | false=>exact wpAny_pure ⟨rfl,h4⟩
  | true=>exact wpAny_bind (wpAny_bind (no h4 fun x s5 h5=>wpAny_bind (no h5 fun _ s6 h6=>wpAny_pure (wpAny_pure ⟨rfl,h6⟩))))
theorem z0x {elt tg iter tg2 iter2:Expr} {ifs ifs2:List Expr} {scope:Scope} {pos:Pos} {it acc:Value} {env:Env} (J:Nat→Shared→Prop) (hf:∀ x,foldedSetIterable iter2 env x = pure x)
  (turn:∀ n s,J n s→wpAny (model P w) A (pyNext it) (fun r s1=>match r with
   | none=>R (.ok .next) s1
   | some v=>wpAny (model P w) A (letOwnedTupleGo tg it v) (fun _ s2=>wpAny (model P w) A (assign tg env v) (fun _ s3 =>
     h1o (model P w) A ifs env (fun ok s4 =>
      if ok = true then wpAny (model P w) A (eval iter2 env) (fun x s5=>wpAny (model P w) A (pyIter x) (fun itv s6 =>
       codeAny (model P w) A (.compStart (.ListComp elt [⟨tg,iter,ifs,0⟩,⟨tg2,iter2,ifs2,0⟩] scope pos) 1 itv acc env) (fun r s7=>r = .ok .next∧∃ m,m < n∧J m s7) s6) (fun _ _=>False) s5) (fun _ _=>False) s4
      else ∃ m,m < n∧J m s4) s3) (fun _ _=>False) s2) (fun _ _=>False) s1) (fun _ _=>False) s)
  (n:Nat) (h:J n s):codeAny (model P w) A (.compLoop (.ListComp elt [⟨tg,iter,ifs,0⟩,⟨tg2,iter2,ifs2,0⟩] scope pos) 0 it acc env) R s:=by
 have no:∀ {α:Type} {t:Sem α} {Q Q':α→Shared→Prop} {E:Value→Shared→Prop} {s:Shared},wpAny (model P w) A t Q (fun _ _=>False) s→(∀ a s,Q a s→Q' a s)→wpAny (model P w) A t Q' E s :=
  fun h hq=>wpAny_mono h hq fun _ _ f=>f.elim
 refine codeAny_loop rfl J (fun n s hJ=>?_) n h
 show wpAny _ A ((compTurn (.ListComp elt [⟨tg,iter,ifs,0⟩,⟨tg2,iter2,ifs2,0⟩] scope pos) 0 it acc env).onRaise (fun x=>do noteFrame x env; theTreesLotGoes x)) _ _ s
 refine wpAny_noted ?_
 rw [o0f]
 refine wpAny_bind (wpAny_standAt (wpAny_bind (no (turn n s hJ) fun r s1 h1=>?_)))
 cases r with
 | none=>exact wpAny_pure h1
 | some v =>
  refine wpAny_bind (no h1 fun _ s2 h2=>wpAny_bind (no h2 fun _ s3 h3=>wpAny_bind (no h3 fun ok s4 h4=>?_)))
  cases ok with
  | false=>exact wpAny_pure ⟨rfl,h4⟩
  | true =>
   refine wpAny_bind (no h4 fun x s5 h5=>wpAny_bind (wpAny_standAt (wpAny_bind (wpAny_of_eq (hf x) (wpAny_bind (wpAny_holding (no h5 fun itv s6 h6=>?_)))))))
   refine wpAny_bind (wpAny_runOwn (codeAny_mono h6 fun r s7 h7=>?_))
   obtain ⟨rfl,h7⟩:=h7
   exact wpAny_pure ⟨rfl,h7⟩
theorem m0h {elt tg iter tg2 iter2:Expr} {ifs ifs2:List Expr} {scope:Scope} {pos:Pos} {it acc:Value} {env:Env}
  (h0:codeAny (model P w) A (.compLoop (.ListComp elt [⟨tg,iter,ifs,0⟩,⟨tg2,iter2,ifs2,0⟩] scope pos) 1 it acc env) R s)
  (h:wpAny (model P w) A (pyIter it) (fun it' s'=>codeAny (model P w) A (.compLoop (.ListComp elt [⟨tg,iter,ifs,0⟩,⟨tg2,iter2,ifs2,0⟩] scope pos) 1 it' acc env) R s') (notedBy (model P w) A env fun x s'=>R (.error x) s') s) :
  codeAny (model P w) A (.compStart (.ListComp elt [⟨tg,iter,ifs,0⟩,⟨tg2,iter2,ifs2,0⟩] scope pos) 1 it acc env) R s:=by
 refine codeAny_of_tree ?_
 show wpAny _ _ ((compStart (.ListComp elt [⟨tg,iter,ifs,0⟩,⟨tg2,iter2,ifs2,0⟩] scope pos) 1 it acc env).onRaise (fun x=>do noteFrame x env; standAt theWindowsPlace)) _ _ s
 refine wpAny_notedAt ?_
 unfold compStart
 show wpAny _ _ (ask >>= _) _ _ s
 refine wpAny_bind (wpAny_askSetting (wpAny_ite ?_))
 split
 ·first
   | exact wpAny_bind (wpAny_pure (wpAny_pure (And.intro rfl h0)))
   | exact wpAny_pure (And.intro rfl h0)
 ·first
   | exact wpAny_bind (wpAny_rule (wpAny_bind (wpAny_standAt (wpAny_bind (wpAny_mono h (fun it' s' h'=>wpAny_pure (And.intro rfl h')) fun _ _ x=>x)))))
   | (refine wpAny_bind (wpAny_rule ?_); show wpAny _ _ (standAt iter2.pos >>= _) _ _ s; exact wpAny_bind (wpAny_standAt (wpAny_bind (wpAny_mono h (fun it' s' h'=>wpAny_pure (And.intro rfl h')) fun _ _ x=>x))))
end
def h1f (J:It) (g:TG) (tc:TT) (te:TE) (N:List V→Hp→Prop) (σ:St) (ys0:List V) (H1:Hp):Prop:=∃ W:Nat→Nat→List V→Hp→Prop,(∃ m,W 0 m ys0 H1)∧∀ i m ys H,W i m ys H →
 (J.stop i H∧N ys H) ∨
 (J.go i H∧ys.length < sizeLine∧∃ N2:List V→Hp→Prop,(∀ zs H',N2 zs H'→∃ m',m' < m∧W (i + 1) m' zs H')∧∀ x H',J.yld i H x H'→g x σ H' fun σ2 H2=>(σ2.length = σ.length∧∀ (j:Nat) v,σ[j]? = some (some v)→σ2[j]? = some (some v))∧tc σ2 H2 fun b H3 =>
  if b = true then te σ2 H3 fun v H4=>N2 (ys ++ [v]) H4 else N2 ys H3)
def e1a (J:It) (n:Nat) (js:List Nat) (g:TG) (tc:TT) (wi2:TI) (g2:TG) (tc2:TT) (te:TE) (Q:VK) (σ:St) (H1:Hp):Prop:=∃ W:Nat→Nat→List V→Hp→Prop,(∃ m,W 0 m [] H1)∧∀ i m ys H,W i m ys H →
 (J.stop i H∧ys.length ≤ sizeLine∧∀ l,H l = none→Q (.ref l) (upd H l (.lst ys))) ∨
 (J.go i H∧∃ N:List V→Hp→Prop,(∀ zs H',N zs H'→∃ m',m' < m∧W (i + 1) m' zs H')∧∀ x H',J.yld i H x H'→g x (bst n σ js) H' fun σ2 H2=>σ2.drop n = capt σ js∧tc σ2 H2 fun b H3 =>
  if b = true then wi2 σ2 H3 fun J2 H4=>h1f J2 g2 tc2 te N σ2 ys H4 else N ys H3)
def d1a (n:Nat) (js:List Nat) (wi:TI) (g:TG) (tc:TT) (wi2:TI) (g2:TG) (tc2:TT) (te:TE):TE:=fun σ H Q=>wi σ H fun J H1=>e1a J n js g tc wi2 g2 tc2 te Q σ H1
section
variable {Y:Cx}
theorem v0n {elt tg iter tg2 iter2:Expr} {ifs ifs2:List Expr} {scope:Scope} {pos:Pos} {g2:TG} {tc2:TT} {te:TE} {N:List V→Hp→Prop} {D:Addr} {pl:List (Addr × Obj)} {σ:St} {itv:Value} {ys:List V} {its:List Value} {k:Nat} {s:Shared}
  {RR:Result→Shared→Prop} (xe:Y.xe = fun _ _=>False) (hc:Y.calm = true) (hg:PG Y tg2 g2) (ht:PTs Y ifs2 tc2) (he:PE Y elt te)
  (szD:Y.s₀.heap.objs.size ≤ D) (neDL:D ≠ Y.env.locals) (notFs:D ∉ Y.fs) (clB:∀ x d,Y.env.cells.lookup x = some d→d ≠ D) (plD:∀ p ∈ Y.pn ++ pl,p.1 ≠ D)
  (h:PIE Y ((D,{ cls:=.type "list",data:=.seq its.toArray k }) :: pl) σ tg2 (fun J H1=>h1f J g2 tc2 te N σ ys H1) itv s) (r0:Vals ys its)
  (hR:∀ zs its' k' H' s',Inv Y pl σ H' s'→Vals zs its'→s'.heap.get? D = some { cls:=.type "list",data:=.seq its'.toArray k' }→H' D = none→N zs H'→RR (.ok .next) s') :
  codeAny (model Y.prog Y.w) Y.A (.compStart (.ListComp elt [⟨tg,iter,ifs,0⟩,⟨tg2,iter2,ifs2,0⟩] scope pos) 1 itv (.ref D) Y.env) RR s:=by
 obtain ⟨it,fp,tn,J,H2,rfl,I2,T,st2,f2,W,⟨m0,w0⟩,turn⟩:=h
 have plN:∀ p ∈ pl,p.1 ≠ D:=fun p hp=>plD p (List.mem_append_right _ hp)
 have fpD:∀ b ∈ fp,b ≠ D:=fun b hb=>((f2 b hb).2.2.2.2.2 (D,{ cls:=.type "list",data:=.seq its.toArray k }) (List.mem_append_right _ (List.mem_cons_self ..))).symm
 have p0:=I2.pin (D,{ cls:=.type "list",data:=.seq its.toArray k }) (List.mem_append_right _ (List.mem_cons_self ..))
 have f2':∀ (its':List Value) (k':Nat) {H':Hp},(∀ b ∈ fp,H' b = none)→∀ b ∈ fp,FpOk Y ((D,{ cls:=.type "list",data:=.seq its'.toArray k' }) :: pl) H' b:=fun its' k' {H'} hn b hb=>by
  obtain ⟨f0,f1,f3,f4,f5,f6⟩:=f2 b hb
  refine ⟨hn b hb,f1,f3,f4,f5,fun p hp=>?_⟩
  rcases List.mem_append.mp hp with z | z
  ·exact f6 p (List.mem_append_left _ z)
  ·rcases List.mem_cons.mp z with z | z
   ·rw [z]; exact (fpD b hb).symm
   ·exact f6 p (List.mem_append_right _ (List.mem_cons_of_mem _ z))
 have loop:codeAny (model Y.prog Y.w) Y.A (.compLoop (.ListComp elt [⟨tg,iter,ifs,0⟩,⟨tg2,iter2,ifs2,0⟩] scope pos) 1 (.ref it) (.ref D) Y.env) RR s:=by
  refine z0w (fun n s'=>∃ (i:Nat) (ys:List V) (its:List Value) (k:Nat) (H':Hp),Inv Y pl σ H' s'∧tn i s'.heap∧(∀ b ∈ fp,H' b = none)∧H' D = none∧Vals ys its ∧
   s'.heap.get? D = some { cls:=.type "list",data:=.seq its.toArray k }∧W i n ys H') ?_ m0 ⟨0,ys,its,k,H2,I2.pins_of fun p hp=>I2.pin p (List.mem_append_right _ (List.mem_cons_of_mem _ hp)),st2,fun b hb=>(f2 b hb).1,p0.2.1,r0,p0.1,w0⟩
  rintro n s3 ⟨i,ys,its,k,H3,I3,st3,fr3,hD3,r3,g3,w3⟩
  have I3p:Inv Y ((D,{ cls:=.type "list",data:=.seq its.toArray k }) :: pl) σ H3 s3:=I3.pins_of fun p hp=>by
   rcases List.mem_cons.mp hp with z | z
   ·subst z
    exact ⟨g3,hD3,neDL,notFs,fun v z=>by cases z⟩
   ·exact I3.pin p (List.mem_append_right _ z)
  have f3:=f2' its k fr3
  rcases turn i n ys H3 w3 with ⟨stop,qn⟩ | ⟨go,hz,N2,hN,step⟩
  ·refine thn (T.done Y rfl rfl rfl hc i _ s3 _ H3 (fun _ _=>False) I3p f3 st3 stop) fun r s4 ⟨hr,I4⟩=>?_
   subst hr
   have g4:=I4.pin (D,{ cls:=.type "list",data:=.seq its.toArray k }) (List.mem_append_right _ (List.mem_cons_self ..))
   exact hR ys its k H3 s4 (I4.pins_of fun p hp=>I4.pin p (List.mem_append_right _ (List.mem_cons_of_mem _ hp))) r3 g4.1 hD3 qn
  ·refine thn (T.item Y rfl rfl rfl hc i _ s3 _ H3 (fun _ _=>False) I3p f3 st3 go) fun r s4 ⟨u,hr,h4⟩=>?_
   subst hr
   refine thn h4 fun _ s5 ⟨x,H5,I5,r5,y5,st5,fr5⟩=>?_
   have I5':=I5.pinned (f2' its k fr5) (T.obj _ _ st5)
   refine thn (xe ▸ hg _ s5 _ H5 x u _ I5' r5 (step x H5 y5)) fun _ s6 ⟨σ6,H6,I6,⟨l6,d6⟩,q6⟩=>?_
   refine thn (xe ▸ ht _ s6 σ6 H6 _ I6 q6) fun ok s7 ⟨H7,I7,q7⟩=>?_
   have after:∀ {s8:Shared} {H8:Hp},Inv Y ((D,{ cls:=.type "list",data:=.seq its.toArray k }) :: pl ++ g0h fp s5.heap) σ6 H8 s8 →
     s8.heap.get? D = some { cls:=.type "list",data:=.seq its.toArray k }∧H8 D = none∧tn (i + 1) s8.heap∧(∀ b ∈ fp,H8 b = none)∧Inv Y pl σ H8 s8:=fun {s8 H8} I8=>by
    have p8:=I8.pin (D,{ cls:=.type "list",data:=.seq its.toArray k }) (List.mem_append_right _ (List.mem_append_left _ (List.mem_cons_self ..)))
    refine ⟨p8.1,p8.2.1,T.keep _ _ _ st5 fun b hb o e=>(I8.pin (b,o) (List.mem_append_right _ (List.mem_append_right _ (c0p hb e)))).1,fun b hb=>?_,?_⟩
    ·obtain ⟨o,e,_⟩:=T.obj _ _ st5 b hb
     exact (I8.pin (b,o) (List.mem_append_right _ (List.mem_append_right _ (c0p hb e)))).2.1
    ·exact (I8.pins_of (pins':=pl) fun p hp=>I8.pin p (List.mem_append_right _ (List.mem_append_left _ (List.mem_cons_of_mem _ hp)))).weak l6.symm d6
   cases ok with
   | false =>
    rw [if_neg Bool.false_ne_true] at q7 ⊢
    obtain ⟨m',hm,w7⟩:=hN _ _ q7
    obtain ⟨a1,a2,a3,a4,a5⟩:=after I7
    exact ⟨m',hm,i + 1,ys,its,k,H7,a5,a3,a4,a2,r3,a1,w7⟩
   | true =>
    rw [if_pos rfl] at q7 ⊢
    refine thn (xe ▸ he _ s7 σ6 H7 _ I7 q7) fun u8 s8 ⟨v8,H8,I8,r8,n8⟩=>?_
    obtain ⟨m',hm,w8⟩:=hN _ _ n8
    obtain ⟨a1,a2,a3,a4,a5⟩:=after I8
    have hsz:its.toArray.size < sizeLine:=by rw [List.size_toArray,← r3.length]; exact hz
    refine call_meets F.slot_list_append ⟨_,a1,rfl⟩ F.entry_list_append (F.args_list_append_2 _ _) (PySem.list_append D its.toArray k u8 (Nat.le_of_lt hsz)) ⟨a1,?_⟩
    have q9:=PySem.IsL.update a1 (fun xs=>xs.push u8)
    have sb:Heap.SameBut D s8.heap (s8.heap.update D (Obj.mapSeq fun xs=>xs.push u8)):=Heap.SameBut.update ..
    have I9:=a5.young sb a2 szD neDL clB plD
    have fin:∃ k',(s8.heap.update D (Obj.mapSeq fun xs=>xs.push u8)).get? D = some { cls:=.type "list",data:=.seq (its ++ [u8]).toArray k' }:=⟨_,by
     rw [show (its ++ [u8]).toArray = its.toArray.push u8 by simp]
     exact q9⟩
    obtain ⟨k',fin⟩:=fin
    exact ⟨m',hm,i + 1,ys ++ [v8],its ++ [u8],k',H8,I9,T.keep _ _ _ a3 (fun b hb o e=>(sb.2 b (fpD b hb)).trans e),a4,a2,r3.append (.cons r8 .nil),fin,w8⟩
 exact m0h loop (T.self _ 0 _ _ _ st2 loop)
end
section
variable {X:Cx}
theorem s0i {elt tg iter tg2 iter2:Expr} {ifs ifs2:List Expr} {scope:Scope} {pos:Pos} {own:List Str} {js:List Nat} {g g2:TG} {tc tc2:TT} {wi2:TI} {te:TE} {Q:VK} {pins:List (Addr × Obj)} {σ:St} {s2:Shared} {itv:Value} {E:Value→Shared→Prop}
  {RR:Value→Addr→Result→Shared→Prop} (hc:X.calm = true) (B:Blk X scope own js) (hg:∀ s H C fp,(own ++ capN X.N js).Nodup→PG (blk X scope (own ++ capN X.N js) s H C fp) tg g) (ht:∀ s H C fp,PTs (blk X scope (own ++ capN X.N js) s H C fp) ifs tc)
  (hi2:∀ s H C fp,PI (blk X scope (own ++ capN X.N js) s H C fp) tg2 iter2 wi2) (hg2:∀ s H C fp,(own ++ capN X.N js).Nodup→PG (blk X scope (own ++ capN X.N js) s H C fp) tg2 g2) (ht2:∀ s H C fp,PTs (blk X scope (own ++ capN X.N js) s H C fp) ifs2 tc2) (hs2:∀ s H C fp x,foldedSetIterable iter2 (blk X scope (own ++ capN X.N js) s H C fp).env x = pure x)
  (he:∀ s H C fp,PE (blk X scope (own ++ capN X.N js) s H C fp) elt te)
  (h:PIE X pins σ tg (fun J H1=>e1a J own.length js g tc wi2 g2 tc2 te Q σ H1) itv s2)
  (hR:∀ C acc s',e1b X pins σ Q C acc s'→RR acc C (.ok .next) s') :
  wpAny (model X.prog X.w) X.A (newList []) (fun acc s3=>wpAny (model X.prog X.w) X.A (newFunctionEnv scope X.env.globals (e0x scope X.env) [] X.env.qual none .none (some X.env)) (fun cenv s4 =>
   codeAny (model X.prog X.w) X.A (.compStart (.ListComp elt [⟨tg,iter,ifs,0⟩,⟨tg2,iter2,ifs2,0⟩] scope pos) 0 itv acc { cenv with scope:=relabel scope X.env }) (RR acc cenv.locals) s4) E s3) E s2:=by
 obtain ⟨it,fp,tn,J,H2,rfl,I2,T,st2,f2,W,⟨m0,w0⟩,turn⟩:=h
 refine wpAny_newObj_type (wpAny_newFunctionEnv B.nocell (by intro y hy; simp at hy) (fun h1 hns1 hsb1=>?_) B.kind)
 generalize hPu:s2.heap.push { cls:=.type "list",dict:=none,data:=.seq ([]:List Value).toArray } = Pu at hns1 hsb1 ⊢
 dsimp only at hns1 hsb1 ⊢
 have hDC:Pu.objs.size = s2.heap.objs.size + 1:=by rw [← hPu,Heap.size_push]
 generalize hD:s2.heap.objs.size = D at hDC ⊢
 have gD:Pu.get? D = some { cls:=.type "list",dict:=none,data:=.seq ([]:List Value).toArray }:=by
  rw [← hPu,← hD]; exact Heap.get?_push_size _ rfl
 generalize hC:Pu.objs.size = C at hns1 hsb1 hDC ⊢
 have ltDC:D < C:=by rw [hDC]; exact Nat.lt_succ_self D
 have neDC:D ≠ C:=Nat.ne_of_lt ltDC
 have keep1:∀ b o,s2.heap.get? b = some o→h1.get? b = some o:=fun b o e=>by
  have hb:b < D:=by rw [← hD]; exact Heap.lt_size e
  have hb2:b ≠ C:=Nat.ne_of_lt (Nat.lt_trans hb ltDC)
  refine (hsb1.2 b hb2).trans (Heap.get?_push_of_some _ ?_)
  rw [← hPu]
  exact Heap.get?_push_of_some _ e
 have gD1:h1.get? D = some { cls:=.type "list",dict:=none,data:=.seq ([]:List Value).toArray }:=(hsb1.2 D neDC).trans (Heap.get?_push_of_some _ gD)
 have szD:s2.heap.objs.size ≤ D:=Nat.le_of_eq hD
 have szC:s2.heap.objs.size ≤ C:=Nat.le_trans szD (Nat.le_of_lt ltDC)
 have old:∀ {b:Addr},b < s2.heap.objs.size→b ≠ D∧b ≠ C:=fun hb=>⟨Nat.ne_of_lt (Nat.lt_of_lt_of_le hb szD),Nat.ne_of_lt (Nat.lt_of_lt_of_le hb szC)⟩
 have fpo:∀ b ∈ fp,∃ o,s2.heap.get? b = some o:=fun b hb=>let ⟨o,e,_⟩:=T.obj 0 _ st2 b hb; ⟨o,e⟩
 have fpD:∀ b ∈ fp,b ≠ D∧b ≠ C:=fun b hb=>by
  obtain ⟨o,e⟩:=fpo b hb
  exact old (Heap.lt_size e)
 have clD:∀ x d,X.env.cells.lookup x = some d→d ≠ D∧d ≠ C:=fun x d e=>by
  obtain ⟨v,o,ho,_⟩:=I2.cell x d e
  exact old (Heap.lt_size ho)
 have pinD:∀ p ∈ X.pn ++ pins,p.1 ≠ D∧p.1 ≠ C:=fun p hp=>by
  exact old (Heap.lt_size (I2.pin p hp).1)
 have locD:D ≠ X.env.locals∧C ≠ X.env.locals:=by
  exact ⟨(old I2.lt).1.symm,(old I2.lt).2.symm⟩
 let Y:=blk X scope (own ++ capN X.N js) s2 H2 C fp
 have IB:Inv Y [] (bst own.length σ js) H2 { s2 with heap:=h1,toks:=s2.toks + ([]:List (Str × Value)).length }:=a1e B I2 f2 fpo szC hns1 keep1
 have fpB:∀ {H':Hp} {pl:List (Addr × Obj)},(∀ b ∈ fp,H' b = none)→(∀ p ∈ pl,p.1 = D)→∀ b ∈ fp,FpOk Y pl H' b:=fun {H' pl} hn hp b hb=>by
  obtain ⟨f0,f1,f3,f4,f5,f6⟩:=f2 b hb
  refine ⟨hn b hb,(fpD b hb).2,fun z=>?_,.inl hb,fun x c e=>f5 x c (e0k e),fun p q=>?_⟩
  ·rcases List.mem_cons.mp (I2.stkSub b z) with z | z
   ·exact f1 z
   ·exact f3 z
  ·have q':p ∈ pl:=by simpa [Y,blk] using q
   rw [hp p q']
   exact (fpD b hb).1.symm
 have clB:∀ x d,Y.env.cells.lookup x = some d→d ≠ D:=fun x d e=>(clD x d (e0k e)).1
 have notFs:D ∉ Y.fs:=fun z=>by
  obtain ⟨_,o,ho,_⟩:=IB.ok.funs.mem z
  exact (old (Heap.lt_size (show s2.heap.get? D = some o from ho))).1 rfl
 have loop:∀ s3:Shared,s3 = { s2 with heap:=h1,toks:=s2.toks + ([]:List (Str × Value)).length } →
   codeAny (model X.prog X.w) X.A (.compLoop (.ListComp elt [⟨tg,iter,ifs,0⟩,⟨tg2,iter2,ifs2,0⟩] scope pos) 0 (.ref it) (.ref D) (compEnvC scope (e0x scope X.env) C X.env)) (RR (.ref D) C) s3:=by
  rintro s3 rfl
  refine z0x (fun n s'=>∃ (i:Nat) (ys:List V) (its:List Value) (k:Nat) (H':Hp),Inv Y [] (bst own.length σ js) H' s'∧tn i s'.heap∧(∀ b ∈ fp,H' b = none)∧H' D = none∧Vals ys its ∧
   s'.heap.get? D = some { cls:=.type "list",data:=.seq its.toArray k }∧W i n ys H') (hs2 s2 H2 C fp) ?_ m0 ⟨0,[],[],0,H2,IB,T.keep 0 _ _ st2 (fun b hb o e=>keep1 b o e),fun b hb=>(f2 b hb).1,I2.hok.fresh szD,.nil,gD1,w0⟩
  rintro n s3 ⟨i,ys,its,k,H3,I3,st3,fr3,hD3,r3,g3,w3⟩
  have I3p:Inv Y [(D,{ cls:=.type "list",data:=.seq its.toArray k })] (bst own.length σ js) H3 s3:=I3.pins_of fun p hp=>by
   have e:p = (D,{ cls:=.type "list",data:=.seq its.toArray k }):=by simpa using hp
   subst e
   exact ⟨g3,hD3,neDC,notFs,fun v z=>by cases z⟩
  have f3:∀ b ∈ fp,FpOk Y [(D,{ cls:=.type "list",data:=.seq its.toArray k })] H3 b:=fpB fr3 fun p hp=>by
   have e:p = (D,{ cls:=.type "list",data:=.seq its.toArray k }):=by simpa using hp
   rw [e]
  rcases turn i n ys H3 w3 with ⟨stop,hz,qn⟩ | ⟨go,N,hN,step⟩
  ·refine thn (T.done Y rfl rfl rfl hc i _ s3 _ H3 (fun _ _=>False) I3p f3 st3 stop) fun r s4 ⟨hr,I4⟩=>?_
   subst hr
   refine hR C _ s4 ?_
   have g4:=(I4.pin (D,{ cls:=.type "list",data:=.seq its.toArray k }) (by simp [Y,blk])).1
   obtain ⟨m,hn4,_⟩:=id I4.loc
   have un:Un (frs X.stack) fp H2 H3 s2.heap s4.heap:=I4.base
   have I5:Inv X pins σ H3 s4:=I2.call' I4.os un I4.hok I4.bare fun b hb=>let ⟨_,b1,_,b3,b4,b5⟩:=f2 b hb; ⟨b3,b1,b4,b5⟩
   have I6:=I5.track (ys:=ys) (its:=its) (n:=k) hD3 (Nat.le_trans I2.sz szD) locD.1 (fun x d e=>(clD x d e).1) (fun p hp=>(pinD p hp).1) hz r3 g4
   refine ⟨D,_,m,rfl,hn4,I6,?_,Nat.le_trans I2.sz szC,locD.2,fun x d e=>(clD x d e).2,fun p hp=>(pinD p hp).2,qn D hD3⟩
   rw [a0l (Ne.symm neDC)]
   exact I4.free
  ·refine thn (T.item Y rfl rfl rfl hc i _ s3 _ H3 (fun _ _=>False) I3p f3 st3 go) fun r s4 ⟨u,hr,h4⟩=>?_
   subst hr
   refine thn h4 fun _ s5 ⟨x,H5,I5,r5,y5,st5,fr5⟩=>?_
   have f5:∀ b ∈ fp,FpOk Y [(D,{ cls:=.type "list",data:=.seq its.toArray k })] H5 b:=fun b hb=>⟨fr5 b hb,(f3 b hb).2⟩
   have I5':=I5.pinned f5 (T.obj _ _ st5)
   refine thn (hg s2 H2 C fp B.nd _ s5 _ H5 x u _ I5' r5 (step x H5 y5)) fun _ s6 ⟨σ6,H6,I6,d6,q6⟩=>?_
   refine thn (ht s2 H2 C fp _ s6 σ6 H6 _ I6 q6) fun ok s7 ⟨H7,I7,q7⟩=>?_
   have after:∀ {s8:Shared} {H8:Hp} {its:List Value} {k:Nat},Inv Y ([(D,{ cls:=.type "list",data:=.seq its.toArray k })] ++ g0h fp s5.heap) σ6 H8 s8 →
     s8.heap.get? D = some { cls:=.type "list",data:=.seq its.toArray k }∧H8 D = none∧tn (i + 1) s8.heap∧(∀ b ∈ fp,H8 b = none)∧Inv Y [] (bst own.length σ js) H8 s8:=fun {s8 H8 its k} I8=>by
    have p8:=I8.pin (D,{ cls:=.type "list",data:=.seq its.toArray k }) (by simp [Y,blk])
    refine ⟨p8.1,p8.2.1,T.keep _ _ _ st5 fun b hb o e=>(I8.pin (b,o) (List.mem_append_right _ (List.mem_append_right _ (c0p hb e)))).1,fun b hb=>?_,?_⟩
    ·obtain ⟨o,e,_⟩:=T.obj _ _ st5 b hb
     exact (I8.pin (b,o) (List.mem_append_right _ (List.mem_append_right _ (c0p hb e)))).2.1
    ·refine (I8.pins_of (pins':=[]) fun p hp=>absurd hp (by simp [Y,blk])).weak ?_ fun j v e=>?_
     ·rw [I8.len,l0t]
      show _ = (own ++ capN X.N js).length
      unfold capN
      simp
     ·rcases Nat.lt_or_ge j own.length with z | z
      ·exfalso
       unfold bst at e
       rw [List.getElem?_append_left (by simpa using z),List.getElem?_replicate] at e
       split at e <;> cases e
      ·unfold bst at e
       rw [List.getElem?_append_right (by simpa using z),List.length_replicate,← d6,List.getElem?_drop] at e
       rw [← e]
       congr 1
       omega
   cases ok with
   | false =>
    rw [if_neg Bool.false_ne_true] at q7 ⊢
    obtain ⟨m',hm,w7⟩:=hN _ _ q7
    obtain ⟨a1,a2,a3,a4,a5⟩:=after I7
    exact ⟨m',hm,i + 1,ys,its,k,H7,a5,a3,a4,a2,r3,a1,w7⟩
   | true =>
    rw [if_pos rfl] at q7 ⊢
    refine thn (hi2 s2 H2 C fp _ s7 σ6 H7 _ I7 q7) fun v8 s8 h8=>thn h8 fun itv s9 h9=>?_
    refine v0n (Y:=Y) (pl:=g0h fp s5.heap) rfl hc (hg2 s2 H2 C fp B.nd) (ht2 s2 H2 C fp) (he s2 H2 C fp) szD neDC notFs clB (fun p hp=>?_) h9 r3 fun zs its' k' H' s' I' r' g' d' n'=>⟨rfl,?_⟩
    ·have hp':p ∈ g0h fp s5.heap:=by simpa [Y,blk] using hp
     exact (fpD p.1 (p0j hp').1).1
    ·obtain ⟨m',hm,w8⟩:=hN _ _ n'
     have I'p:Inv Y ([(D,{ cls:=.type "list",data:=.seq its'.toArray k' })] ++ g0h fp s5.heap) σ6 H' s':=I'.pins_of fun p hp=>by
      rcases List.mem_append.mp hp with z | z
      ·have e:p = (D,{ cls:=.type "list",data:=.seq its'.toArray k' }):=by simpa using z
       subst e
       exact ⟨g',d',neDC,notFs,fun v z=>by cases z⟩
      ·exact I'.pin p (List.mem_append_right _ z)
     obtain ⟨a1,a2,a3,a4,a5⟩:=after I'p
     exact ⟨m',hm,i + 1,zs,its',k',H',a5,a3,a4,d',r',g',w8⟩
 exact codeAny_compStart_list (loop _ rfl) (T.self _ 0 _ _ _ (T.keep 0 _ _ st2 fun b hb o e=>keep1 b o e) (loop _ rfl))
theorem b1k {elt tg iter tg2 iter2:Expr} {ifs ifs2:List Expr} {scope:Scope} {pos:Pos} (own:List Str) (js:List Nat) {wi wi2:TI} {g g2:TG} {tc tc2:TT} {te:TE} (hc:X.calm = true) (B:Blk X scope own js) (hi:PI X tg iter wi)
  (hg:∀ s H C fp,(own ++ capN X.N js).Nodup→PG (blk X scope (own ++ capN X.N js) s H C fp) tg g) (ht:∀ s H C fp,PTs (blk X scope (own ++ capN X.N js) s H C fp) ifs tc)
  (hi2:∀ s H C fp,PI (blk X scope (own ++ capN X.N js) s H C fp) tg2 iter2 wi2) (hg2:∀ s H C fp,(own ++ capN X.N js).Nodup→PG (blk X scope (own ++ capN X.N js) s H C fp) tg2 g2) (ht2:∀ s H C fp,PTs (blk X scope (own ++ capN X.N js) s H C fp) ifs2 tc2) (he:∀ s H C fp,PE (blk X scope (own ++ capN X.N js) s H C fp) elt te)
  (hs:∀ x,foldedSetIterable iter X.env x = pure x:=by intro _; rfl) (hs2:∀ s H C fp x,foldedSetIterable iter2 (blk X scope (own ++ capN X.N js) s H C fp).env x = pure x:=by intros; rfl):PE X (.ListComp elt [⟨tg,iter,ifs,0⟩,⟨tg2,iter2,ifs2,0⟩] scope pos) (d1a own.length js wi g tc wi2 g2 tc2 te):=by
 intro pins s σ H Q I h
 have hcl:closureFor scope X.env = pure (e0x scope X.env):=f0w fun x hx hf=>I.ok.has x.1 (B.free x hx hf)
 rw [eval_ListComp]
 refine wpAny_comprehension_free (use:=none) rfl hs hcl B.kind B.names (thn (hi pins s σ H _ I h) fun v s1 h1=>thn h1 fun itv s2 h2=>?_)
 refine s0i (RR:=fun acc C=>compPost (model X.prog X.w) X.A X.xe none (EP X pins σ Q) acc C) hc B hg ht hi2 hg2 ht2 hs2 he h2 fun C acc s' hb=>?_
 obtain ⟨D,H',m,rfl,hn,I',c1,c2,c3,c4,c5,q⟩:=hb
 exact ⟨m,hn,fun h' hs'=>⟨.ref D,H',I'.young hs' c1 c2 c3 c4 c5,rfl,q⟩⟩
end
def i0k (n2:Nat) (c:En→Prop) (g:AG) (tc:AT) (te:AE) (k:List D→En→Prop):List D→List D→En→Prop
 | [],acc,ρ=>c ρ∧k acc ρ
 | d :: ds,acc,ρ=>c ρ∧acc.length ≤ 1000000∧g d ρ fun ρ1=>tc ρ1 fun b ρ2=>if b = true then te ρ2 fun r ρ3=>sto [r.frz] ρ3 fun es ρ4=>i0k n2 c g tc te k ds (acc ++ es) (List.replicate n2 .un ++ ρ4.drop n2) else i0k n2 c g tc te k ds acc (List.replicate n2 .un ++ ρ2.drop n2)
def j0n (n2 n:Nat) (js:List Nat) (c:En→Prop) (g:AG) (tc:AT) (i2:AI) (g2:AG) (tc2:AT) (te:AE) (q:List D→En→Prop):List D→List D→En→Prop
 | [],acc,ρ=>c ρ∧acc.length ≤ 1000000∧q acc ρ
 | d :: ds,acc,ρ=>c ρ∧g d (blkE n js ρ) fun ρ1=>tc ρ1 fun b ρ2=>if b = true then i2 ρ2 fun ds2 c2 ρ3=>i0k n2 c2 g2 tc2 te (fun acc' ρ4=>j0n n2 n js c g tc i2 g2 tc2 te q ds acc' (back ρ (js.map R.o) (ρ4.drop n))) ds2 acc ρ3 else j0n n2 n js c g tc i2 g2 tc2 te q ds acc (back ρ (js.map R.o) (ρ2.drop n))
def k1i (n2 n:Nat) (js:List Nat) (i:AI) (g:AG) (tc:AT) (i2:AI) (g2:AG) (tc2:AT) (te:AE):AE:=fun ρ q=>i ρ fun ds c ρ1=>j0n n2 n js c g tc i2 g2 tc2 te (fun acc ρ2=>q (.f acc) ρ2) ds [] ρ1
section
variable {K:PySem.W.Frag}
theorem w0o {n2:Nat} {g2:TG} {tc2:TT} {te:TE} {ag2:AG} {atc2:AT} {ate:AE} (hg:TGok K (fun j=>decide (n2 ≤ j)) g2 ag2) (hc:TTok K tc2 atc2) (he:TEok K te ate)
  {F:Fr} {σ:St} {ρ:En} {H:Hp} {J:It} {ds:List D} {c:En→Prop} {k:List D→En→Prop} {N:List V→Hp→Prop} {ys:List V} {acc:List D}
  (hpin:∀ i a,F.pin i a→n2 ≤ i) (hn:n2 ≤ σ.length) (h0:σ = List.replicate n2 none ++ σ.drop n2) (r:Rel K F σ ρ H)
  (wk:∀ ρ2 H2,Same (hid H (hs F σ ρ)) (hid H2 (hs F σ ρ2))→(∀ i,SvOk K (hid H2 (hs F σ ρ2)) H2 σ[i]? (gt ρ2 i))→(∀ a,hs F σ ρ2 a→Nt H2 a)→c ρ2→WkAt K (hs F σ ρ2) H2 J ds)
  (rd:RepDs K (hid H (hs F σ ρ)) ys acc) (h:i0k n2 c ag2 atc2 ate k ds acc ρ)
  (kk:∀ acc' ρ' ys' H',k acc' ρ'→Rel K F σ ρ' H'→Kp σ ρ ρ' H H'→RepDs K (hid H' (hs F σ ρ')) ys' acc'→N ys' H'):h1f J g2 tc2 te N σ ys H:=by
 refine ⟨fun i m ys H'=>∃ ρ' acc,m = ds.length - i∧i ≤ ds.length∧Rel K F σ ρ' H'∧Kp σ ρ ρ' H H'∧RepDs K (hid H' (hs F σ ρ')) ys acc∧i0k n2 c ag2 atc2 ate k (ds.drop i) acc ρ',⟨ds.length,ρ,acc,rfl,Nat.zero_le _,r,.refl,rd,h⟩,?_⟩
 rintro i m ys H' ⟨ρ',acc,rfl,hl,r',k',rd,h'⟩
 have w:c ρ'→WkAt K (hs F σ ρ') H' J ds:=fun hc=>wk ρ' H' k'.vis r'.sl (fun a z=>c1a r' z) hc
 rcases Nat.lt_or_ge i ds.length with lt | ge
 ·right
  rw [List.drop_eq_getElem_cons lt] at h'
  unfold i0k at h'
  obtain ⟨hcc,hz,h'⟩:=h'
  obtain ⟨go,yld⟩:=(w hcc i).1 ds[i] (List.getElem?_eq_getElem lt)
  have yl:ys.length = acc.length:=rd.length
  refine ⟨go,o0v (by omega),fun zs H2=>∃ ρ2 acc2,Rel K F σ ρ2 H2∧Kp σ ρ ρ2 H H2∧RepDs K (hid H2 (hs F σ ρ2)) zs acc2∧i0k n2 c ag2 atc2 ate k (ds.drop (i + 1)) acc2 ρ2,
   fun zs H2 ⟨ρ2,acc2,a1,a2,a3,a5⟩=>⟨ds.length - (i + 1),by omega,ρ2,acc2,rfl,lt,a1,a2,a3,a5⟩,fun x H2 hy=>?_⟩
  obtain ⟨sm,rx⟩:=yld x H2 hy
  have k':Kp σ ρ ρ' H H2:=k'.trans ⟨fun a o e _=>sm a o e,fun _ h=>h⟩
  have rd:RepDs K (hid H2 (hs F σ ρ')) ys acc:=rd.same (b0k fun a o e n=>⟨sm a o e,n⟩)
  have r':=r'.grow sm
  refine hg F σ ρ' H2 x _ _ _ (fun i a h=>decide_eq_true (hpin i a h)) r' rx h' fun σ3 ρ3 h3 r3 l3 p3 o3=>?_
  have drop3:σ3.drop n2 = σ.drop n2:=by
   apply List.ext_getElem?
   intro i
   rw [List.getElem?_drop,List.getElem?_drop]
   exact p3 (n2 + i) (decide_eq_true (Nat.le_add_right ..))
  have ret:∀ ρ4 H4,Rel K F σ3 ρ4 H4→Kp σ3 ρ3 ρ4 H2 H4→Rel K F σ (List.replicate n2 .un ++ ρ4.drop n2) H4∧Kp σ ρ' (List.replicate n2 .un ++ ρ4.drop n2) H2 H4∧Same (hid H4 (hs F σ3 ρ4)) (hid H4 (hs F σ (List.replicate n2 .un ++ ρ4.drop n2))):=fun ρ4 H4 r4 k4=>by
   obtain ⟨f1,f2⟩:=r4.forget (n:=n2) (by omega) hpin
   rw [drop3,← h0] at f1 f2
   refine ⟨f1,⟨fun a o e n=>k4.st a o e fun ⟨j,hj,ej⟩=>?_,fun j hj=>?_⟩,f2⟩
   ·obtain ⟨b1,b2⟩:=o3 j hj
    rw [b2] at ej
    exact n ⟨j,b1,ej⟩
   ·rw [q0a] at hj
    split at hj
    ·cases hj
    ·rename_i hnj
     rw [l0j,show n2 + (j - n2) = j by omega] at hj
     exact (o3 j (k4.sb j hj)).1
  refine ⟨⟨l3,fun j v e=>?_⟩,hc F σ3 ρ3 H2 _ _ r3 h3 fun b ρ4 H4 h4 r4 k4=>?_⟩
  ·rcases Nat.lt_or_ge j n2 with z | z
   ·exfalso
    rw [h0,List.getElem?_append_left (by simpa using z),List.getElem?_replicate] at e
    split at e <;> cases e
   ·rw [p3 j (decide_eq_true z)]; exact e
  ·cases b with
   | false =>
    obtain ⟨b1,b2,_⟩:=ret ρ4 H4 r4 k4
    exact ⟨_,acc,b1,k'.trans b2,rd.same b2.vis,h4⟩
   | true =>
    refine he F σ3 ρ4 H4 _ _ r4 h4 fun r5 ρ5 v H5 h5 o5=>?_
    obtain ⟨r5',k5,i5⟩:=o5.inF
    obtain ⟨d,ρ6,h6,r6,k6,rv⟩:=q0y r5' i5 h5
    obtain ⟨b1,b2,b3⟩:=ret ρ6 H5 r6 (k4.trans (k5.trans k6))
    exact ⟨_,acc ++ [d],b1,k'.trans b2,(rd.same b2.vis).append (.one (rv.same b3)),h6⟩
 ·left
  rw [List.drop_eq_nil_of_le ge] at h'
  unfold i0k at h'
  obtain ⟨hcc,h'⟩:=h'
  exact ⟨(w hcc i).2 ge,kk acc ρ' ys H' h' r' k' rd⟩
theorem w0q {n2 n:Nat} {js:List Nat} {wi wi2:TI} {g g2:TG} {tc tc2:TT} {te:TE} {ai ai2:AI} {ag ag2:AG} {atc atc2:AT} {ate:AE} (hi:TIok K (fun _=>true) wi ai) (hg:TGok K (fun j=>decide (j < n2) || decide (n ≤ j)) g ag) (hc:TTok K tc atc)
  (hi2:TIok K (fun _=>true) wi2 ai2) (hg2:TGok K (fun j=>decide (n2 ≤ j)) g2 ag2) (hc2:TTok K tc2 atc2) (he:TEok K te ate)
  (hn:n2 ≤ n:=by decide) (hd:dis (js.map R.o) = true:=by rfl):TEok K (d1a n js wi g tc wi2 g2 tc2 te) (k1i n2 n js ai ag atc ai2 ag2 atc2 ate):=by
 intro F σ ρ H q Q r h k
 refine hi F σ ρ H _ _ r h fun ds c ρ1 J H1 h1 r1 k1 wk=>?_
 have hd':dis (blkR n js) = true:=by rw [o0k]; exact hd
 refine ⟨fun i m ys H'=>∃ ρ' acc,m = ds.length - i∧i ≤ ds.length∧Rel K F σ ρ' H'∧Kp σ ρ1 ρ' H1 H'∧RepDs K (hid H' (hs F σ ρ')) ys acc∧j0n n2 n js c ag atc ai2 ag2 atc2 ate (fun acc ρ2=>q (.f acc) ρ2) (ds.drop i) acc ρ',⟨ds.length,ρ1,[],rfl,Nat.zero_le _,r1,.refl,.nil,h1⟩,?_⟩
 rintro i m ys H' ⟨ρ',acc,rfl,hl,r',k',rd,h'⟩
 have w:c ρ'→WkAt K (hs F σ ρ') H' J ds:=fun hc=>wk σ ρ' H' k'.vis r'.sl (fun _ _ _ e=>e) (fun a z=>c1a r' z) hc
 have yl:ys.length = acc.length:=rd.length
 rcases Nat.lt_or_ge i ds.length with lt | ge
 ·right
  rw [List.drop_eq_getElem_cons lt] at h'
  unfold j0n at h'
  obtain ⟨hcc,h'⟩:=h'
  obtain ⟨go,yld⟩:=(w hcc i).1 ds[i] (List.getElem?_eq_getElem lt)
  refine ⟨go,fun zs H2=>∃ ρ2 acc2,Rel K F σ ρ2 H2∧Kp σ ρ1 ρ2 H1 H2∧RepDs K (hid H2 (hs F σ ρ2)) zs acc2∧j0n n2 n js c ag atc ai2 ag2 atc2 ate (fun acc ρ2=>q (.f acc) ρ2) (ds.drop (i + 1)) acc2 ρ2,
   fun zs H2 ⟨ρ2,acc2,a1,a2,a3,a5⟩=>⟨ds.length - (i + 1),by omega,ρ2,acc2,rfl,lt,a1,a2,a3,a5⟩,fun x H2 hy=>?_⟩
  obtain ⟨sm,rx⟩:=yld x H2 hy
  have r0':=r'
  have k':Kp σ ρ1 ρ' H1 H2:=k'.trans ⟨fun a o e _=>sm a o e,fun _ h=>h⟩
  have rd:RepDs K (hid H2 (hs F σ ρ')) ys acc:=rd.same (b0k fun a o e n=>⟨sm a o e,n⟩)
  have r':=r0'.grow sm
  have src:=u0j (K:=K) (F:=F) (σ:=σ) (ρ:=ρ') (H:=H2) n js
  have rb:=r'.sub src hd'
  have hs2:=x0b r' src
  rw [d0f] at rb hs2
  have pin0:∀ i a,(g0g F σ ρ' H2 (bst n σ js) (blkE n js ρ')).pin i a→n ≤ i:=fun i a h=>by
   rcases h with h | h
   ·exact u0k h.1
   ·exact h.elim
  have hlen:(bst n σ js).length = n + js.length:=l0t
  have ret:∀ σ2 ρ2 H3,Rel K (g0g F σ ρ' H2 (bst n σ js) (blkE n js ρ')) σ2 ρ2 H3→σ2.length = (bst n σ js).length→σ2.drop n = capt σ js→(∀ i,(gt ρ2 i).own = true→(gt (blkE n js ρ') i).own = true) →
    Rel K F σ (back ρ' (js.map R.o) (ρ2.drop n)) H3∧Kp σ ρ' (back ρ' (js.map R.o) (ρ2.drop n)) H2 H3∧Same (hid H3 (hs (g0g F σ ρ' H2 (bst n σ js) (blkE n js ρ')) σ2 ρ2)) (hid H3 (hs F σ (back ρ' (js.map R.o) (ρ2.drop n)))):=fun σ2 ρ2 H3 rr hlen2 hdrop hown=>by
   obtain ⟨f1,f2⟩:=rr.forget (n:=n) (by omega) pin0
   rw [hdrop] at f1 f2
   have f1':Rel K (g0g F σ ρ' H2 (bst n σ js) ((blkR n js).map (d0u ρ'))) (bst n σ js) (List.replicate n .un ++ ρ2.drop n) H3:=by rw [d0f]; exact f1
   have bk:=r'.back src hd' f1' fun i hi=>by
    rw [d0f]
    rw [q0a] at hi
    split at hi
    ·cases hi
    ·rename_i hni
     rw [l0j,show n + (i - n) = i by omega] at hi
     exact hown i hi
   have ln:(List.replicate n Sv.un ++ ρ2.drop n).length = n + js.length:=by
    have:=rr.len
    simp; omega
   rw [q0n js ρ' n _ ln,List.drop_left' (by simp),d0f] at bk
   exact ⟨bk.1,bk.2.1,f2.trans bk.2.2⟩
  refine hg _ (bst n σ js) (blkE n js ρ') H2 x _ _ _ (fun i a h=>by simp [pin0 i a h]) rb (by rw [hs2]; exact rx) h' fun σ2 ρ2 h2 r2 l2 p2 o2=>?_
  have hdrop:σ2.drop n = capt σ js:=by
   have:σ2.drop n = (bst n σ js).drop n:=by
    apply List.ext_getElem?
    intro i
    rw [List.getElem?_drop,List.getElem?_drop]
    exact p2 (n + i) (by simp)
   rw [this]
   unfold bst
   rw [List.drop_left' (by simp)]
  have hin:σ2 = List.replicate n2 none ++ σ2.drop n2:=by
   apply List.ext_getElem?
   intro j
   rcases Nat.lt_or_ge j n2 with z | z
   ·rw [p2 j (by simp [z]),List.getElem?_append_left (by simpa using z)]
    unfold bst
    rw [List.getElem?_append_left (by simp; omega),List.getElem?_replicate,List.getElem?_replicate,if_pos z,if_pos (by omega)]
   ·rw [List.getElem?_append_right (by simpa using z),List.length_replicate,List.getElem?_drop]
    congr 1; omega
  have rdb:RepDs K (hid H2 (hs (g0g F σ ρ' H2 (bst n σ js) (blkE n js ρ')) σ2 ρ2)) ys acc:=by
   rw [← hs2] at rd
   refine rd.same (b0k fun a o e nn=>⟨e,fun z=>nn ?_⟩)
   rcases z with z | ⟨j,hj,ej⟩
   ·exact .inl z
   ·obtain ⟨b1,b2⟩:=o2 j hj
    rw [b2] at ej
    exact .inr ⟨j,b1,ej⟩
  refine ⟨hdrop,hc _ σ2 ρ2 H2 _ _ r2 h2 fun b ρ3 H3 h3 r3 k3=>?_⟩
  cases b with
  | false =>
   obtain ⟨b1,b2,_⟩:=ret σ2 ρ3 H3 r3 l2 hdrop fun i hi=>(o2 i (k3.sb i hi)).1
   exact ⟨_,acc,b1,k'.trans b2,rd.same b2.vis,h3⟩
  | true =>
   refine hi2 _ σ2 ρ3 H3 _ _ r3 h3 fun ds2 c2 ρ4 J2 H4 h4 r4 k4 wk2=>?_
   refine w0o hg2 hc2 he (fun i a h=>Nat.le_trans hn (pin0 i a h)) (by omega) hin r4 (fun ρ5 H5 a1 a2 a3 a4=>wk2 σ2 ρ5 H5 a1 a2 (fun _ _ _ e=>e) a3 a4) (rdb.same (k3.trans k4).vis) h4 fun acc' ρ5 ys' H5 h5 r5 k5 rd5=>?_
   obtain ⟨b1,b2,b3⟩:=ret σ2 ρ5 H5 r5 l2 hdrop fun i hi=>(o2 i (k3.sb i (k4.sb i (k5.sb i hi)))).1
   exact ⟨_,acc',b1,k'.trans b2,rd5.same b3,h5⟩
 ·left
  rw [List.drop_eq_nil_of_le ge] at h'
  unfold j0n at h'
  obtain ⟨hcc,hz,h'⟩:=h'
  refine ⟨(w hcc i).2 ge,small (by omega),fun l hl'=>?_⟩
  exact ((k.after k1).after k').new r' h' rd hl'
end
def stp {α:Type} (xs:List α) (c l:Nat):List α:=(sliceRange ((min c xs.length:Nat):Int) ((xs.length:Nat):Int) (l:Int)).filterMap (xs[·]?)
section
variable {M:Model} {A:Around} {E:Value→Value→Shared→Prop} {s:Shared} {base:Heap} {env:Env} {outer:List Env} {L e C:Addr} {oe:Obj} {vs:Array Value} {od:Option Addr}
theorem p0r {E0:Value→Shared→Prop} {hd:Value} {had:Bool} {Q:Value→Unit→Shared→Prop} (fr:A.frames = some (env :: outer)) (ff:s.heap.FunFrames base (env :: outer)) (lf:env.frame = some L)
  (ge:s.heap.get? e = some oe) (gc:oe.cls = .ref C) (gd:oe.dict = od) (gf:oe.data = .fields vs) (gz:1 < vs.size)
  (fin:∀ h' T,s.heap.objs.size ≤ T→Fly od h' e C T→(∀ b o,s.heap.get? b = some o→b ≠ e→b ∉ frs (env :: outer)→h'.get? b = some o)→(∀ b o,s.heap.get? b = some o→b ≠ e→∃ sl,h'.get? b = some { o with slots:=sl })→Q (.ref e) () { s with heap:=h' }) :
  wpAny M A (do let a ← frameOf env; let pl ← entryPlaceOf L had; let b ← EntryCells.newEntry hd a .none (rawInt L) .none pl; setField (.ref e) 1 b) (fun _ s'=>cameBackBy M A env (fun x s2=>wpAny M A (leaving env x) (Q x) (E x) s2) (.ref e) s') E0 s:=by
 have off:e ∉ frs (env :: outer):=fun q=>by
  obtain ⟨_,o,go,no⟩:=ff.mem q
  cases ge.symm.trans go
  exact no vs gf
 refine wpAny_bind (wpAny_frameOf_fun fr ff lf fun ha sa=>wpAny_bind (wpAny_entryPlaceOf fun pl ip=>?_))
 unfold EntryCells.newEntry newFields
 refine wpAny_bind (wpAny_newObj_type ?_ (ip.sizeOk5 _ _ _ _ _))
 have ge1:ha.get? e = some oe:=(sa.2.1 e off).trans ge
 have sz:ha.objs.size = s.heap.objs.size:=sa.1
 generalize hT:([hd,Value.ref L,.none,rawInt L,.none] ++ (if pl.isEmpty then List.replicate 6 Value.none else pl)).toArray = tv
 have tz:3 < tv.size:=by rw [← hT,List.size_toArray,List.length_append]; simp only [List.length_cons,List.length_nil]; omega
 have neT:e ≠ ha.objs.size:=Nat.ne_of_lt (Heap.lt_size ge1)
 refine wpAny_setField (Heap.get?_push_of_some _ ge1) gf gz ?_
 generalize hp:ha.push { cls:=.type "traceback",dict:=none,data:=.fields tv } = hb
 have gT:hb.get? ha.objs.size = some { cls:=.type "traceback",dict:=none,data:=.fields tv }:=by rw [← hp]; exact Heap.get?_push_size _ rfl
 have kb:∀ b o,ha.get? b = some o→hb.get? b = some o:=fun b o q=>by rw [← hp]; exact Heap.get?_push_of_some _ q
 have w1:=Obj.data_mapFields gf fun a=>a.setIfInBounds 1 (.ref ha.objs.size)
 have g3:=Heap.get?_update_self (Obj.mapFields fun a=>a.setIfInBounds 1 (.ref ha.objs.size)) (kb e oe ge1) (Obj.isFreed_of_fields w1)
 have gT3:=(Heap.get?_update_other hb (Obj.mapFields fun a=>a.setIfInBounds 1 (.ref ha.objs.size)) neT).trans gT
 unfold cameBackBy
 refine wpAny_bind (wpAny_field g3 w1 (x:=.ref ha.objs.size) (by simp [gz]) ?_)
 rw [if_neg (by simp:¬ (Value.ref ha.objs.size == Value.none) = true)]
 rw [lf]
 unfold setFlight
 refine wpAny_bind (wpAny_field g3 w1 (x:=.ref ha.objs.size) (by simp [gz]) ?_)
 rw [if_pos (by simp:(Value.ref ha.objs.size != Value.none) = true)]
 refine wpAny_setField gT3 rfl tz ?_
 generalize hh2:hb.update e (Obj.mapFields fun a=>a.setIfInBounds 1 (.ref ha.objs.size)) = hc at g3 gT3 ⊢
 have g4:=(Heap.get?_update_other hc (Obj.mapFields fun a=>a.setIfInBounds 3 ((some L:Option Addr).elim Value.none fun f=>rawInt f)) neT.symm).trans g3
 have w4:=Obj.data_mapFields (o:={ cls:=.type "traceback",dict:=none,data:=.fields tv }) rfl fun a=>a.setIfInBounds 3 ((some L:Option Addr).elim Value.none fun f=>rawInt f)
 have gT4:=Heap.get?_update_self (Obj.mapFields fun a=>a.setIfInBounds 3 ((some L:Option Addr).elim Value.none fun f=>rawInt f)) gT3 (Obj.isFreed_of_fields w4)
 unfold leaving noteFrame
 simp only [lf]
 refine wpAny_bind (wpAny_bind (wpAny_field g4 w1 (x:=.ref ha.objs.size) (by simp [gz]) ?_))
 rw [if_pos (by simp:(Value.ref ha.objs.size != Value.none) = true)]
 refine wpAny_bind (wpAny_field gT4 w4 (x:=rawInt L) (by simp [tz]) ?_)
 rw [if_pos (by simp:(rawInt L == rawInt L) = true)]
 refine wpAny_pure ?_
 unfold setFlight
 refine wpAny_bind (wpAny_field g4 w1 (x:=.ref ha.objs.size) (by simp [gz]) ?_)
 rw [if_pos (by simp:(Value.ref ha.objs.size != Value.none) = true)]
 refine wpAny_setField gT4 w4 (by simp [tz]) ?_
 have w5:=Obj.data_mapFields w4 fun a=>a.setIfInBounds 3 ((none:Option Addr).elim Value.none fun f=>rawInt f)
 have on:∀ b o,b ≠ e→ha.get? b = some o→((hc.update ha.objs.size (Obj.mapFields fun a=>a.setIfInBounds 3 ((some L:Option Addr).elim Value.none fun f=>rawInt f))).update ha.objs.size (Obj.mapFields fun a=>a.setIfInBounds 3 ((none:Option Addr).elim Value.none fun f=>rawInt f))).get? b = some o:=fun b o ne q=>by
  rw [Heap.get?_update_other _ _ (Nat.ne_of_gt (Heap.lt_size q)),Heap.get?_update_other _ _ (Nat.ne_of_gt (Heap.lt_size q)),← hh2,Heap.get?_update_other _ _ (Ne.symm ne)]
  exact kb b o q
 refine fin _ ha.objs.size (by rw [sz]; exact Nat.le_refl _) ⟨_,_,_,_,(Heap.get?_update_other _ _ neT.symm).trans g4,(Obj.cls_mapFields _ _).trans gc,?_,w1,by simp [gz],neT.symm,Heap.get?_update_self _ gT4 (Obj.isFreed_of_fields w5),w5,by simp [tz]⟩ (fun b o q ne nf=>on b o ne ((sa.2.1 b nf).trans q)) fun b o q ne=>?_
 ·obtain ⟨oc,od,oda,osl⟩:=oe
  cases gf
  exact gd
 ·obtain ⟨sl,q'⟩:=sa.2.2 b o q
  exact ⟨sl,on b _ ne q'⟩
theorem lv2 {E0:Value→Shared→Prop} {hv:Value} {Q:Value→Unit→Shared→Prop} (fr:A.frames = some (env :: outer)) (ff:s.heap.FunFrames base (env :: outer)) (lf:env.frame = some L)
  (ge:s.heap.get? e = some oe) (gc:oe.cls = .ref C) (gd:oe.dict = od) (gf:oe.data = .fields vs) (g1:vs[1]? = some hv)
  (hh:hv = .none ∨ ∃ T oT ts,hv = .ref T∧T ≠ e∧s.heap.get? T = some oT∧oT.data = .fields ts∧ts[3]? = some .none)
  (fin:∀ h' T,s.heap.objs.size ≤ T→Fly od h' e C T→Gone (frs (env :: outer)) s.heap h' e hv→Q (.ref e) () { s with heap:=h' }) :
  wpAny M A (noteFrame (.ref e) env) (fun _ s'=>cameBackBy M A env (fun x s2=>wpAny M A (leaving env x) (Q x) (E x) s2) (.ref e) s') E0 s:=by
 have gz:=(Array.getElem?_eq_some_iff.mp g1).1
 unfold noteFrame
 simp only [lf]
 refine wpAny_bind (wpAny_field ge gf g1 ?_)
 rcases hh with rfl | ⟨T,oT,ts,rfl,nT,gT,fT,t3⟩
 ·rw [if_neg (by decide)]
  exact p0r fr ff lf ge gc gd gf gz fun h' T' q1 q2 q3 q4=>fin h' T' q1 q2 ⟨fun b o a1 a2 _ a4=>q3 b o a1 a2 a4,fun b o a1 a2 _=>q4 b o a1 a2⟩
 ·rw [if_pos (by simp:(Value.ref T != Value.none) = true)]
  refine wpAny_bind (wpAny_field gT fT t3 ?_)
  rw [if_neg (by simp [rawInt]:¬ (Value.none == rawInt L) = true)]
  refine wpAny_bind (wpAny_setField gT fT (Array.getElem?_eq_some_iff.mp t3).1 ?_)
  have ot:∀ b,b ≠ T→(s.heap.update T (Obj.mapFields fun a=>a.setIfInBounds 3 Value.none)).get? b = s.heap.get? b:=fun b q=>Heap.get?_update_other _ _ (Ne.symm q)
  have gT':=Heap.get?_update_self (Obj.mapFields fun a=>a.setIfInBounds 3 Value.none) gT (Obj.isFreed_of_fields (Obj.data_mapFields fT _))
  have nr:∀ b o,s.heap.get? b = some o→(∀ us,o.data ≠ .fields us)→b ≠ T:=fun b o q nf z=>by
   subst z
   cases gT.symm.trans q
   exact nf ts fT
  refine p0r fr (ff.of_keeps fun b o q nf=>⟨o,(ot b (nr b o q nf)).trans q,rfl⟩) lf ((ot e nT.symm).trans ge) gc gd gf gz fun h' T' q1 q2 q3 q4=>fin h' T' ?_ q2 ⟨fun b o a1 a2 a3 a4=>q3 b o ((ot b fun z=>a3 (by rw [z])).trans a1) a2 a4,fun b o a1 a2 a3=>q4 b o ((ot b fun z=>a3 (by rw [z])).trans a1) a2⟩
  rwa [Heap.size_update] at q1
end
def Cx.pz (X:Cx):Value→Shared→Prop:=notedBy (model X.prog X.w) X.A X.env (cameBackBy (model X.prog X.w) X.A X.env X.xe)
section
variable {X:Cx} {pins:List (Addr × Obj)} {σ:St} {H:Hp} {s:Shared} {h0:Heap} {e C:Addr} {od:Option Addr}
theorem lvI2 {E0:Value→Shared→Prop} {E:Value→Value→Shared→Prop} {Q:Value→Unit→Shared→Prop} (I:Inv X pins σ H s) (hs:X.stack = X.env :: X.outer) (hf:X.env.frame = some X.env.locals) (hsub:∀ b o,h0.get? b = some o→b < s.heap.objs.size) (hot:Hot od h0 s.heap H e C)
  (fin:∀ h' ch,(∀ b ∈ ch,h0.get? b = none∧H b = none)→e ∈ ch→Un (frs X.stack) ch H H s.heap h'→HOk X.prog X.w H h'→Hot od h0 h' H e C→Q (.ref e) () { s with heap:=h' }) :
  wpAny (model X.prog X.w) X.A (noteFrame (.ref e) X.env) (fun _ s'=>cameBackBy (model X.prog X.w) X.A X.env (fun x s2=>wpAny (model X.prog X.w) X.A (leaving X.env x) (Q x) (E x) s2) (.ref e) s') E0 s:=by
 obtain ⟨oe,vs,hv,ge,gc,gd,gf,g1,ye,ue,hh⟩:=hot
 have hh':hv = .none ∨ ∃ T oT ts,hv = .ref T∧T ≠ e∧s.heap.get? T = some oT∧oT.data = .fields ts∧ts[3]? = some .none:=by
  rcases hh with q | ⟨T,oT,ts,q1,q2,q3,q4,q5,_⟩
  ·exact .inl q
  ·exact .inr ⟨T,oT,ts,q1,q2,q3,q4,q5⟩
 refine lv2 (hs ▸ I.ok.frames) (hs ▸ I.stack) hf ge gc gd gf g1 hh' fun h' T q1 ⟨oe',vs',oT',ts',f1,f2,f3,f4,f5,f6,f7,f8,f9⟩ g=>?_
 have hch:∀ b ∈ e :: (match hv with | .ref T=>[T] | _=>[]),h0.get? b = none∧H b = none:=fun b hb=>by
  rcases List.mem_cons.mp hb with rfl | hb
  ·exact ⟨ye,ue⟩
  ·rcases hh with rfl | ⟨T,oT,ts,rfl,_,_,_,_,y,u⟩
   ·cases hb
   ·rw [List.mem_singleton.mp hb]; exact ⟨y,u⟩
 have nch:∀ b,b ∉ e :: (match hv with | .ref T=>[T] | _=>[])→b ≠ e∧hv ≠ .ref b:=fun b hb=>⟨fun z=>hb (z ▸ .head _),fun z=>hb (by subst z; exact .tail _ (.head _))⟩
 have there:∀ b o,s.heap.get? b = some o→∃ o',h'.get? b = some o' ∨ b = e ∨ hv = .ref b:=fun b o q=>by
  by_cases z1:b = e
  ·exact ⟨o,.inr (.inl z1)⟩
  ·by_cases z2:hv = .ref b
   ·exact ⟨o,.inr (.inr z2)⟩
   ·obtain ⟨sl,q'⟩:=g.slot b o q z1 z2
    exact ⟨_,.inl q'⟩
 refine fin h' _ hch (.head _) ⟨fun b o q n nf nx=>g.keep b o q (nch b nx).1 (nch b nx).2 (by rw [← hs]; exact nf),fun b o q n _ nx=>g.slot b o q (nch b nx).1 (nch b nx).2,fun b o _ n _=>n,fun b o q nx=>?_,fun _ _ q=>q,fun _ _ _ q=>q,fun b ps q=>⟨#[],by rw [q]; simp⟩⟩ (fun a o q=>?_) ⟨oe',vs',_,f1,f2,f3,f4,f5,ye,ue,.inr ⟨T,oT',ts',rfl,f6,f7,f8,f9,?_,I.hok.fresh q1⟩⟩
 ·obtain ⟨sl,q'⟩:=g.slot b o q (nch b nx).1 (nch b nx).2
  exact ⟨_,q'⟩
 ·have tr:∀ b o',H b = some o'→b ≠ e∧hv ≠ .ref b∧b ∉ frs (X.env :: X.outer):=fun b o' z=>by
   refine ⟨fun w=>?_,fun w=>?_,fun w=>?_⟩
   ·rw [w,ue] at z; cases z
   ·rcases hh with y | ⟨T,oT,ts,y,_,_,_,_,_,u⟩
    ·rw [y] at w; cases w
    ·rw [y] at w; cases w; rw [u] at z; cases z
   ·rw [← hs] at w
    rw [I.stkFree b w] at z; cases z
  refine (I.hok a o q).stay (fun b u hb z=>?_) (fun _ z=>z) fun _ _ z=>z
  have:∃ o',H b = some o':=by
   rcases hb with rfl | hb
   ·exact ⟨_,q⟩
   ·exact ⟨_,hb⟩
  obtain ⟨o',ho'⟩:=this
  obtain ⟨a1,a2,a3⟩:=tr b o' ho'
  exact g.keep b u z a1 a2 a3
 ·cases z:h0.get? T with
  | none=>rfl
  | some o=>exact absurd (hsub T o z) (Nat.not_lt.mpr q1)
end
section
variable {P:Program} {w:World} {K:PySem.W.Frag} {mg:Str→Option Value} {base:Heap} {N:List Str} {qual:Str} {scope:Scope} {f:Addr} {cd:Value} {A:Around} {outer:List Env} {s0:Shared} {H0:Hp} {E:XK}
theorem i1x {pins:List (Addr × Obj)} {σ:St} {H:Hp} {s:Shared} {e C:Addr} {od:Option Addr} (I:Inv (cxOf (CX1 P w) P w K mg base N qual scope f cd A outer s0 H0 E) pins σ H s) (hot:Hot od s0.heap s.heap H e C) (hyg:Yg s0.heap od) (he:E (odV od) (some C) H) :
  (cxOf (CX1 P w) P w K mg base N qual scope f cd A outer s0 H0 E).pz (.ref e) s:=by
 refine lvI2 I rfl rfl (fun b o q=>?_) hot fun h' ch hch hin un hok hot'=>?_
 ·exact Nat.lt_of_lt_of_le (Heap.lt_size q) I.sz
 ·have lo:∀ b o,s0.heap.get? b = some o→b ∉ ch:=fun b o q z=>by rw [(hch b z).1] at q; cases q
  have nL:∀ b o,s0.heap.get? b = some o→b ≠ s0.heap.objs.size:=fun b o q=>Nat.ne_of_lt (Heap.lt_size q)
  refine ⟨e,C,od,H,rfl,I.os,I.bare,⟨fun b o q n nf _=>?_,fun b o q n hb _=>?_,fun b o q n _=>I.base.free b o q n (fun z=>nomatch z),fun b o q _=>?_,I.base.tups,I.base.frzs,I.base.tbls⟩,hok,hot',hyg,he⟩
  ·refine un.keep b o (I.base.keep b o q n nf fun z=>nomatch z) (I.base.free b o q n fun z=>nomatch z) (fun z=>?_) (lo b o q)
   rcases List.mem_cons.mp z with z | z
   ·exact nL b o q z
   ·exact nf z
  ·obtain ⟨sl,q'⟩:=I.base.slot b o q n hb fun z=>nomatch z
   obtain ⟨sl',q''⟩:=un.slot b _ q' (I.base.free b o q n fun z=>nomatch z) (.tail _ hb) (lo b o q)
   exact ⟨sl',q''⟩
  ·obtain ⟨o',q'⟩:=I.base.there b o q fun z=>nomatch z
   exact un.there b o' q' (lo b o q)
end
abbrev Cx.inFor (X:Cx):Cx:={ X with xe:=X.pz }
section
variable {X:Cx} {R:VK} {tg:Expr}
theorem x0v {iter:Expr} {body:List Stmt} {wi:TI} {g:TG} {tb:TS} {pos:Pos} (hc:X.calm = true) (hi:PI X.nox tg iter wi) (hg:PG X.nox tg g) (hb:PSsr X.inFor R body tb)
  (hs:∀ x,foldedSetIterable iter X.env x = pure x:=by intro _; rfl):PSr X R (.For tg iter body [] pos) (tFor wi g tb):=by
 intro pins s σ H D e I h
 refine wpAny_For (wpAny_mono (hi pins s σ H _ (I.wish _) h) (fun v s1 h1=>wpAny_mono h1 (fun itv s2 h2=>?_) fun _ _ z=>False.elim z) fun _ _ z=>False.elim z) hs
 obtain ⟨it,fp,tn,J,H2,e2,I2w,T,st2,f2,W,⟨m0,w0⟩,turn⟩:=h2
 subst e2
 have I2:=I2w.unwish
 have stat:∀ {H':Hp},(∀ b ∈ fp,H' b = none)→∀ b ∈ fp,FpOk X pins H' b:=fun hn b hb=>⟨hn b hb,(f2 b hb).2⟩
 refine codeAny_forLoop_any (fun n s'=>∃ i σ' H',Inv X pins σ' H' s'∧tn i s'.heap∧(∀ b ∈ fp,H' b = none)∧W i n σ' H') ?_ m0 ⟨0,σ,H2,I2,st2,fun b hb=>(f2 b hb).1,w0⟩
 rintro n s3 ⟨i,σ3,H3,I3,st3,fr3,w3⟩
 rcases turn i n σ3 H3 w3 with ⟨stop,qn⟩ | ⟨go,N,hN,step⟩
 ·refine thn (T.done X rfl rfl rfl hc i pins s3 σ3 H3 X.pz I3 (stat fr3) st3 stop) fun r s4 ⟨hr,I4⟩=>?_
  subst hr
  exact wpAny_execs_nil ⟨σ3,H3,I4,qn⟩
 ·refine thn (T.item X rfl rfl rfl hc i pins s3 σ3 H3 X.pz I3 (stat fr3) st3 go) fun r s4 ⟨u,hr,h4⟩=>?_
  subst hr
  refine thn h4 fun _ s5 ⟨x,H5,I5,r5,y5,st5,fr5⟩=>?_
  have I5':=I5.pinned (stat fr5) (T.obj _ _ st5)
  refine wpAny_mono (hg _ s5 σ3 H5 x u _ (I5'.wish _) r5 (step x H5 y5)) (fun _ s6 ⟨σ6,H6,I6,q6⟩=>?_) fun _ _ z=>False.elim z
  refine thn (hb _ s6 σ6 H6 { D with nx:=N,ct:=N,bk:=D.nx } e (I6.unwish.wish _) q6) fun f s7 q7=>?_
  have again:∀ {σ7:St} {H7:Hp},Inv X (pins ++ g0h fp s5.heap) σ7 H7 s7→N σ7 H7→∃ m,m < n∧∃ i σ' H',Inv X pins σ' H' s7∧tn i s7.heap∧(∀ b ∈ fp,H' b = none)∧W i m σ' H':=fun {σ7 H7} I7 n7=>by
   obtain ⟨m',hm,w7⟩:=hN σ7 H7 n7
   refine ⟨m',hm,i + 1,σ7,H7,I7.unpinned,T.keep _ _ _ st5 fun b hb o e=>(I7.pin (b,o) (List.mem_append_right _ (List.mem_append_right _ (c0p hb e)))).1,fun b hb=>?_,w7⟩
   obtain ⟨o,e,d⟩:=T.obj _ _ st5 b hb
   exact (I7.pin (b,o) (List.mem_append_right _ (List.mem_append_right _ (c0p hb e)))).2.1
  cases f with
  | next=>obtain ⟨σ7,H7,I7,n7⟩:=q7; exact again I7.unwish n7
  | cont=>exact q7.elim
  | brk=>exact q7.elim
  | ret v=>exact q7.elim
end
section
variable {P:Program} {w:World} {K:PySem.W.Frag} {mg:Str→Option Value} {base:Heap} {N:List Str} {qual:Str} {scope:Scope} {f:Addr} {cd:Value} {A:Around} {outer:List Env} {s0:Shared} {H0:Hp} {E:XK} {C:Addr} {fn:Option Str}
theorem tie2:Tie (cxOf (CX1 P w) P w K mg base N qual scope f cd A outer s0 H0 E).inFor C fn (XW E C fn):=⟨rfl,fun I hot hy hf hr=>i1x I.unwish hot hy (hr _ hf)⟩
end
end L2
namespace L2
end L2
namespace L2
open PySem PySem.Spec PyProof.Rows
abbrev EnO (h:Heap) (e it:Addr) (i:Int) (old:Value) (a:Addr) (f:Bool):Prop :=
 h.get? e = some { cls:=.type "enumerate",dict:=none,data:=.fields #[rawInt a,.bool f,.ref it,rawInt i,.none,old],slots:=#[] }
section
variable {prog:Program} {w:World} {A:Around} {E:Value→Shared→Prop} {s:Shared}
def EnS (h:Heap) (e it:Addr) (i:Nat) (S:Addr):Prop:=(∃ old,IsEnum h e it i old) ∨ ∃ old a f oa,EnO h e it i old a f∧h.get? a = some oa∧a ≠ e∧a ≠ it∧a ≠ S
theorem EnS.keep {h h':Heap} {e it S:Addr} {i:Nat} (x:EnS h e it i S) (hk:∀ b o,b ≠ S→h.get? b = some o→h'.get? b = some o) (hS:e ≠ S):EnS h' e it i S:=by
 rcases x with ⟨old,he⟩ | ⟨old,a,f,oa,he,ha,h1,h2,h3⟩
 ·exact .inl ⟨old,hk _ _ hS he⟩
 ·exact .inr ⟨old,a,f,oa,hk _ _ hS he,hk _ _ h3 ha,h1,h2,h3⟩
theorem EnS.typeIs {e it S:Addr} {i:Nat} (x:EnS s.heap e it i S):s.TypeIs (.ref e) "enumerate" := by
 rcases x with ⟨old,he⟩ | ⟨old,a,f,oa,he,_⟩
 ·exact ⟨_,he,rfl⟩
 ·exact ⟨_,he,rfl⟩
end
structure LeG (P:Nat→Value→Prop) (lo:Addr) (h:Heap) (as:List Addr):Prop where
 rise:as.Pairwise (· < ·)
 above:∀ a ∈ as,lo < a
 pairs:∀ (j:Nat) (a:Addr),as[j]? = some a→∃ tk x,P j x∧h.get? a = some { cls:=.type "tuple",data:=.seq #[.int j tk,x] }
theorem LeG.there {P:Nat→Value→Prop} {lo:Addr} {h:Heap} {as:List Addr} (g:LeG P lo h as) {a:Addr} (ha:a ∈ as):a < h.objs.size:=by
 obtain ⟨j,hj⟩:=List.mem_iff_getElem?.mp ha
 obtain ⟨_,_,_,e⟩:=g.pairs j a hj
 exact Heap.lt_size e
end L2
namespace L2
def fst1 (R:List Nat) (t:Nat):Nat:=R.idxOf (R.getD t 0)
def f1r (m:Nat) (f:Nat→Nat):List (Nat × Nat)→Nat→(Nat→Bool)→Nat→Bool
 | [],_,M,t=>M t
 | p :: r,k,M,t=>f1r m f r (k + 1) M t || (f1r m f r (k + 1) M (m + k) && (t == f p.1 || t == f p.2))
def nkT (m:Nat) (L:Nat→Bool) (k:Nat):Nat:=((List.range k).filter fun j=>L (m + j)).length
def nbT (m:Nat) (L:Nat→Bool) (t:Nat):Nat:=if t < m then t else m + nkT m L (t - m)
structure Rws (N:Net):Prop where
 ix:okIx N.m N.js
 ne:∀ (i:Nat) (p:Nat × Nat),N.js[i]? = some p→(e1x N).getD p.1 0 ≠ (e1x N).getD p.2 0
def fT (N:Net):Nat→Nat:=fst1 (e1x N)
def k1t (N:Net):Nat→Bool:=f1r N.m (fT N) N.js 0 fun t=>(N.os.map (fT N)).contains t
abbrev nT (N:Net):Nat→Nat:=nbT N.m (k1t N)
theorem z0u {n2:Nat} {c:En→Prop} {g:AG} {tc:AT} {te:AE} {k:List D→En→Prop} (I:Nat→List D→En→Prop) {ds:List D} (hc:∀ i acc ρ,i ≤ ds.length→I i acc ρ→c ρ∧acc.length ≤ 1000000)
  (hs:∀ (i:Nat) d acc ρ (N:List D→En→Prop),ds[i]? = some d→I i acc ρ→(∀ acc' ρ',I (i + 1) acc' ρ'→N acc' ρ') →
   g d ρ fun ρ1=>tc ρ1 fun b ρ2=>if b = true then te ρ2 fun r ρ3=>sto [r.frz] ρ3 fun es ρ4=>N (acc ++ es) (List.replicate n2 .un ++ ρ4.drop n2) else N acc (List.replicate n2 .un ++ ρ2.drop n2))
  (hd:∀ acc ρ,I ds.length acc ρ→k acc ρ):∀ acc ρ,I 0 acc ρ→i0k n2 c g tc te k ds acc ρ:=by
 have go:∀ (es:List D) (i:Nat),ds.drop i = es→i ≤ ds.length→∀ acc ρ,I i acc ρ→i0k n2 c g tc te k es acc ρ:=by
  intro es
  induction es with
  | nil =>
   intro i h hi acc ρ hI
   have:ds.length ≤ i:=List.drop_eq_nil_iff.mp h
   have:i = ds.length:=by omega
   subst this
   unfold i0k
   exact ⟨(hc _ acc ρ (Nat.le_refl _) hI).1,hd acc ρ hI⟩
  | cons d es ih =>
   intro i h hi acc ρ hI
   have lt:i < ds.length:=by
    rcases Nat.lt_or_ge i ds.length with q | q
    ·exact q
    ·rw [List.drop_eq_nil_of_le q] at h; cases h
   rw [List.drop_eq_getElem_cons lt] at h
   injection h with h1 h2
   unfold i0k
   obtain ⟨a,b⟩:=hc i acc ρ hi hI
   exact ⟨a,b,hs i d acc ρ (fun acc' ρ'=>i0k n2 c g tc te k es acc' ρ') (by rw [← h1]; exact List.getElem?_eq_getElem lt) hI (fun acc' ρ' i'=>ih (i + 1) h2 lt acc' ρ' i')⟩
 exact go ds 0 rfl (Nat.zero_le _)
theorem z0v {n2 n:Nat} {js:List Nat} {c:En→Prop} {g:AG} {tc:AT} {i2:AI} {g2:AG} {tc2:AT} {te:AE} {q:List D→En→Prop} (I:Nat→List D→En→Prop) {ds:List D} (hc:∀ i acc ρ,i ≤ ds.length→I i acc ρ→c ρ∧acc.length ≤ 1000000)
  (hs:∀ (i:Nat) d acc ρ (N:List D→En→Prop),ds[i]? = some d→I i acc ρ→(∀ acc' ρ',I (i + 1) acc' ρ'→N acc' ρ') →
   g d (blkE n js ρ) fun ρ1=>tc ρ1 fun b ρ2=>if b = true then i2 ρ2 fun ds2 c2 ρ3=>i0k n2 c2 g2 tc2 te (fun acc' ρ4=>N acc' (back ρ (js.map R.o) (ρ4.drop n))) ds2 acc ρ3 else N acc (back ρ (js.map R.o) (ρ2.drop n)))
  (hd:∀ acc ρ,I ds.length acc ρ→q acc ρ):∀ ρ,I 0 [] ρ→j0n n2 n js c g tc i2 g2 tc2 te q ds [] ρ:=by
 have go:∀ (es:List D) (i:Nat),ds.drop i = es→i ≤ ds.length→∀ acc ρ,I i acc ρ→j0n n2 n js c g tc i2 g2 tc2 te q es acc ρ:=by
  intro es
  induction es with
  | nil =>
   intro i h hi acc ρ hI
   have:ds.length ≤ i:=List.drop_eq_nil_iff.mp h
   have:i = ds.length:=by omega
   subst this
   unfold j0n
   obtain ⟨a,b⟩:=hc _ acc ρ (Nat.le_refl _) hI
   exact ⟨a,b,hd acc ρ hI⟩
  | cons d es ih =>
   intro i h hi acc ρ hI
   have lt:i < ds.length:=by
    rcases Nat.lt_or_ge i ds.length with q | q
    ·exact q
    ·rw [List.drop_eq_nil_of_le q] at h; cases h
   rw [List.drop_eq_getElem_cons lt] at h
   injection h with h1 h2
   unfold j0n
   exact ⟨(hc i acc ρ hi hI).1,hs i d acc ρ (fun acc' ρ'=>j0n n2 n js c g tc i2 g2 tc2 te q es acc' ρ') (by rw [← h1]; exact List.getElem?_eq_getElem lt) hI (fun acc' ρ' i'=>ih (i + 1) h2 lt acc' ρ' i')⟩
 exact go ds 0 rfl (Nat.zero_le _) []
end L2
namespace L2
open PySem PySem.Spec PyProof.Rows
def c1z (tk tv:TE):TE:=fun σ H Q=>tk σ H fun y H1=>tv σ H1 fun v H2=>∃ b ks,y = .ref b∧H2 b = some (.tup (ks.map kV))∧∀ p,H2 p = none→Q (.ref p) (upd H2 p (.dT [(ks,v)]))
theorem b1j {X:Cx} {k v:Expr} {pos:Pos} {tk tv:TE} (hu:X.A.units + 1 < cLine) (hk:PE X k tk) (hv:PE X v tv):PE X (.Dict [some k] [v] pos) (c1z tk tv):=by
 intro pins s σ H Q I h
 rw [arm_eval_Dict]
 have hsh:(evalEachOpt [some k] X.env).zip ((evalEach [v] X.env).map fun v=>do let x ← v; standAt pos; pure x) = [(eval k X.env,(do let x ← eval v X.env; standAt pos; pure x:Sem Value))].map fun p=>(some p.1,p.2):=rfl
 rw [hsh,dictDisplay_pairs _ (by simp) (by simp)]
 refine wpAny_bind (wpAny_standAt (wpAny_bind ?_))
 unfold subDict
 refine wpAny_bind (wpAny_alloc ?_)
 refine wpAny_bind (wpAny_holding ?_)
 rw [if_pos (show [(eval k X.env,(do let x ← eval v X.env; standAt pos; pure x:Sem Value))].length ≤ 15 by simp)]
 have f0:FpOk X pins H s.heap.objs.size:=I.fpOk (Nat.le_refl _) (I.hok.fresh (Nat.le_refl _))
 have I1:Inv X pins σ H { s with heap:=s.heap.push { cls:=.type "dict",data:=.dict #[] } }:=I.kept (t':=s.toks) fun b o e=>Heap.get?_push_of_some _ e
 have g1:(s.heap.push { cls:=.type "dict",data:=.dict #[] }).get? s.heap.objs.size = some { cls:=.type "dict",data:=.dict #[] }:=Heap.get?_push_size _ rfl
 have hbig:=I.big
 generalize hd0:s.heap.objs.size = d at f0 g1 hbig ⊢
 have I2:Inv X ((d,{ cls:=.type "dict",data:=.dict #[] }) :: pins) σ H { s with heap:=s.heap.push { cls:=.type "dict",data:=.dict #[] } }:=I1.pins_of fun p hp=>by
  rcases List.mem_cons.mp hp with rfl | hp
  ·exact ⟨g1,f0.1,f0.2.1,f0.2.2.1,fun v z=>by cases z⟩
  ·exact I1.pin p (List.mem_append_right _ hp)
 refine wpAny_bind (evalPairs_cons (thn (hk _ _ σ H _ I2 h) fun u1 s1 ⟨y,H1,J1,ry,q1⟩=>wpAny_bind (thn (hv _ s1 σ H1 _ J1 q1) fun u2 s2 ⟨x,H2,J2,rx,b,ks,ey,hb,q2⟩=>wpAny_bind (wpAny_standAt (wpAny_pure (evalPairs_nil ?_))))))
 subst ey
 cases (show u1 = Value.ref b from ry)
 have p2:=J2.pin (d,{ cls:=.type "dict",data:=.dict #[] }) (List.mem_append_right _ List.mem_cons_self)
 have g2:s2.heap.get? d = some { cls:=.type "dict",data:=.dict #[] }:=p2.1
 have n2:H2 d = none:=p2.2.1
 have dd:s2.heap.DictOfH (tupleKind (b0u X.prog X.w)) d []:=⟨_,#[],0,g2,⟨rfl,rfl,rfl⟩,rfl,rfl,(fun x hx=>nomatch hx),List.nodup_nil⟩
 refine wpAny_holding ?_
 rw [List.forIn_cons]
 refine wpAny_bind ?_
 refine wpAny_bind ?_
 show wpAny _ _ (dictSet d (.ref b) u2 >>= _) _ _ _
 refine wpAny_bind ?_
 refine wpAny_dictSet_heap (hsz:=Nat.zero_le _) (knd:=tupleKind (b0u X.prog X.w)) (show X.A.units < cLine by omega) (m0p J2.hok hb) dd fun h' dd' hs=>?_
 refine wpAny_pure ?_
 show wpAny _ _ (forIn ([]:List (Value × Value)) PUnit.unit _) _ _ _
 rw [List.forIn_nil]
 refine wpAny_pure (wpAny_pure (wpAny_pure ?_))
 obtain ⟨q,es,ep,hq,h2,h3,h4,_,h5⟩:=dd'
 have sb:Heap.SameBut d s2.heap h':=hs
 have J3:Inv X pins σ H2 s2:=J2.pins_of fun p hp=>J2.pin p (List.mem_append_right _ (List.mem_cons_of_mem _ hp))
 have f2:FpOk X pins H2 d:=⟨n2,f0.2⟩
 have J4:Inv X pins σ H2 { s2 with heap:=h',toks:=s2.toks + (tupleKind (b0u X.prog X.w)).draws ks }:=Inv.turns (ch:=[d]) (t':=s2.toks + (tupleKind (b0u X.prog X.w)).draws ks) J3 (fun b o hb e=>sb.extBut b o (fun z=>hb (by simp [z])) e) (fun b hb=>by rw [List.mem_singleton.mp hb]; exact f2)
 have nb:b ≠ d:=b0c hb n2
 have J5:=J4.trackO (p:=d) (o:=.dT [(ks,x)]) f2 ⟨by show 1 ≤ sizeLine; decide,beq_eq_false_iff_ne.mpr (Ne.symm (Nat.ne_of_lt hbig)),[(ks,b,u2)],.cons ⟨rfl,by show upd H2 d _ b = _; rw [a0l nb]; exact hb,rx⟩ .nil,q,es,ep,hq,h2,h3,h4,h5⟩
 exact wpAny_pure ⟨.ref d,_,J5,rfl,q2 d n2⟩
def m0o:List D→Option (List Key)
 | []=>some []
 | d :: ds=>(match dKey d,m0o ds with | some k,some ks=>some (k :: ks) | _,_=>none)
def keyT:D→Option (List Key)
 | .tup ds=>m0o ds
 | _=>none
section
variable {K:PySem.W.Frag} {td ty tx tv tk:TE} {ad ay ax av ak:AE}
theorem p0u {H:Hp}:∀ {vs:List V} {ds:List D} {ks:List Key},RepDs K H vs ds→m0o ds = some ks→vs = ks.map kV
 | [],[],ks,_,e=>by cases e; rfl
 | v :: vs,d :: ds,ks,r,e=>by
  unfold RepDs at r
  unfold m0o at e
  split at e
  ·rename_i k1 ks1 e1 e2
   cases e
   rw [p0u r.2 e2,y0v r.1 e1]; rfl
  ·cases e
 | [],_ :: _,_,r,_=>by unfold RepDs at r; exact r.elim
 | _ :: _,[],_,r,_=>by unfold RepDs at r; exact r.elim
theorem f1t {H:Hp} {v:V} {d:D} {ks:List Key} (r:RepD K H v d) (e:keyT d = some ks):∃ b,v = .ref b∧H b = some (.tup (ks.map kV)):=by
 cases d with
 | tup ds =>
  unfold RepD at r
  obtain ⟨a,vs,rfl,h1,h2⟩:=r
  have:=p0u h2 e
  subst this
  exact ⟨a,rfl,h1⟩
 | _=>cases e
theorem n0t {F:Fr} {σ:St} {ρ:En} {H:Hp} {v:V} {d:D} {ks:List Key} (r:RepD K (hid H (hs F σ ρ)) v d) (e:keyT d = some ks):∃ b,v = .ref b∧H b = some (.tup (ks.map kV)):=by
 obtain ⟨b,e1,e2⟩:=f1t r e
 exact ⟨b,e1,(d0b.mp e2).2⟩
@[irreducible] def q0e (d:D) (q:List Key→Prop):Prop:=∃ k,keyT d = some k∧q k
theorem k0a {d:D} {k:List Key} {q:List Key→Prop} (e:keyT d = some k) (h:q k):q0e d q:=by unfold q0e; exact ⟨k,e,h⟩
def k1f (ak av:AE):AE:=fun ρ q=>ak ρ fun r1 ρ1=>match r1 with
 | .d kd=>av ρ1 fun r2 ρ2=>sto [r2.frz] ρ2 fun es ρ3=>(match es with
  | [e]=>q0e kd fun k=>q (.n (.dt [(k,e)])) ρ3
  | _=>False)
 | _=>False
theorem w0p (hk:TEok K tk ak) (hv:TEok K tv av):TEok K (c1z tk tv) (k1f ak av):=by
 intro F σ ρ H q Q r h k
 refine hk F σ ρ H _ _ r h fun r1 ρ1 y H1 h1 o1=>?_
 obtain ⟨r1',k1,i1⟩:=o1.inF
 split at h1
 ·rename_i kd
  refine hv F σ ρ1 H1 _ _ r1' h1 fun r2 ρ2 x H2 h2 o2=>?_
  obtain ⟨r2',k2,i2⟩:=o2.inF
  obtain ⟨d,ρ3,h3,r3,k3,rv⟩:=q0y r2' i2 h2
  dsimp only at h3
  unfold q0e at h3
  obtain ⟨kk,ek,h3⟩:=h3
  have i1':RepD K (hid H2 (hs F σ ρ3)) y kd:=(RepD.same i1 k2.vis).same k3.vis
  obtain ⟨b,rfl,hb⟩:=n0t i1' ek
  refine ⟨b,kk,rfl,hb,fun p hp=>?_⟩
  exact k (.n (.dt [(kk,d)])) ρ3 _ _ h3 ⟨H2,p,_,r3,(k1.trans k2).trans k3,rfl,⟨p,[(kk,x)],rfl,a0v,rfl,.one rv⟩,hp,rfl,rfl⟩
 ·exact h1.elim
def l1l (neg:Bool) (i a:AE):AE:=fun ρ q=>i ρ fun r ρ1=>a ρ1 fun r2 ρ2=>match r,r2 with
 | .d d,.o j=>(match gt ρ2 j with
  | .dt kvs=>q0e d fun k=>q (.d (.bl (if neg then !(valD kvs k).isSome else (valD kvs k).isSome))) ρ2
  | _=>False)
 | _,_=>False
theorem r0z {H:Hp} {kvs:List (List Key × D)} {ks:List (List Key × V)} {k:List Key} (e1:ks.map Prod.fst = kvs.map Prod.fst) (e2:RepDs K H (ks.map Prod.snd) (kvs.map Prod.snd)):(valV ks k).isSome = (valD kvs k).isSome:=by
 obtain ⟨a,b⟩:=k0d k e1 e2
 cases h:valD kvs k with
 | none=>rw [b h]; rfl
 | some d=>obtain ⟨v,e,_⟩:=a d h; rw [e]; rfl
theorem k0e (hi:TEok K ty ay) (ha:TEok K td ad):TEok K (q0w ty td) (l1l true ay ad):=by
 intro F σ ρ H q Q r h k
 refine hi F σ ρ H _ _ r h fun r1 ρ1 y H1 h1 o1=>?_
 obtain ⟨r1',k1,i1⟩:=o1.inF
 refine ha F σ ρ1 H1 _ _ r1' h1 fun r2 ρ2 x H2 h2 o2=>?_
 obtain ⟨r2',k2,i2⟩:=o2.inF
 split at h2
 ·rename_i d j
  have ej:σ[j]? = some (some x):=i2
  split at h2
  ·rename_i kvs hg
   unfold q0e at h2
   obtain ⟨kk,ek,h2⟩:=h2
   obtain ⟨t,ks,rfl,ht,e1,e2⟩:=g1e r2' ej hg
   obtain ⟨b,rfl,hb⟩:=n0t (RepD.same i1 k2.vis) ek
   refine ⟨t,valV ks kk,rfl,DGet.t ht hb,?_⟩
   rw [r0z e1 e2]
   exact ((k.after k1).after k2).bl r2' h2
  ·exact h2.elim
 ·exact h2.elim
@[irreducible] def c1d (kvs:List (List Key × D)) (d:D) (q:D→Prop):Prop:=∃ k x,keyT d = some k∧valD kvs k = some x∧q x
theorem t0z {kvs:List (List Key × D)} {d:D} {k:List Key} {x:D} {q:D→Prop} (e:keyT d = some k) (e':valD kvs k = some x) (h:q x):c1d kvs d q:=by unfold c1d; exact ⟨k,x,e,e',h⟩
def k1h (a i:AE):AE:=fun ρ q=>a ρ fun r ρ1=>match r with
 | .o j=>i ρ1 fun r2 ρ2=>(match r2,gt ρ2 j with
  | .d d,.dt kvs=>c1d kvs d fun x=>q (.d x) ρ2
  | _,_=>False)
 | _=>False
theorem o0r (ha:TEok K td ad) (hi:TEok K ty ay):TEok K (e1o td ty) (k1h ad ay):=by
 intro F σ ρ H q Q r h k
 refine ha F σ ρ H _ _ r h fun r1 ρ1 x H1 h1 o1=>?_
 obtain ⟨r1',k1,i1⟩:=o1.inF
 split at h1
 ·rename_i j
  have ej:σ[j]? = some (some x):=i1
  refine hi F σ ρ1 H1 _ _ r1' h1 fun r2 ρ2 y H2 h2 o2=>?_
  obtain ⟨r2',k2,i2⟩:=o2.inF
  split at h2
  ·rename_i d kvs hg
   unfold c1d at h2
   obtain ⟨kk,z,ek,ez,hq⟩:=h2
   obtain ⟨t,ks,rfl,ht,e1,e2⟩:=g1e r2' ej hg
   obtain ⟨v,ev,rv⟩:=(k0d kk e1 e2).1 z ez
   obtain ⟨b,rfl,hb⟩:=n0t i2 ek
   refine ⟨t,v,rfl,?_,((k.after k1).after k2).dat r2' hq rv⟩
   rw [← ev]
   exact DGet.t ht hb
  ·exact h2.elim
 ·exact h1.elim
def k1g (x o i:AE):AS:=fun e ρ=>x ρ fun r ρ1=>sto [r.frz] ρ1 fun ds ρ2=>o ρ2 fun r2 ρ3=>match r2 with
 | .o j=>i ρ3 fun r3 ρ4=>(match r3,gt ρ4 j,ds with
  | .d kd,.dt kvs,[d]=>q0e kd fun k=>kvs.length ≤ 1000000∧e.nx (pt ρ4 j (.dt (putD kvs k d)))
  | _,_,_=>False)
 | _=>False
theorem x0f {pr:Nat→Bool} (h:TEok K tv av) (ho:TEok K td ad) (hi:TEok K ty ay):TSok K pr (e1w td ty tv) (k1g av ad ay):=by
 intro F σ ρ H D e hp r ha k
 refine h F σ ρ H _ _ r ha fun r1 ρ1 v H1 h1 o=>?_
 obtain ⟨r',k1,i1⟩:=o.inF
 obtain ⟨ds,ρ2,h2,r2,k2,rd⟩:=f0y r' (.cons i1 .nil) h1
 refine ho F σ ρ2 H1 _ _ r2 h2 fun r3 ρ3 x H3 h3 o3=>?_
 obtain ⟨r3',k3,i3⟩:=o3.inF
 split at h3
 ·rename_i j
  have ej:σ[j]? = some (some x):=i3
  refine hi F σ ρ3 H3 _ _ r3' h3 fun r4 ρ4 y H4 h4 o4=>?_
  obtain ⟨r4',k4,i4⟩:=o4.inF
  split at h4
  ·rename_i kd kvs d hg
   unfold q0e at h4
   obtain ⟨kk,ek,h4⟩:=h4
   obtain ⟨t,ks,rfl,ht,e1,e2⟩:=g1e r4' ej hg
   unfold RepDs at rd
   have rd4:=(RepD.same rd.1 (k3.trans k4).vis)
   obtain ⟨p1,p2⟩:=x0r kk rd4 e1 e2
   obtain ⟨b,rfl,hb⟩:=n0t i4 ek
   have hw:=r4'.write (i:=j) (l:=t) (o:=.dT (putK ks kk v)) (s:=.dt (putD kvs kk d)) (by rw [hg]; rfl) ej rfl ⟨t,_,rfl,a0v,p1,p2⟩
   exact ⟨t,_,rfl,DPut.t ht hb (o0v (by rw [t0w e1]; exact h4.1)),k.nx _ _ _ h4.2 hw.1⟩
  ·exact h4.elim
 ·exact h3.elim
end
section
variable {M:Model} {A:Around} {E:Value→Shared→Prop} {s:Shared} {env:Env}
theorem v0u {pos:Pos} {T:String} {first:List Value} {args:List (Bool × Sem Value)} {keywords:List (Option Str × Sem Value)} {Q:Value→Shared→Prop}
  (hplain:args.any (·.1) = false) (hkw:keywords.any (·.1.isNone) = false)
  (h:wpAny M A (evalArgs (.type T) true args keywords) (fun a s₁=>wpAny M A (call (.type T) (first ++ a.pos) a.kw) Q E s₁) E s) :
  wpAny M A (callWith pos (.type T) first args keywords) Q E s:=by
 unfold callWith
 refine wpAny_bind (wpAny_holding (wpAny_mono h (fun a s₁ h₁=>wpAny_bind (wpAny_standAt ?_)) fun _ _ x=>x))
 simp only [hplain,hkw,Bool.or_false]
 refine wpAny_bind (wpAny_pure ?_)
 exact wpAny_bind (wpAny_mono h₁ (fun r s₂ hr=>wpAny_bind (wpAny_holding (wpAny_point (wpAny_pure hr)))) fun _ _ x=>x)
theorem l1q {pos:Pos} {T:String} {e:Expr} {rest:List Expr} {kws:List Keyword} {Q:Value→Shared→Prop}
  (h:wpAny M A (spliced (backTo pos (starEach (e :: rest) env))) (fun vs s₁=>wpAny M A (evalAll ((backToKw pos (keywordEach kws env)).map (·.2)))
   (fun kvs s₂=>wpAny M A (call (.type T) vs (((backToKw pos (keywordEach kws env)).filterMap (·.1)).zip kvs)) Q E s₂) E s₁) E s)
  (he:backTo pos (starEach (e :: rest) env) = (false,eval e env) :: backTo pos (starEach rest env):=by rfl)
  (hplain:(backTo pos (starEach (e :: rest) env)).any (·.1) = false:=by rfl)
  (hall:(backToKw pos (keywordEach kws env)).all (·.1.isSome) = true:=by rfl)
  (hkw:(backToKw pos (keywordEach kws env)).any (·.1.isNone) = false:=by rfl) :
  wpAny M A (callWith pos (.type T) [] (backTo pos (starEach (e :: rest) env)) (backToKw pos (keywordEach kws env))) Q E s:=by
 refine v0u hplain hkw ?_
 rw [he] at h ⊢
 exact evalArgs_kwB hall h
end
section
variable {X:Cx} (K:PySem.W.Frag)
def isNone:Value→Bool
 | .none=>true
 | _=>false
end
end L2
set_option maxHeartbeats 2000000
namespace L2
open PySem PySem.Spec PyProof.Rows
section
variable {K:PySem.W.Frag} {te ta:TE} {ae a:AE} {ts:TA} {as:AA}
def k1d (a:AE) (as:AA):AE:=fun ρ q=>a ρ fun r ρ1=>match r with
 | .o i=>(match gt ρ1 i with
  | .ow _=>as ρ1 fun rs ρ2=>(match rs,gt ρ2 i with
   | [.d (.int j)],.ow ds=>∃ (n:Nat) (d:D),j = (n:Nat)∧ds[n]? = some d∧n < 1000000∧q (.d d) (pt ρ2 i (.ow (ds.eraseIdx n)))
   | _,_=>False)
  | _=>False)
 | _=>False
theorem RepDs.eraseIdx {H:Hp}:∀ {vs:List V} {ds:List D} (n:Nat),RepDs K H vs ds→RepDs K H (vs.eraseIdx n) (ds.eraseIdx n)
 | [],[],n,_=>by simp; exact .nil
 | v :: vs,d :: ds,0,h=>by unfold RepDs at h; exact h.2
 | v :: vs,d :: ds,n + 1,h=>by unfold RepDs at h; exact .cons h.1 (RepDs.eraseIdx n h.2)
 | [],d :: ds,n,h=>by unfold RepDs at h; exact h.elim
 | v :: vs,[],n,h=>by unfold RepDs at h; exact h.elim
theorem w0m (ha:TEok K ta a) (hs':TAok K ts as):TEok K (tBM K "list" rPopAt ta ts) (k1d a as):=by
 intro F σ ρ H q Q r h k
 refine ha F σ ρ H _ _ r h fun r1 ρ1 x H1 h1 rel1=>?_
 split at h1
 ·rename_i i
  obtain ⟨r',k1,i1⟩:=rel1.inF
  have ex:σ[i]? = some (some x):=i1
  split at h1
  ·rename_i ds0 hg0
   have s:=r'.sl i
   rw [hg0,ex] at s
   obtain ⟨l,vs0,e,hl,_⟩:=s
   injection e with e; injection e with e; subst e
   refine ⟨.inl ⟨rfl,_,SqL.of hl⟩,hs' F σ ρ1 H1 _ _ r' h1 fun rs ρ2 vs H2 h2 r2 i2 k2=>?_⟩
   split at h2
   ·rename_i j ds hg
    obtain ⟨z1,rfl,iz1⟩:=i2.one
    have s:=r2.sl i
    rw [hg,ex] at s
    obtain ⟨l',us,e,hl',rd'⟩:=s
    injection e with e; injection e with e; injection e with e; subst e
    obtain ⟨n,d,rfl,hd,hn,hq⟩:=h2
    obtain ⟨v,ev,rv⟩:=rd'.get hd
    have lt:n < us.length:=(List.getElem?_eq_some_iff.mp ev).1
    have hw:=r2.write (i:=i) (l:=l) (o:=.lst (us.eraseIdx n)) (s:=.ow (ds.eraseIdx n)) (by rw [hg]; rfl) ex rfl ⟨l,_,rfl,a0v,rd'.eraseIdx n⟩
    refine ⟨l,us,(n:Nat),n,v,rfl,by rw [iz1.int],hl',by omega,by omega,?_,ev,(((k.after k1).after k2).after hw.2).dat hw.1 hq (RepD.same rv hw.2.vis)⟩
    have:=PySem.StrLaws.seqIndex_nonneg (i:=(n:Int)) (n:=us.length) (by omega) (by omega)
    simpa using this
   ·exact h2.elim
  ·exact h1.elim
 ·exact h1.elim
end
end L2
namespace L2
open PySem
def Ris (xs:Array Nat):Prop:=xs.toList.Pairwise (· < ·)
theorem Ris.lt {xs:Array Nat} (h:Ris xs) {i k:Nat} (hk:k < xs.size) (hi:i < k):xs[i]'(by omega) < xs[k]:=by
 have:=List.pairwise_iff_getElem.mp h i k (by simp; omega) (by simpa using hk) hi
 simpa using this
def Led (t:SetTable):Prop:=t.led = true∧Ris t.place
end L2
namespace L2
open PySem PySem.Spec PyProof.Rows
def byT (w:World):Bool:=w.params.followText "set-order"
def SetI (P:Program) (w:World) (h:Heap) (a:Addr) (ks:List Int):Prop :=
 ∃ o es ep t,h.get? a = some o∧o.ExactSet∧o.data = .set es ep t∧ElemsOf (intKind P w) es.toList∧(∀ k,k ∈ ks↔∃ e ∈ es.toList,(intKind P w).is k e.2 = true)∧es.size < scanBound∧t.fits es.size = true∧es.size = ks.length∧(byT w = false→Led t)
section
variable {P:Program} {w:World} {A:Around} {E:Value→Shared→Prop} {s:Shared}
theorem SetI.kept {h h':Heap} {a:Addr} {ks:List Int} (hS:SetI P w h a ks) (k:∀ o,h.get? a = some o→h'.get? a = some o):SetI P w h' a ks:=by
 obtain ⟨o,es,ep,t,ho,r⟩:=hS
 exact ⟨o,es,ep,t,k o ho,r⟩
end
end L2
set_option maxHeartbeats 3200000
namespace L2
open PySem PySem.Spec PyProof.Rows
end L2
set_option maxHeartbeats 1000000
namespace L2
open PySem PySem.Spec PyProof.Rows
theorem Inv.drawn {X:Cx} {pins:List (Addr × Obj)} {σ:List (Option V)} {H:Hp} {s:Shared} (I:Inv X pins σ H s) (d:Drawn):Inv X pins σ H { s with drawn:=d } :=
 ⟨I.ok,I.os,I.bare,I.base,I.loc,I.cell,I.free,I.freeC,I.pin,I.hok,I.len⟩
def u0o (X:Cx) (G:St→Prop) (body:List Stmt) (c:Expr):Prop:=∀ (Q:Flow→Shared→Prop) (E:Value→Shared→Prop) (pins:List (Addr × Obj)) (σ:St) (H:Hp) (s:Shared),G σ→Inv X pins σ H s→wpAny (model X.prog X.w) X.A (eval c X.env) (fun _ _=>False) E s→wpAny (model X.prog X.w) X.A (execs body X.env) Q E s
section
variable {X:Cx} {K:PySem.W.Frag} {S:ASp}
theorem k0m {G:St→Prop} {k:Nat} {x:Str} {ps:List Str} {C:Addr} {fn:Option Str} {p cpos pos:Pos} {e:Expr} {es:List Expr} {t:TA} {body:List Stmt} {h0:ExceptHandler} {hs:List ExceptHandler} {tH:Option Addr→Addr→TS}
  (F:OkX X.prog X.w X.K X.mg X.base k x ps C fn (spA K S)) (hr:Room k X.A) (hc:X.calm = true) (hex:X.ex = []) (hst:X.stack = X.env :: X.outer) (hfr:X.env.frame = some X.env.locals) (ha:PA X.nox (e :: es) t)
  (hb1:u0o X G body (.Call (.Name x p) (e :: es) [] cpos)) (hH:∀ od,HB X C od (h0 :: hs) (tH od))
  (hg:Gl X x:=by rfl) (hdb:(x == ("__debug__" : Str)) = false:=by decide) (he:starEach (e :: es) X.env = (false,eval e X.env) :: starEach es X.env:=by rfl) (hpl:(backTo cpos (starEach es X.env)).any (·.1) = false:=by rfl) :
  PS X (.Try body (h0 :: hs) [] [] pos) (fun D σ H=>G σ∧t σ H fun vs H1=>spA K S (vs ++ []) H1 (fun v H'=>∀ a od,H' a = none→Fld H' fn od v→(∀ dx,od = some dx→H1 dx = none)→tH od a D σ H') E0):=by
 intro pins s σ H D I ⟨hG,h⟩
 obtain ⟨f,fd,hm,hk,hb,F⟩:=F.ex
 refine wpAny_Try_except (hb1 _ _ pins σ H _ hG I ?_)
 refine wpAny_Call_Name_kw (g0m I hg hm ?_ hdb)
 refine PySem.W.callWith_K (h₀:=X.base) I.ok.mod.kin hk (wpAny_mono (ha cpos pins s σ H _ (I.wish _) h) (fun us s1 ⟨vs,H1,I1w,r,q⟩=>⟨I1w.unwish.kIn,?_⟩) fun _ _ z=>False.elim z) he hpl
 have I1:=I1w.unwish
 have q':spX C fn (spA K S) (vs ++ []) H1 (fun _ _=>False) (fun u cls H'=>cls = some C∧∃ v od,u = odV od∧Fld H' fn od v∧∀ a od,H' a = none→Fld H' fn od v→(∀ dx,od = some dx→H1 dx = none)→tH od a D σ H'):=by
  obtain ⟨ss,Z,q',a1,a2,a3⟩:=q
  exact ⟨ss,Z,q',a1,a2,fun r ss' v H' b1 b2 b3 b4 od hf=>⟨rfl,v,od,rfl,hf,a3 r ss' v H' b1 b2 b3 b4⟩⟩
 have hl:(us ++ []).length = ps.length:=by
  rw [← (r.append (.nil:Vals [] [])).length]
  exact F.len (vs ++ []) H1 _ _ q'
 refine wpAny_call (codeAny_mono (F.run X.A X.stack s1 H1 ⟨us,[]⟩ (us ++ []) (vs ++ []) _ _ hr I1.env0 (hb s1 us I1.kIn hl) (r.append .nil) q') fun rr s2 hq=>?_)
 cases rr with
 | ok fl =>
  cases fl with
  | ret u=>obtain ⟨_,_,_,_,_,_,_,z⟩:=hq; exact z.elim
  | next=>exact False.elim hq
  | brk=>exact False.elim hq
  | cont=>exact False.elim hq
 | error ev =>
  obtain ⟨a,C',od,H2,rfl,os,bare,un,hok,hot,hyg,hC,v,od',hO,hF,hW⟩:=hq
  cases hC
  obtain rfl:od = od':=by
   cases od <;> cases od' <;> first | rfl | cases hO <;> rfl
  have I2:Inv X pins σ H2 s2:=I1.call' os un hok bare fun b z=>nomatch z
  have sub1:∀ b o,s1.heap.get? b = some o→b < s2.heap.objs.size:=fun b o q=>by
   obtain ⟨o',q'⟩:=un.there b o q fun z=>nomatch z
   exact Heap.lt_size q'
  refine lvI I2 hst hfr sub1 hot fun h3 ch3 hch3 _ un3 hok3 hot3=>?_
  have I3:=Inv.hot I1 I2 hex un3 hok3 fun b hb=>(hch3 b hb).1
  obtain ⟨oe3,vs3,hv3,ge3,gc3,gd3,gf3,g13,y3,u3,hh3⟩:=id hot3
  refine hH od a D pins σ H1 H2 s1 _ I1 I3 hot3 (hW a od u3 hF fun dx e=>?_)
  cases z:H1 dx with
  | none=>rfl
  | some o =>
   obtain ⟨u,z'⟩:=I1.hok.get z
   rw [hyg dx e] at z'; cases z'
end
section
variable {K:PySem.W.Frag} {pr:Nat→Bool} {th:TS} {ah:AS} {S:ASp} {ts:TA} {as:AA}
def l1b (i:Nat) (b:Bool) (A:AS):AS:=fun k ρ=>gt ρ i = .vl (.bl b)∧A k ρ
theorem h0t {i:Nat} {b:Bool} {t:TS} {A:AS} (h:TSok K pr t A):TSok K pr (fun D σ H=>σ[i]? = some (some (.bl b))∧t D σ H) (l1b i b A):=by
 intro F σ ρ H D k hp r ha ko
 obtain ⟨h1,h2⟩:=ha
 have s:=r.sl i
 rw [h1] at s
 refine ⟨?_,h F σ ρ H D k hp r h2 ko⟩
 obtain ⟨v,e,rd⟩:=s
 rw [e]
 unfold RepD at rd
 rw [rd]
end
end L2
namespace L2
open PySem PySem.Spec PyProof.Rows PySem.W
end L2
namespace L2
open PySem PySem.Spec PyProof.Rows
mutual
def noL:D→Bool
 | .lst _=>false
 | .tup ds=>noLs ds
 | _=>true
def noLs:List D→Bool
 | []=>true
 | d :: ds=>noL d && noLs ds
end
section
variable {K:PySem.W.Frag} {H H':Hp}
mutual
theorem RepD.tups (ht:∀ a vs,StT H a vs→StT H' a vs):∀ {v:V} {d:D},noL d = true→RepD K H v d→RepD K H' v d
 | v,.non,_,h=>by unfold RepD at h ⊢; exact h
 | v,.bl b,_,h=>by unfold RepD at h ⊢; exact h
 | v,.int i,_,h=>by unfold RepD at h ⊢; exact h
 | v,.str x,_,h=>by unfold RepD at h ⊢; exact h
 | v,.tup ds,z,h=>by
  unfold RepD at h ⊢
  obtain ⟨a,vs,e,h1,h2⟩:=h
  exact ⟨a,vs,e,ht _ _ h1,RepDs.tups ht (by unfold noL at z; exact z) h2⟩
 | v,.lst ds,z,h=>by unfold noL at z; cases z
theorem RepDs.tups (ht:∀ a vs,StT H a vs→StT H' a vs):∀ {vs:List V} {ds:List D},noLs ds = true→RepDs K H vs ds→RepDs K H' vs ds
 | [],[],_,_=>RepDs.nil
 | v :: vs,d :: ds,z,h=>by
  unfold RepDs at h ⊢
  unfold noLs at z
  rw [Bool.and_eq_true] at z
  exact ⟨RepD.tups ht z.1 h.1,RepDs.tups ht z.2 h.2⟩
 | [],d :: ds,_,h=>by unfold RepDs at h; exact h.elim
 | v :: vs,[],_,h=>by unfold RepDs at h; exact h.elim
end
end
def svN:Sv→Bool
 | .un=>true
 | .vl d=>noL d
 | .ow ds=>noLs ds
 | _=>false
def svNs:En→Bool
 | []=>true
 | s :: ss=>svN s && svNs ss
theorem x0a:∀ {ss:En} (i:Nat),svNs ss = true→svN (gt ss i) = true
 | [],i,_=>rfl
 | s :: ss,0,h=>by unfold svNs at h; rw [Bool.and_eq_true] at h; exact h.1
 | s :: ss,i + 1,h=>by unfold svNs at h; rw [Bool.and_eq_true] at h; exact x0a i h.2
section
variable {K:PySem.W.Frag} {F:Fr} {σ:St} {ρ ρ':En} {H H':Hp} {vs:List V} {ss ss':En} {Z Z':Addr→Prop}
theorem SvOk.tups {Hh Hh':Hp} {v:Option (Option V)} {s:Sv} (h:SvOk K Hh H v s) (z:svN s = true) (ht:∀ a vs,StT Hh a vs→StT Hh' a vs) (k:∀ l o,s.own = true→v = some (some (.ref l))→H l = some o→H' l = some o):SvOk K Hh' H' v s:=by
 cases s with
 | un=>trivial
 | vl d=>obtain ⟨x,e,r⟩:=h; exact ⟨x,e,r.tups ht z⟩
 | ow ds=>obtain ⟨l,vs,e,a,r⟩:=h; exact ⟨l,vs,e,k _ _ rfl e a,r.tups ht z⟩
 | tp n=>cases z
 | dk kvs=>cases z
 | dt kvs=>cases z
 | ex C fs=>cases z
 | sc ns=>cases z
 | px d C fs=>cases z
theorem Rel.without (r0:Rel K (F0 vs ss H Z) (vs.map some) ss H) (r:Rel K (F0 vs ss H Z) (vs.map some) ss' H') (hn:svNs ss' = true) {l:Addr} {us:List V} (h0:H l = none) (hl:H' l = some (.lst us)) (no:¬ b0q (vs.map some) ss' l) (hz:∀ a,Z a→Nt H a):Rel K (F0 vs ss H Z) (vs.map some) ss' (del H' l):=by
 refine ⟨r.len,fun a o e n=>?_,fun a z=>?_,r.zo,r.ow,r.mi,r.ml,fun a z=>?_,r.nd,fun i=>(r.sl i).tups (x0a i hn) (fun a xs h=>?_) fun b o ho e h=>?_⟩
 ·rw [g0r (b0c (show H a = some o from e) h0)]; exact r.fr a o e n
 ·have al:a ≠ l:=fun q=>(hz a z).1 (q ▸ h0)
  unfold Nt; rw [g0r al]; exact r.zl a z
 ·have al:a ≠ l:=fun q=>r0.ma a z (q ▸ h0)
  rw [g0r al]; exact r.ma a z
 ·obtain ⟨n,e⟩:=d0b.mp h
  have al:a ≠ l:=fun q=>by rw [q,hl] at e; cases e
  exact f0h n (by rw [g0r al]; exact e)
 ·have al:b ≠ l:=fun q=>no ⟨i,ho,q ▸ e⟩
  rw [g0r al]; exact h
end
def kept (pr:Nat→Bool):Nat→En→En→Prop
 | k,s :: r,s' :: r'=>(pr k = true→s' = s)∧kept pr (k + 1) r r'
 | _,[],[]=>True
 | _,_,_=>False
section
variable {K:PySem.W.Frag} {pr:Nat→Bool}
theorem e1z {H:Hp} {v:V} {d1 d2:D} (h:RepD K H v (.tup [d1,d2])):∃ p v1 v2,v = .ref p∧StT H p [v1,v2]∧RepD K H v1 d1∧RepD K H v2 d2:=by
 unfold RepD at h
 obtain ⟨p,vs,rfl,hp,rds⟩:=h
 cases vs with
 | nil=>unfold RepDs at rds; exact rds.elim
 | cons v1 vs =>
  cases vs with
  | nil=>unfold RepDs at rds; obtain ⟨_,z⟩:=rds; unfold RepDs at z; exact z.elim
  | cons v2 vs =>
   cases vs with
   | cons v3 vs=>unfold RepDs at rds; obtain ⟨_,z⟩:=rds; unfold RepDs at z; obtain ⟨_,z⟩:=z; unfold RepDs at z; exact z.elim
   | nil =>
    unfold RepDs at rds
    obtain ⟨r1,r2⟩:=rds
    unfold RepDs at r2
    exact ⟨p,v1,v2,rfl,hp,r1,r2.1⟩
end
theorem x0t:∀ (ρ:En) (s z:Sv),pt (ρ ++ [z]) ρ.length s = ρ ++ [s]
 | [],s,z=>rfl
 | x :: ρ,s,z=>by
  show x :: pt (ρ ++ [z]) ρ.length s = x :: (ρ ++ [s])
  rw [x0t ρ s z]
section
variable {K:PySem.W.Frag} {F:Fr} {σ:St} {ρ ρ':En} {H H':Hp}
theorem Rel.more (r:Rel K F σ ρ H) {l:Addr} {o:HO} {s:Sv} (hs':s.own = true) (hd:SvOk K (hid H (hs F σ ρ)) (upd H l o) (some (some (.ref l))) s) (hn:H l = none):Rel K F (σ ++ [some (.ref l)]) (ρ ++ [s]) (upd H l o):=by
 have x:=r.ext 1
 have ng:∀ a,¬ F.pin σ.length a:=fun a z=>by
  have:=r.mi _ _ z
  rw [List.getElem?_eq_none (Nat.le_refl _)] at this; cases this
 have sub:∀ a,b0q (σ ++ List.replicate 1 none) (ρ ++ List.replicate 1 .un) a→b0q σ ρ a:=fun a ⟨i,hi,e⟩=>by
  rw [m0u] at hi
  rw [List.getElem?_append_left (by rw [r.len]; exact i0b hi)] at e
  exact ⟨i,hi,e⟩
 have y:=x.setF (i:=σ.length) (l:=l) (o:=o) (s:=s) hs' (hd.keep (b0k fun a u e n=>⟨e,fun z=>n (z.imp id (sub a))⟩) fun _ _ _ _ e=>e) hn ng
 have e1:(σ ++ List.replicate 1 none).set σ.length (some (.ref l)) = σ ++ [some (.ref l)]:=by
  rw [List.set_append_right _ _ (Nat.le_refl _),Nat.sub_self]; rfl
 have e2:pt (ρ ++ List.replicate 1 .un) σ.length s = ρ ++ [s]:=by rw [r.len]; exact x0t ρ s .un
 rwa [e1,e2] at y
end
section
variable {X:Cx}
theorem k0s {i:Nat} {b:Bool} {n m:Str} {np mp ipos pos:Pos} {A B c:Expr} (hN:X.N[i]? = some m) (hv:Vis X.env.scope m) (hc:(if b = true then A else B) = c) (hd:(m == ("__debug__" : Str)) = false:=by decide) (hcd:(m == ("__classdict__" : Str)) = false:=by decide)
  (hs:swapsWith (.IfExp (.Name m mp) A B ipos) (some (.Name n np)) pos.line X.env = pure false:=by rfl):u0o X (fun σ=>σ[i]? = some (some (.bl b))) [.Assign [.Name n np] (.IfExp (.Name m mp) A B ipos) pos] c:=by
 intro Q E pins σ H s hG I h
 refine wpAny_execs_cons (wpAny_Assign_Name (wpAny_IfExp ?_) hs)
 obtain ⟨mm,hn,hl⟩:=I.loc
 obtain ⟨u,r,l⟩:=hl i m (.bl b) hN hG hv
 cases r
 have fin:(fun v s1=>v = Value.bool b∧s1 = s) (Value.bool b) s:=⟨rfl,rfl⟩
 have key:wpAny (model X.prog X.w) X.A (eval (.Name m mp) X.env) (fun v s1=>v = Value.bool b∧s1 = s) E s:=by
  rcases l with ⟨hk,hm⟩ | ⟨hk,c,hc,hcell⟩
  ·exact wpAny_Name (wpAny_loadName_local I.ok.kind hk hn hm fin) hd
  ·rcases hk with hk | hk
   ·exact wpAny_Name (wpAny_loadName_cell I.ok.kind hk hc hcell fin) hd
   ·exact wpAny_Name (wpAny_loadName_free I.ok.kind hk hc hcell fin hcd) hd
 refine isTrue_plain (wpAny_mono key (fun v s1 z=>?_) fun _ _ z=>z) rfl
 obtain ⟨rfl,rfl⟩:=z
 refine wpAny_truthy_bool ?_
 cases b with
 | true=>subst hc; exact (wpAny_mono h (fun _ _ z=>z.elim) fun _ _ z=>z)
 | false=>subst hc; exact (wpAny_mono h (fun _ _ z=>z.elim) fun _ _ z=>z)
end
section
variable {K:PySem.W.Frag} {pr:Nat→Bool} {ta tb:TE} {a:AE}
def l1a (a:AE) (i:Nat):AE:=fun ρ q=>a ρ fun r ρ1=>match r with
 | .d d=>(match gt ρ1 i with
  | .ex C fs=>q (.x (.px d C fs)) ρ1
  | _=>False)
 | _=>False
theorem a1s {i:Nat} (ha:TEok K ta a):TEok K (tTup (u0w ta (u0w (tVar i) tNil))) (l1a a i):=by
 intro F σ ρ H q Q r h k
 refine ha F σ ρ H _ _ r h fun r1 ρ1 x H1 h1 o1=>?_
 obtain ⟨r',k1,i1⟩:=o1.inF
 split at h1
 ·rename_i d
  split at h1
  ·rename_i C fs hg
   have s:=r'.sl i
   rw [hg] at s
   obtain ⟨e,od,e1,e2,e3⟩:=s
   have rd:RepD K (hid H1 (hs F σ ρ1)) x d:=i1
   refine ⟨_,e1,small (by simp),fun p hp=>?_⟩
   have kp:Kp σ ρ1 ρ1 H1 (upd H1 p (.tup [x,.ref e])):=Kp.fresh hp
   refine (k.after k1) (.x (.px d C fs)) ρ1 (.ref p) _ h1 ⟨r'.fresh hp,kp,rfl,p,x,e,od,rfl,?_,rd.same kp.vis,kp.vis _ _ e2,e3.same kp.vis⟩
   exact f0h (g0o r' hp) a0v
  ·exact h1.elim
 ·exact h1.elim
def k1j (i j:Nat) (x:AE):AS:=fun e ρ=>x ρ fun r ρ1=>match r with
 | .d (.tup [d1,d2])=>e.nx (pt (pt ρ1 i (.vl d1)) j (.vl d2))
 | .x (.px d C fs)=>e.nx (pt (pt ρ1 i (.vl d)) j (.ex C fs))
 | _=>False
theorem x0h {i j:Nat} (ha:TEok K ta a) (hi:pr i = false) (hj:pr j = false):TSok K pr (tAsg ta (gTup K 2 (c1f (v0q i) (c1f (v0q j) gNil)))) (k1j i j a):=by
 intro F σ ρ H D e hp r h k
 refine ha F σ ρ H _ _ r h fun r1 ρ1 v H1 h1 o1=>?_
 have sv:∀ {d:L2.D} {v1:V},Same (hid H1 (hs F σ ρ1)) (hid H1 (hs F (σ.set i (some v1)) (pt ρ1 i (.vl d)))):=fun {d v1}=>y0d fun m hm=>by
  obtain ⟨ne,q⟩:=e0c rfl hm
  exact ⟨q,by rw [List.getElem?_set_ne ne]⟩
 split at h1
 ·obtain ⟨r',k1,rd⟩:=o1
  obtain ⟨p,v1,v2,rfl,hp',q1,q2⟩:=e1z rd
  refine ⟨p,[v1,v2],rfl,SqT.of (d0b.mp hp').2,rfl,v1,_,rfl,v2,_,rfl,rfl,?_⟩
  exact k.nx _ _ _ h1 ((r'.set q1 (p0k hp hi)).set (q2.same sv) (p0k hp hj))
 ·obtain ⟨r',k1,_,p,x,ee,od,e0,e1,e2,e3,e4⟩:=o1
  injection e0 with e0; injection e0 with e0; subst e0
  refine ⟨p,[x,.ref ee],rfl,SqT.of (d0b.mp e1).2,rfl,x,_,rfl,.ref ee,_,rfl,rfl,?_⟩
  refine k.nx _ _ _ h1 ((r'.set e2 (p0k hp hi)).setS rfl ⟨ee,od,rfl,sv _ _ e3,e4.same sv⟩ (p0k hp hj))
 ·exact h1.elim
end
end L2
namespace K62
open PySem PySem.Spec PyProof.Rows L2
def top (i:Nat):Stmt:=PySem.Challenge.pw_fewjoins_k62_rows_that_lean.main.body.getD i (.Pass ⟨0,0,0,0⟩)
abbrev e0i:Stmt:=k1w (top 10)
theorem x0j:b0i ["self", "place"] ["self", "place"] (a0j e0i):=⟨rfl,rfl,rfl,by decide +kernel,rfl,by decide +kernel,by decide +kernel⟩
abbrev j0v:Stmt:=top 14
abbrev y0l:List Str:=["one", "other"]
theorem x0k:b0i y0l ["one", "other"] (a0j j0v):=⟨rfl,rfl,rfl,by decide +kernel,rfl,by decide +kernel,by decide +kernel⟩
abbrev f0d:Stmt:=top 16
abbrev k0w:List Str:=["many"]
theorem q0z:b0i k0w ["many"] (a0j f0d):=⟨rfl,rfl,rfl,by decide +kernel,rfl,by decide +kernel,by decide +kernel⟩
abbrev k0j:Stmt:=top 18
abbrev t0s:List Str:=["rows"]
theorem b1c:b0i t0s ["rows"] (a0j k0j):=⟨rfl,rfl,rfl,by decide +kernel,rfl,by decide +kernel,by decide +kernel⟩
abbrev g0w:Stmt:=top 19
abbrev r0o:List Str:=["rows", "leads", "place", "row", "rest", "parts"]
theorem d0n:b0i r0o ["rows"] (a0j g0w):=⟨rfl,rfl,rfl,by decide +kernel,rfl,by decide +kernel,by decide +kernel⟩
abbrev h0w:Stmt:=top 20
abbrev v0f:List Str:=["leads", "row", "parts", "place", "rest", "summed"]
theorem d0m:b0i v0f ["leads", "row"] (a0j h0w):=⟨rfl,rfl,rfl,by decide +kernel,rfl,by decide +kernel,by decide +kernel⟩
abbrev d0q:Stmt:=top 22
abbrev g0l:List Str:=["wish", "many", "rows", "held", "chosen", "undone", "given", "having", "first", "place", "steps"]
theorem c0f:b0i g0l ["wish"] (a0j d0q):=⟨rfl,rfl,rfl,by decide +kernel,rfl,by decide +kernel,by decide +kernel⟩
abbrev b0v:Stmt:=top 23
abbrev i0d:List Str:=["wish", "many", "rows", "kept", "place"]
theorem a0p:b0i i0d ["wish"] (a0j b0v):=⟨rfl,rfl,rfl,by decide +kernel,rfl,by decide +kernel,by decide +kernel⟩
abbrev c0b:Stmt:=top 26
abbrev k0x:List Str:=["wish", "many", "rows", "reached", "ways"]
theorem a0u:b0i k0x ["wish"] (a0j c0b):=⟨rfl,rfl,rfl,by decide +kernel,rfl,by decide +kernel,by decide +kernel⟩
abbrev d0p:Stmt:=top 27
abbrev k0v:List Str:=["many", "reached", "ways", "newly", "cells", "a", "b", "changed"]
theorem c0e:b0i k0v ["many", "reached", "ways"] (a0j d0p):=⟨rfl,rfl,rfl,by decide +kernel,rfl,by decide +kernel,by decide +kernel⟩
abbrev e0o:Stmt:=top 28
abbrev j0g:List Str:=["many"]
theorem o0z:b0i j0g ["many"] (a0j e0o):=⟨rfl,rfl,rfl,by decide +kernel,rfl,by decide +kernel,by decide +kernel⟩
abbrev f0m:Stmt:=top 29
abbrev p0m:List Str:=["cells", "a", "b", "changed"]
theorem j0a:b0i p0m ["cells", "a", "b"] (a0j f0m):=⟨rfl,rfl,rfl,by decide +kernel,rfl,by decide +kernel,by decide +kernel⟩
abbrev g0y:Stmt:=top 31
abbrev r0q:List Str:=["_law_script"]
theorem r0a:b0i r0q ["_law_script"] (a0j g0y):=⟨rfl,rfl,rfl,by decide +kernel,rfl,by decide +kernel,by decide +kernel⟩
abbrev h0a:Stmt:=top 32
abbrev r0s:List Str:=["_law_tape_here", "_law_many", "_law_found", "_law_spot", "_law_cells", "_law_cell", "_law_seed"]
theorem d0e:b0i r0s ["_law_tape_here", "_law_many"] (a0j h0a):=⟨rfl,rfl,rfl,by decide +kernel,rfl,by decide +kernel,by decide +kernel⟩
abbrev f0n:Stmt:=top 33
abbrev p0n:List Str:=["_law_found"]
theorem o0x:b0i p0n ["_law_found"] (a0j f0n):=⟨rfl,rfl,rfl,by decide +kernel,rfl,by decide +kernel,by decide +kernel⟩
abbrev c0s:Stmt:=top 34
abbrev f0z:List Str:=["_law_tape_here", "_law_many", "_law_held", "_law_turn", "_law_a", "_law_b", "_law_found", "_law_row"]
theorem b0p:b0i f0z ["_law_tape_here", "_law_many"] (a0j c0s):=⟨rfl,rfl,rfl,by decide +kernel,rfl,by decide +kernel,by decide +kernel⟩
abbrev g0z:Stmt:=top 35
abbrev r0r:List Str:=["_law_row", "_law_kept", "_law_other"]
theorem h0n:b0i r0r ["_law_row", "_law_kept"] (a0j g0z):=⟨rfl,rfl,rfl,by decide +kernel,rfl,by decide +kernel,by decide +kernel⟩
abbrev f0p:Stmt:=top 36
abbrev p0p:List Str:=["_law_error", "_law_place", "_law_kinds"]
theorem d0w:b0i p0p ["_law_error", "_law_place"] (a0j f0p):=⟨rfl,rfl,rfl,by decide +kernel,rfl,by decide +kernel,by decide +kernel⟩
abbrev e0u:Stmt:=top 37
abbrev n0q:List Str:=["_law_tape_here", "_law_many", "_law_rows", "_law_turn", "_law_at", "_law_row", "_law_other", "_law_way"]
theorem b0z:b0i n0q ["_law_tape_here", "_law_many", "_law_rows"] (a0j e0u):=⟨rfl,rfl,rfl,by decide +kernel,rfl,by decide +kernel,by decide +kernel⟩
abbrev h0x:Stmt:=top 38
abbrev v0g:List Str:=["_law_many", "_law_rows", "_law_most", "_law_kept", "_law_place", "_law_left_here"]
theorem g0v:b0i v0g ["_law_many", "_law_rows", "_law_most"] (a0j h0x):=⟨rfl,rfl,rfl,by decide +kernel,rfl,by decide +kernel,by decide +kernel⟩
abbrev g0x:Stmt:=top 39
abbrev r0p:List Str:=["_law_wish", "_law_few", "_law_found", "_law_kept", "e", "_law_place"]
theorem b0h:b0i r0p ["_law_wish", "_law_few"] (a0j g0x):=⟨rfl,rfl,rfl,by decide +kernel,rfl,by decide +kernel,by decide +kernel⟩
abbrev f0o:Stmt:=top 40
abbrev p0o:List Str:=["_law_many", "_law_rows", "_law_few", "_law_due_here", "_law_place", "_law_told_here", "_law_found"]
theorem d0v:b0i p0o ["_law_many", "_law_rows", "_law_few"] (a0j f0o):=⟨rfl,rfl,rfl,by decide +kernel,rfl,by decide +kernel,by decide +kernel⟩
abbrev b1d:Stmt:=top 41
abbrev i1t:List Str:=["_law_script", "_law_tape_here", "_law_turn", "_law_many", "_law_rows"]
theorem o0y:b0i i1t ["_law_script"] (a0j b1d):=⟨rfl,rfl,rfl,by decide +kernel,rfl,by decide +kernel,by decide +kernel⟩
section
variable {P:Program} {w:World} {K:PySem.W.Frag} {mg:Str→Option Value} {base:Heap}
theorem r0l (D:DefN K mg "_law_tape" g0y ["_law_script"]) (B:BI mg):OkN P w K mg base 1 "_law_tape" ["_law_script"] (spA K g1x):=by
 refine OkN.imp (sp:=x0d K) ?_ e1n
 refine D.ok r0a (fun vs H Q E h=>?_) (fun f cdv A outer s H vs Q E hr h=>?_)
 ·obtain ⟨a,ns,rfl,_⟩:=h
  rfl
 ·obtain ⟨a,ns,rfl,hS,k⟩:=h
  refine ⟨_,(a0k (b0s (f1h (n0k e0f (t0j (t0a K) (pv 0) x0z (x0y a0q)) (n0k e0f a0q (n0k e0f a0q f1e))) rfl rfl (by simp) (by decide)))),?_⟩
  intro t ht
  have s0:Same H (upd H t (.dK [])):=(Same.refl H).new ht
  refine ⟨_,rfl,63,rfl,a,_,rfl,s0.seq hS,fun l hl=>?_⟩
  have ntl:t ≠ l:=b0c a0v hl
  refine ⟨by rw [a0l ntl,a0v],[(Sum.inr ("cells" : Str),V.ref l),(Sum.inr ("spot" : Str),V.int 0),(Sum.inr ("left" : Str),V.int 0)],rfl,(by show 3 ≤ 15; decide),?_⟩
  rw [w0v]
  have fin:=k t l ht (s0.free hl) ntl
  have eq:upd (upd (upd H t (.dK [])) l (.lst (cutV (ns.map V.int) none (some 63)))) t (.dK (c0r l 0 0)) = upd (upd H l (.lst ((ns.take 63).map V.int))) t (.dK (c0r l 0 0)):=by
   rw [k1v]
   funext b
   unfold upd
   by_cases h1:b = t
   ·rw [if_pos h1,if_pos h1]
   ·rw [if_neg h1,if_neg h1,if_neg h1]
  rw [eq]
  exact fin
theorem r0n (D:DefN K mg "_law_draw" h0a ["_law_tape_here", "_law_many"]) (B:BI mg):OkN P w K mg base 1 "_law_draw" ["_law_tape_here", "_law_many"] (spA K a1m):=by
 refine OkN.imp (sp:=x0e K) ?_ g1g
 refine D.ok d0e (fun vs H Q E h=>?_) (fun f cdv A outer s H vs Q E hr h=>?_)
 ·obtain ⟨t,c,m,sp,lf,ns,n,rfl,_⟩:=h
  rfl
 ·obtain ⟨t,c,m,sp,lf,ns,n,rfl,hT,hC,h1,h2,h3,hn,hm,k⟩:=h
  have hu:=d0l hr
  have hm0:=hm.1
  have gl:DGet H t (kV (Sum.inr "left")) (some (.int lf)):=by rw [← w0w (c:=c) (sp:=sp)]; exact DGet.k hT
  have gs:DGet H t (kV (Sum.inr "spot")) (some (.int sp)):=by rw [← w0u (c:=c) (lf:=lf)]; exact DGet.k hT
  have gc:DGet H t (kV (Sum.inr "cells")) (some (.ref c)):=by rw [← m0j (sp:=sp) (lf:=lf)]; exact DGet.k hT
  refine ⟨_,(a0f (e0s (b0n m0d (e0p hu (pv 0) e0f (fun _ _=>rfl)) a0q (c0a _))
   (a0f (b0f (i:=2) d0e.nd rfl (by first | exact Or.inl rfl | exact Or.inr rfl) (b0o j0d (e0p hu (pv 0) e0f (fun _ _=>rfl)) (pv 1)))
   (a0f (i0r hu (pv 0) e0f (b0o n0m (e0p hu (pv 0) e0f (fun _ _=>rfl)) (pv 1)) rfl)
   (a0k (b0s (pv 2)))))
   b0x)
   (a0f (b0f (i:=3) d0e.nd rfl (by first | exact Or.inl rfl | exact Or.inr rfl) (e0p hu (pv 0) e0f (fun _ _=>rfl)))
   (a0f (i0r hu (pv 0) e0f (b0o g0j (pv 3) a0q) rfl)
   (a0f (b0f (i:=4) d0e.nd rfl (by first | exact Or.inl rfl | exact Or.inr rfl) (e0p hu (pv 0) e0f (fun _ _=>rfl)))
   (a0f (b0f (i:=5) d0e.nd rfl (by first | exact Or.inl rfl | exact Or.inr rfl) a0q)
   (a0f (e0s (b0n m0d (b0d (c0n K) rfl B.len_ g0a (a0c (pv 4) a0e)) a0q (c0a _))
   (a0k (b0f (i:=5) d0e.nd rfl (by first | exact Or.inl rfl | exact Or.inr rfl) (i0a (d0h K) (pv 4) (b0o j0d (pv 3) (b0d (c0n K) rfl B.len_ g0a (a0c (pv 4) a0e))) (fun _ _=>rfl))))
   b0x)
   (a0f (e0s (PW.pt (d1e (b0n k1r (pv 5) (b0o y0g a0q a0q) (c0a _)) (x0q (b0n k1q (pv 3) (b0d (c0n K) rfl B.len_ g0a (a0c (pv 4) a0e)) (c0a _)))))
   (a0f (i0r hu (pv 0) e0f (b0o n0m (b0o t0p (pv 5) (b0o y0g a0q a0q)) (pv 1)) rfl)
   (a0k (b0s (b0o j0d (b0o t0p (pv 5) (b0o y0g a0q a0q)) (pv 1)))))
   b0x)
   (a0f (b0f (i:=6) d0e.nd rfl (by first | exact Or.inl rfl | exact Or.inr rfl) (b0o j0d (b0o j0c (b0o g0j (b0o g0j (b0o g0j (b0o j0d (pv 5) a0q) (b0o j0c (b0o j0c a0q (pv 3)) (pv 3))) (b0o j0c a0q (pv 3))) a0q) a0q) a0q))
   (a0k (b0s (b0o j0d (b0o n0m (b0o j0d (b0o j0c (pv 6) (b0o g0j (pv 6) a0q)) a0q) a0q) (pv 1)))))))))))),?_⟩
  refine ⟨_,rfl,t,_,rfl,gl,_,_,rfl,rfl,_,rfl,ite2 (fun hl=>?_) fun hl=>?_⟩
  ·refine ⟨_,rfl,t,_,rfl,gl,_,rfl,_,_,rfl,rfl,hm0,?_⟩
   refine ⟨_,rfl,t,_,rfl,gl,_,rfl,_,_,rfl,rfl,hm,_,rfl,t,_,rfl,DPut.k (k:=Sum.inr "left") hT (h0v (by show 3 ≤ 1000; decide)),_,rfl,?_⟩
   rw [n0i]
   exact drawn (Q:=fun z H=>Q (.int z) H) hm0 fun r hr=>k r _ _ hr h1 (by omega) (Int.ediv_nonneg h3 (Int.le_of_lt hm0))
  ·refine ⟨_,rfl,t,_,rfl,gs,?_⟩
   refine ⟨_,rfl,_,_,rfl,rfl,_,rfl,t,_,rfl,DPut.k (k:=Sum.inr "spot") hT (h0v (by show 3 ≤ 1000; decide)),?_⟩
   rw [b1f]
   have hT1:(upd H t (.dK (c0r c (sp + 1) lf))) t = some (.dK (c0r c (sp + 1) lf)):=a0v
   have hC1:SqL K (upd H t (.dK (c0r c (sp + 1) lf))) c (ns.map V.int):=Grow.seq (Grow.refl.upd _) hT hC
   have gr1:Grow t H (upd H t (.dK (c0r c (sp + 1) lf))):=Grow.refl.upd _
   have gc1:DGet (upd H t (.dK (c0r c (sp + 1) lf))) t (kV (Sum.inr "cells")) (some (.ref c)):=by rw [← m0j (sp:=sp + 1) (lf:=lf)]; exact DGet.k hT1
   have kk:∀ (r:Nat) (lf':Int),(r:Int) < m→0 ≤ lf'→Q (.int (r:Nat)) (upd (upd H t (.dK (c0r c (sp + 1) lf))) t (.dK (c0r c (sp + 1) lf'))):=fun r lf' hr hl=>by rw [e1f]; exact k r _ _ hr (by omega) (by omega) hl
   have kl:∀ (r:Nat),(r:Int) < m→Q (.int (r:Nat)) (upd H t (.dK (c0r c (sp + 1) lf))):=fun r hr=>k r _ _ hr (by omega) (by omega) h3
   generalize upd H t (.dK (c0r c (sp + 1) lf)) = H1 at hT1 hC1 gr1 gc1 kk kl ⊢
   refine ⟨_,rfl,t,_,rfl,gc1,?_⟩
   have p18:(10:Int) ^ (18:Int).toNat = 1000000000000000000:=by decide
   have fits:CPow 10 18:=⟨by decide,by decide,by decide⟩
   have pos1:(0:Int) < 2147483629:=by decide
   have pos2:(0:Int) < 2147483647:=by decide
   have spOk:-(2 ^ 64) < sp∧sp < 2 ^ 64:=by omega
   refine ⟨_,rfl,c,_,rfl,.inl hC1,_,_,rfl,rfl,_,rfl,ite2 (fun hl=>?_) fun hl=>?_⟩
   ·have hl':0 < ns.length:=by
     have:=of_decide_eq_true hl
     rw [List.length_map] at this
     omega
    have el:((ns.map V.int).length:Int) = ns.length:=by rw [List.length_map]
    have hb0:0 ≤ sp % ((ns.map V.int).length:Int):=Int.emod_nonneg _ (by omega)
    have hb1:sp % ((ns.map V.int).length:Int) < ((ns.map V.int).length:Int):=Int.emod_lt_of_pos _ (by omega)
    obtain ⟨j,hj⟩:=Int.eq_ofNat_of_zero_le hb0
    have hj':j < ns.length:=by rw [hj] at hb1; omega
    refine ⟨_,rfl,_,rfl,_,rfl,c,_,rfl,.inl hC1,_,_,rfl,rfl,(by show (0:Int) < ((ns.map V.int).length:Int); omega),.inl ⟨c,_,_,V.int ns[j],rfl,rfl,hC1,?_,?_⟩⟩
    ·rw [hj]
     exact a1h (by simp [hj'])
    ·generalize ns[j] = z
     refine ⟨_,rfl,_,_,rfl,rfl,fits,_,_,rfl,rfl,_,rfl,ite2 (fun hz=>?_) fun hz=>?_⟩
     ·refine ⟨_,rfl,_,rfl,c,_,rfl,.inl hC1,_,_,rfl,rfl,_,rfl,ite2 (fun hs=>?_) fun hs=>?_⟩
      ·refine ⟨_,rfl,_,_,rfl,rfl,fits,_,_,rfl,rfl,_,rfl,_,_,rfl,rfl,hm,_,rfl,t,_,rfl,DPut.k (k:=Sum.inr "left") hT1 (h0v (by show 3 ≤ 1000; decide)),?_⟩
       rw [n0i]
       refine ⟨_,rfl,_,_,rfl,rfl,fits,_,_,rfl,rfl,_,rfl,_,_,rfl,rfl,hm0,?_⟩
       refine drawn (Q:=fun z H=>Q (.int z) H) hm0 fun r hr=>kk r _ hr (Int.ediv_nonneg ?_ (Int.le_of_lt hm0))
       have hz':=of_decide_eq_true hz
       rw [p18] at hz' ⊢
       omega
      ·refine ⟨_,rfl,_,_,rfl,rfl,pos1,_,rfl,_,_,rfl,rfl,.inl ⟨by decide,by decide⟩,_,rfl,_,_,rfl,rfl,.inr spOk,_,_,rfl,rfl,_,rfl,_,_,rfl,rfl,.inl ⟨by decide,by decide⟩,_,_,rfl,rfl,_,_,rfl,rfl,_,_,rfl,rfl,.inr ⟨by decide,by decide⟩,_,_,rfl,rfl,pos2,?_⟩
       refine ⟨_,rfl,_,rfl,_,_,rfl,rfl,_,_,rfl,rfl,.inl t0b,_,_,rfl,rfl,pos1,_,_,rfl,rfl,dv64,_,rfl,_,_,rfl,rfl,hm0,?_⟩
       exact drawn (Q:=fun z H=>Q (.int z) H) hm0 fun r hr=>kl r hr
     ·refine ⟨_,rfl,_,_,rfl,rfl,pos1,_,rfl,_,_,rfl,rfl,.inl ⟨by decide,by decide⟩,_,rfl,_,_,rfl,rfl,.inr spOk,_,_,rfl,rfl,_,rfl,_,_,rfl,rfl,.inl ⟨by decide,by decide⟩,_,_,rfl,rfl,_,_,rfl,rfl,_,_,rfl,rfl,.inr ⟨by decide,by decide⟩,_,_,rfl,rfl,pos2,?_⟩
      refine ⟨_,rfl,_,rfl,_,_,rfl,rfl,_,_,rfl,rfl,.inl t0b,_,_,rfl,rfl,pos1,_,_,rfl,rfl,dv64,_,rfl,_,_,rfl,rfl,hm0,?_⟩
      exact drawn (Q:=fun z H=>Q (.int z) H) hm0 fun r hr=>kl r hr
   ·refine ⟨_,rfl,_,_,rfl,rfl,fits,_,_,rfl,rfl,_,rfl,ite2 (fun hz=>?_) fun hz=>?_⟩
    ·refine ⟨_,rfl,_,rfl,c,_,rfl,.inl hC1,_,_,rfl,rfl,_,rfl,ite2 (fun hs=>?_) fun hs=>?_⟩
     ·refine ⟨_,rfl,_,_,rfl,rfl,fits,_,_,rfl,rfl,_,rfl,_,_,rfl,rfl,hm,_,rfl,t,_,rfl,DPut.k (k:=Sum.inr "left") hT1 (h0v (by show 3 ≤ 1000; decide)),?_⟩
      rw [n0i]
      refine ⟨_,rfl,_,_,rfl,rfl,fits,_,_,rfl,rfl,_,rfl,_,_,rfl,rfl,hm0,?_⟩
      refine drawn (Q:=fun z H=>Q (.int z) H) hm0 fun r hr=>kk r _ hr (Int.ediv_nonneg ?_ (Int.le_of_lt hm0))
      have hz':=of_decide_eq_true hz
      rw [p18] at hz' ⊢
      omega
     ·refine ⟨_,rfl,_,_,rfl,rfl,pos1,_,rfl,_,_,rfl,rfl,.inl ⟨by decide,by decide⟩,_,rfl,_,_,rfl,rfl,.inr spOk,_,_,rfl,rfl,_,rfl,_,_,rfl,rfl,.inl ⟨by decide,by decide⟩,_,_,rfl,rfl,_,_,rfl,rfl,_,_,rfl,rfl,.inr ⟨by decide,by decide⟩,_,_,rfl,rfl,pos2,?_⟩
      refine ⟨_,rfl,_,rfl,_,_,rfl,rfl,_,_,rfl,rfl,.inl t0b,_,_,rfl,rfl,pos1,_,_,rfl,rfl,dv64,_,rfl,_,_,rfl,rfl,hm0,?_⟩
      exact drawn (Q:=fun z H=>Q (.int z) H) hm0 fun r hr=>kl r hr
    ·refine ⟨_,rfl,_,_,rfl,rfl,pos1,_,rfl,_,_,rfl,rfl,.inl ⟨by decide,by decide⟩,_,rfl,_,_,rfl,rfl,.inr spOk,_,_,rfl,rfl,_,rfl,_,_,rfl,rfl,.inl ⟨by decide,by decide⟩,_,_,rfl,rfl,_,_,rfl,rfl,_,_,rfl,rfl,.inr ⟨by decide,by decide⟩,_,_,rfl,rfl,pos2,?_⟩
     refine ⟨_,rfl,_,rfl,_,_,rfl,rfl,_,_,rfl,rfl,.inl t0b,_,_,rfl,rfl,pos1,_,_,rfl,rfl,dv64,_,rfl,_,_,rfl,rfl,hm0,?_⟩
     exact drawn (Q:=fun z H=>Q (.int z) H) hm0 fun r hr=>kl r hr
end
theorem o0u {α:Type}:∀ (xs:List α),xs ≠ []→∃ ys y,xs = ys ++ [y]
 | [],h=>(h rfl).elim
 | [x],_=>⟨[],x,rfl⟩
 | x :: y :: r,_=>by obtain ⟨ys,z,e⟩:=o0u (y :: r) (by simp); exact ⟨x :: ys,z,by rw [e]; rfl⟩
theorem g0f {α:Type} {xs:List α} {k:Nat} {x:α} (h:xs[k]? = some x):xs.take (k + 1) = xs.take k ++ [x]:=by rw [List.take_succ,h]; rfl
theorem h0m {n:Nat} (h:n ≠ 0):n.testBit (bitsN n - 1) = true∧0 < bitsN n:=by
 have h0:0 < bitsN n:=by unfold bitsN; rw [if_neg h]; omega
 refine ⟨?_,h0⟩
 cases e:n.testBit (bitsN n - 1) with
 | true=>rfl
 | false =>
  have:n < 2 ^ (bitsN n - 1):=Nat.lt_pow_two_of_testBit n fun i hi=>by
   cases q:n.testBit i with
   | false=>rfl
   | true =>
    have:=l0c q
    have:i = bitsN n - 1:=by omega
    subst this
    rw [e] at q; cases q
  have:=bits_le this
  omega
theorem i0o {n j:Nat} (h:bitsN n ≤ j):n.testBit j = false:=by
 cases q:n.testBit j with
 | false=>rfl
 | true=>have:=l0c q; omega
theorem q0o {n:Nat} (h:bitsN n = 0):n = 0:=by
 by_cases e:n = 0
 ·exact e
 ·have:=(h0m e).2; omega
theorem l0v {a b:Nat} (h:bitsN a = bitsN b) (hb:b ≠ 0):bitsN (a ^^^ b) < bitsN a:=by
 have hb1:=h0m hb
 have ha:a ≠ 0:=fun e=>by rw [e] at h; have:bitsN 0 = 0:=rfl; omega
 have ha1:=h0m ha
 have:a ^^^ b < 2 ^ (bitsN a - 1):=Nat.lt_pow_two_of_testBit _ fun i hi=>by
  rw [Nat.testBit_xor]
  by_cases e:i = bitsN a - 1
  ·subst e; rw [ha1.1,h,hb1.1]; rfl
  ·rw [i0o (n:=a) (by omega),i0o (n:=b) (by omega)]; rfl
 have:=bits_le this
 omega
theorem h0q {a b:Nat} (h:bitsN a < bitsN b):bitsN (a ^^^ b) = bitsN b:=by
 have hb:b ≠ 0:=fun e=>by rw [e] at h; have:bitsN 0 = 0:=rfl; omega
 have hb1:=h0m hb
 have l1:(a ^^^ b).testBit (bitsN b - 1) = true:=by rw [Nat.testBit_xor,hb1.1,i0o (n:=a) (by omega)]; rfl
 have:=l0c l1
 have l2:a ^^^ b < 2 ^ bitsN b:=Nat.xor_lt_two_pow (Nat.lt_of_lt_of_le m0m (Nat.pow_le_pow_right (by decide) (by omega))) m0m
 have:=bits_le l2
 omega
theorem d1m {x y t:Nat} (hx:x.testBit t = false) (hy:y.testBit t = true) (he:∀ j,t < j→x.testBit j = y.testBit j):x < y:=by
 have hq:x / 2 ^ (t + 1) = y / 2 ^ (t + 1):=by
  apply Nat.eq_of_testBit_eq
  intro j
  rw [Nat.testBit_div_two_pow,Nat.testBit_div_two_pow]
  exact he _ (by omega)
 have h1:x % 2 ^ (t + 1) < 2 ^ t:=Nat.lt_pow_two_of_testBit _ fun i hi=>by
  rw [Nat.testBit_mod_two_pow]
  by_cases e:i = t
  ·subst e; rw [hx,Bool.and_false]
  ·rw [decide_eq_false (show ¬ i < t + 1 by omega),Bool.false_and]
 have h2:2 ^ t ≤ y % 2 ^ (t + 1):=by
  apply Nat.ge_two_pow_of_testBit
  rw [Nat.testBit_mod_two_pow,hy]; simp
 have ex:=Nat.div_add_mod x (2 ^ (t + 1))
 have ey:=Nat.div_add_mod y (2 ^ (t + 1))
 rw [hq] at ex
 omega
theorem h0k (a b:Nat):(a ^^^ b) ^^^ b = a:=by rw [Nat.xor_assoc,Nat.xor_self,Nat.xor_zero]
inductive Spn (gs:List Nat):Nat→Prop
 | zero:Spn gs 0
 | step {g r:Nat}:g ∈ gs→Spn gs r→Spn gs (r ^^^ g)
theorem Spn.mem {gs:List Nat} {g:Nat} (h:g ∈ gs):Spn gs g:=by have:=Spn.step h Spn.zero; rwa [Nat.zero_xor] at this
theorem Spn.xor {gs:List Nat} {a b:Nat} (ha:Spn gs a) (hb:Spn gs b):Spn gs (a ^^^ b):=by
 induction hb with
 | zero=>rwa [Nat.xor_zero]
 | step hg _ ih=>rw [← Nat.xor_assoc]; exact .step hg ih
theorem Spn.mono {gs hs:List Nat} {a:Nat} (h:∀ g ∈ gs,Spn hs g) (ha:Spn gs a):Spn hs a:=by
 induction ha with
 | zero=>exact .zero
 | step hg _ ih=>exact ih.xor (h _ hg)
theorem Spn.sub {gs hs:List Nat} {a:Nat} (h:∀ g ∈ gs,g ∈ hs) (ha:Spn gs a):Spn hs a:=ha.mono fun g hg=>.mem (h g hg)
theorem Spn.cons {gs:List Nat} {k a:Nat} (h:Spn (k :: gs) a):Spn gs a ∨ Spn gs (a ^^^ k):=by
 induction h with
 | zero=>exact .inl .zero
 | @step g r hg _ ih =>
  rcases List.mem_cons.mp hg with e | e
  ·subst e
   rcases ih with ih | ih
   ·right; rwa [h0k]
   ·left; exact ih
  ·rcases ih with ih | ih
   ·exact .inl (ih.xor (.mem e))
   ·right
    have:=ih.xor (.mem e)
    rwa [Nat.xor_assoc,Nat.xor_comm k g,← Nat.xor_assoc] at this
theorem Spn.bit {gs:List Nat} {a t:Nat} (h:∀ g ∈ gs,g.testBit t = false) (ha:Spn gs a):a.testBit t = false:=by
 induction ha with
 | zero=>exact Nat.zero_testBit t
 | step hg _ ih=>rw [Nat.testBit_xor,ih,h _ hg]; rfl
theorem s0d:∀ {gs:List Nat},(gs.map bitsN).Nodup→∀ {r:Nat},Spn gs r→r ≠ 0→∃ g ∈ gs,bitsN g = bitsN r
 | [],_,r,h,h0=>by
  cases h with
  | zero=>exact (h0 rfl).elim
  | step hg _=>cases hg
 | g :: gs,hn,r,h,h0=>by
  rw [List.map_cons,List.nodup_cons] at hn
  rcases h.cons with h | h
  ·obtain ⟨g',m,e⟩:=s0d hn.2 h h0
   exact ⟨g',.tail _ m,e⟩
  ·by_cases z:r ^^^ g = 0
   ·have:r = g:=by have:=h0k r g; rw [z,Nat.zero_xor] at this; exact this.symm
    exact ⟨g,.head _,by rw [this]⟩
   ·obtain ⟨g',m,e⟩:=s0d hn.2 h z
    have ne:bitsN (r ^^^ g) ≠ bitsN g:=fun q=>hn.1 (List.mem_map.mpr ⟨g',m,e.trans q⟩)
    have er:r = (r ^^^ g) ^^^ g:=(h0k r g).symm
    rcases Nat.lt_or_ge (bitsN (r ^^^ g)) (bitsN g) with q | q
    ·have eb:bitsN ((r ^^^ g) ^^^ g) = bitsN g:=by rw [h0q q]
     rw [← er] at eb
     exact ⟨g,.head _,eb.symm⟩
    ·refine ⟨g',.tail _ m,?_⟩
     conv=>rhs; rw [er]
     rw [Nat.xor_comm (r ^^^ g) g,h0q (by omega),e]
def lef (r:Nat) (ks:List Nat):Nat:=ks.foldl (fun r k=>min r (r ^^^ k)) r
theorem y0n {r k:Nat} (hk:k ≠ 0):(min r (r ^^^ k)).testBit (bitsN k - 1) = false∧(min r (r ^^^ k) = r ∨ min r (r ^^^ k) = r ^^^ k):=by
 have h1:=h0m hk
 have he:∀ j,bitsN k - 1 < j→(r ^^^ k).testBit j = r.testBit j:=fun j hj=>by rw [Nat.testBit_xor,i0o (n:=k) (by omega),Bool.xor_false]
 cases e:r.testBit (bitsN k - 1) with
 | true =>
  have e2:(r ^^^ k).testBit (bitsN k - 1) = false:=by rw [Nat.testBit_xor,e,h1.1]; rfl
  have lt:r ^^^ k < r:=d1m e2 e he
  rw [Nat.min_eq_right (by omega)]
  exact ⟨e2,.inr rfl⟩
 | false =>
  have e2:(r ^^^ k).testBit (bitsN k - 1) = true:=by rw [Nat.testBit_xor,e,h1.1]; rfl
  have lt:r < r ^^^ k:=d1m e e2 fun j hj=>(he j hj).symm
  rw [Nat.min_eq_left (by omega)]
  exact ⟨e,.inl rfl⟩
theorem y0q {t:Nat}:∀ {ks:List Nat} {r:Nat},(∀ k ∈ ks,k.testBit t = false)→(lef r ks).testBit t = r.testBit t
 | [],r,_=>rfl
 | k :: ks,r,h=>by
  show (lef (min r (r ^^^ k)) ks).testBit t = _
  rw [y0q fun x hx=>h x (.tail _ hx)]
  rcases Nat.le_total r (r ^^^ k) with q | q
  ·rw [Nat.min_eq_left q]
  ·rw [Nat.min_eq_right q,Nat.testBit_xor,h k (.head _),Bool.xor_false]
theorem l0d:∀ {ks:List Nat} {r:Nat},Spn ks (r ^^^ lef r ks)
 | [],r=>by show Spn [] (r ^^^ r); rw [Nat.xor_self]; exact .zero
 | k :: ks,r=>by
  have ih:=l0d (ks:=ks) (r:=min r (r ^^^ k))
  have ih':Spn (k :: ks) (min r (r ^^^ k) ^^^ lef (min r (r ^^^ k)) ks):=ih.sub fun g hg=>.tail _ hg
  show Spn (k :: ks) (r ^^^ lef (min r (r ^^^ k)) ks)
  rcases Nat.le_total r (r ^^^ k) with q | q
  ·rw [Nat.min_eq_left q] at ih' ⊢; exact ih'
  ·rw [Nat.min_eq_right q] at ih' ⊢
   have:=ih'.xor (.mem (List.mem_cons_self (a:=k)))
   have e:(r ^^^ k ^^^ lef (r ^^^ k) ks) ^^^ k = r ^^^ lef (r ^^^ k) ks:=by
    rw [Nat.xor_assoc,Nat.xor_comm (lef (r ^^^ k) ks) k,← Nat.xor_assoc,h0k]
   rwa [e] at this
inductive Ech:List Nat→Prop
 | nil:Ech []
 | cons {k:Nat} {ks:List Nat}:k ≠ 0→(∀ x ∈ ks,x.testBit (bitsN k - 1) = false)→Ech ks→Ech (k :: ks)
theorem l0e:∀ {ks:List Nat} {r:Nat},Ech ks→∀ k ∈ ks,(lef r ks).testBit (bitsN k - 1) = false
 | k :: ks,r,.cons h0 h1 h2,x,hx=>by
  show (lef (min r (r ^^^ k)) ks).testBit _ = _
  rcases List.mem_cons.mp hx with e | e
  ·subst e
   rw [y0q h1]
   exact (y0n h0).1
  ·exact l0e h2 x e
theorem u0d:∀ {ks:List Nat},Ech ks→∀ {r:Nat},Spn ks r→(∀ k ∈ ks,r.testBit (bitsN k - 1) = false)→r = 0
 | [],_,r,h,_=>by
  cases h with
  | zero=>rfl
  | step hg _=>cases hg
 | k :: ks,.cons h0 h1 h2,r,h,hb=>by
  rcases h.cons with h | h
  ·exact u0d h2 h fun x hx=>hb x (.tail _ hx)
  ·have e:=Spn.bit h1 h
   rw [Nat.testBit_xor,hb k (.head _),(h0m h0).1] at e
   cases e
theorem u0e:∀ {ks:List Nat} {x:Nat},Ech ks→x ≠ 0→(∀ k ∈ ks,x.testBit (bitsN k - 1) = false)→Ech (ks ++ [x])
 | [],x,_,h0,_=>.cons h0 (fun _ h=>nomatch h) .nil
 | k :: ks,x,.cons a b c,h0,hb=>by
  refine .cons a (fun y hy=>?_) (u0e c h0 fun z hz=>hb z (.tail _ hz))
  rcases List.mem_append.mp hy with e | e
  ·exact b y e
  ·rw [List.mem_singleton.mp e]; exact hb k (.head _)
theorem i0g {ks:List Nat} {r:Nat} (h:Ech ks):lef r ks = 0↔Spn ks r:=by
 constructor
 ·intro e
  have:=l0d (ks:=ks) (r:=r)
  rwa [e,Nat.xor_zero] at this
 ·intro hr
  have:=hr.xor (l0d (ks:=ks) (r:=r))
  rw [← Nat.xor_assoc,Nat.xor_self,Nat.zero_xor] at this
  exact u0d h this (l0e h)
def xF (p:Nat→Bool) (c:Nat→Nat) (m:Nat):Nat:=(List.range m).foldl (fun a k=>if p k then a ^^^ c k else a) 0
theorem k0c (p:Nat→Bool) (c:Nat→Nat) (m:Nat):xF p c (m + 1) = if p m then xF p c m ^^^ c m else xF p c m:=by unfold xF; rw [List.range_succ,List.foldl_append]; rfl
theorem s0s (a b c:Nat):(a ^^^ c) ^^^ (b ^^^ c) = a ^^^ b:=by
 rw [Nat.xor_comm b c,← Nat.xor_assoc,Nat.xor_assoc a c c,Nat.xor_self,Nat.xor_zero]
theorem c1s (p q:Nat→Bool) (c:Nat→Nat):∀ m,xF (fun k=>p k ^^ q k) c m = xF p c m ^^^ xF q c m
 | 0=>(Nat.xor_self 0).symm
 | m + 1=>by
  rw [k0c,k0c,k0c,c1s p q c m]
  cases p m <;> cases q m
  ·rfl
  ·show (xF p c m ^^^ xF q c m) ^^^ c m = xF p c m ^^^ (xF q c m ^^^ c m); rw [Nat.xor_assoc]
  ·show (xF p c m ^^^ xF q c m) ^^^ c m = (xF p c m ^^^ c m) ^^^ xF q c m; rw [Nat.xor_assoc,Nat.xor_comm (xF q c m),← Nat.xor_assoc]
  ·show xF p c m ^^^ xF q c m = (xF p c m ^^^ c m) ^^^ (xF q c m ^^^ c m); rw [s0s]
theorem c1t (c:Nat→Nat) (i:Nat):∀ m,xF (fun k=>decide (i = k)) c m = if i < m then c i else 0
 | 0=>rfl
 | m + 1=>by
  rw [k0c,c1t c i m]
  by_cases e:i = m
  ·subst e; simp
  ·simp only [decide_eq_true_eq,e,if_false]
   by_cases q:i < m
   ·rw [if_pos q,if_pos (by omega)]
   ·rw [if_neg q,if_neg (by omega)]
theorem w0b (c:Nat→Nat):∀ m,xF (fun _=>false) c m = 0
 | 0=>rfl
 | m + 1=>by rw [k0c,w0b c m]; rfl
def xw (ws:List Nat) (r:Nat):Nat:=xF r.testBit (fun k=>ws.getD k 0) ws.length
theorem w0a (ws:List Nat) (r s:Nat):xw ws (r ^^^ s) = xw ws r ^^^ xw ws s:=by
 unfold xw
 rw [← c1s]
 congr 1
 funext k
 rw [Nat.testBit_xor]
theorem v0z (ws:List Nat):xw ws 0 = 0:=by
 unfold xw
 have:Nat.testBit 0 = fun _=>false:=by funext k; exact Nat.zero_testBit k
 rw [this,w0b]
theorem c1r (ws:List Nat) {i:Nat} (h:i < ws.length):xw ws (1 <<< i) = ws.getD i 0:=by
 unfold xw
 have:Nat.testBit (1 <<< i) = fun k=>decide (i = k):=by
  funext k
  rw [Nat.one_shiftLeft,Nat.testBit_two_pow]
 rw [this,c1t,if_pos h]
def sumX (xs:List Nat):Nat:=xs.foldl (fun a x=>a ^^^ x) 0
theorem h1x (ws:List Nat) (ix:List Nat) (h:∀ i ∈ ix,i < ws.length):sumX (ix.map fun i=>ws.getD i 0) = xw ws (j0b ix):=by
 have gen:∀ (n:Nat) (ix:List Nat),ix.length = n→(∀ i ∈ ix,i < ws.length)→sumX (ix.map fun i=>ws.getD i 0) = xw ws (j0b ix):=by
  intro n
  induction n with
  | zero=>intro ix e _; rw [List.length_eq_zero_iff.mp e]; exact (v0z ws).symm
  | succ n ih =>
   intro ix e h
   obtain ⟨ys,y,rfl⟩:=o0u ix (by intro z; rw [z] at e; cases e)
   rw [List.length_append] at e
   rw [u0y,w0a,c1r ws (h y (by simp)),← ih ys (by simpa using e) fun i hi=>h i (by simp [hi])]
   unfold sumX
   rw [List.map_append,List.foldl_append]; rfl
 exact gen _ ix rfl h
abbrev Ld:=Nat × Nat × Nat
def ldD (e:Ld):D:=.tup [nD e.1,nD e.2.1,nD e.2.2]
def dl (ls:List Ld):List (Key × D):=ls.map fun e=>(.inl ((bitsN e.2.1:Nat):Int),ldD e)
def lk (ls:List Ld) (L:Nat):Option Ld:=ls.find? fun e=>decide (bitsN e.2.1 = L)
def rst (ls:List Ld):List Nat:=ls.map fun e=>e.2.1
theorem d1v (L:Nat):∀ ls:List Ld,valD (dl ls) (.inl ((L:Nat):Int)) = (lk ls L).map ldD
 | []=>rfl
 | e :: ls=>by
  have ih:=d1v L ls
  unfold valD lk dl at *
  rw [List.map_cons,List.find?_cons,List.find?_cons]
  by_cases h:bitsN e.2.1 = L
  ·have h1:decide ((Sum.inl ((bitsN e.2.1:Nat):Int):Key) = .inl ((L:Nat):Int)) = true:=decide_eq_true (by rw [h])
   have h2:decide (bitsN e.2.1 = L) = true:=decide_eq_true h
   rw [h2]; simp only [h1]; rfl
  ·have h1:decide ((Sum.inl ((bitsN e.2.1:Nat):Int):Key) = .inl ((L:Nat):Int)) = false:=decide_eq_false fun q=>by
    injection q with q
    exact h (by omega)
   have h2:decide (bitsN e.2.1 = L) = false:=decide_eq_false h
   rw [h2]; simp only [h1]; exact ih
theorem r0y {ls:List Ld} {L:Nat}:lk ls L = none↔∀ e ∈ ls,bitsN e.2.1 ≠ L:=by
 unfold lk
 rw [List.find?_eq_none]
 constructor
 ·intro h e he q; exact h e he (decide_eq_true q)
 ·intro h e he q; exact h e he (of_decide_eq_true q)
theorem f1p {ls:List Ld} {L:Nat} {e:Ld} (h:lk ls L = some e):e ∈ ls∧bitsN e.2.1 = L:=by
 unfold lk at h
 exact ⟨List.mem_of_find?_eq_some h,by have:=List.find?_some h; exact of_decide_eq_true this⟩
theorem j1r {ls:List Ld} {e:Ld} (h:lk ls (bitsN e.2.1) = none):putD (dl ls) (.inl ((bitsN e.2.1:Nat):Int)) (ldD e) = dl (ls ++ [e]):=by
 unfold putD
 rw [if_neg]
 ·unfold dl; rw [List.map_append]; rfl
 ·intro q
  rw [List.any_eq_true] at q
  obtain ⟨p,hp,hq⟩:=q
  unfold dl at hp
  obtain ⟨e',he',rfl⟩:=List.mem_map.mp hp
  have hk:=of_decide_eq_true hq
  injection hk with hk
  exact r0y.mp h e' he' (by omega)
theorem j1s (ls:List Ld):(dl ls).length = ls.length:=by unfold dl; rw [List.length_map]
theorem h1g {rows:List Nat} {k m:Nat} (hk:k ≤ rows.length) (hm:m < 2 ^ k):Spn (rows.take k) (xw rows m):=by
 have hg:∀ i ∈ l0k m,i < k:=fun i hi=>by
  rw [← q0c hm] at hi
  exact List.mem_range.mp (List.mem_filter.mp hi).1
 have e:=h1x rows (l0k m) fun i hi=>by have:=hg i hi; omega
 rw [p0a] at e
 rw [← e]
 have gen:∀ (ix:List Nat) (a:Nat),(∀ i ∈ ix,i < k)→Spn (rows.take k) a→Spn (rows.take k) ((ix.map fun i=>rows.getD i 0).foldl (fun a x=>a ^^^ x) a):=by
  intro ix
  induction ix with
  | nil=>intro a _ h; exact h
  | cons i ix ih =>
   intro a h1 h2
   rw [List.map_cons,List.foldl_cons]
   refine ih _ (fun j hj=>h1 j (.tail _ hj)) (h2.xor (.mem ?_))
   have lt:=h1 i (.head _)
   rw [List.getD_eq_getElem?_getD,List.getElem?_eq_getElem (by omega)]
   show rows[i] ∈ _
   rw [List.mem_take_iff_getElem]
   exact ⟨i,by omega,rfl⟩
 exact gen _ _ hg .zero
structure LOk (rows:List Nat) (k:Nat) (ls:List Ld):Prop where
 kl:k ≤ rows.length
 ll:ls.length ≤ k
 nd:((rst ls).map bitsN).Nodup
 ne:∀ e ∈ ls,e.2.1 ≠ 0
 eq:∀ e ∈ ls,e.2.1 = xw rows e.2.2
 lt:∀ e ∈ ls,e.2.2 < 2 ^ k
 bt:∀ e ∈ ls,∀ i,e.2.2.testBit i = true→∃ e' ∈ ls,e'.1 = i
 sp:∀ i,i < k→Spn (rst ls) (rows.getD i 0)
 pl:∀ i,(∃ e ∈ ls,e.1 = i)↔(i < k∧¬ Spn (rows.take i) (rows.getD i 0))
 up:(ls.map fun e=>e.1).Pairwise (· < ·)
theorem LOk.rs {rows:List Nat} {k:Nat} {ls:List Ld} (h:LOk rows k ls) {a:Nat} (ha:Spn (rst ls) a):Spn (rows.take k) a:=ha.mono fun g hg=>by
 obtain ⟨e,he,rfl⟩:=List.mem_map.mp hg
 rw [h.eq e he]
 exact h1g h.kl (h.lt e he)
theorem LOk.sr {rows:List Nat} {k:Nat} {ls:List Ld} (h:LOk rows k ls) {a:Nat} (ha:Spn (rows.take k) a):Spn (rst ls) a:=ha.mono fun g hg=>by
 obtain ⟨i,hi,rfl⟩:=List.mem_take_iff_getElem.mp hg
 have:=h.sp i (by omega)
 rwa [List.getD_eq_getElem?_getD,List.getElem?_eq_getElem (by omega)] at this
structure Red (rows:List Nat) (k:Nat) (ls:List Ld) (row r p:Nat):Prop where
 eq:r = row ^^^ xw rows p
 lt:p < 2 ^ k
 bt:∀ i,p.testBit i = true→∃ e ∈ ls,e.1 = i
 no:lk ls (bitsN r) = none
 sp:Spn (rst ls) (row ^^^ r)
theorem t0d {rows:List Nat} {k:Nat} {ls:List Ld} {row r p:Nat} (h:LOk rows k ls) (R:Red rows k ls row r p):r = 0↔Spn (rows.take k) row:=by
 constructor
 ·intro e
  have:=R.sp
  rw [e,Nat.xor_zero] at this
  exact h.rs this
 ·intro hs
  have h1:=(h.sr hs).xor R.sp
  rw [← Nat.xor_assoc,Nat.xor_self,Nat.zero_xor] at h1
  by_cases e:r = 0
  ·exact e
  ·obtain ⟨g,hg,eb⟩:=s0d h.nd h1 e
   obtain ⟨e',he',rfl⟩:=List.mem_map.mp hg
   exact (r0y.mp R.no e' he' eb).elim
theorem f1n (rows:List Nat):LOk rows 0 [] where
 kl:=Nat.zero_le _
 ll:=Nat.le_refl _
 nd:=.nil
 ne:=fun _ h=>(nomatch h)
 eq:=fun _ h=>(nomatch h)
 lt:=fun _ h=>(nomatch h)
 bt:=fun _ h=>(nomatch h)
 sp:=fun _ h=>absurd h (Nat.not_lt_zero _)
 pl:=fun i=>by
  constructor
  ·rintro ⟨_,h,_⟩; cases h
  ·rintro ⟨h,_⟩; exact absurd h (Nat.not_lt_zero _)
 up:=.nil
theorem b1r {rows:List Nat} {k:Nat} {ls:List Ld} {p:Nat} (h:LOk rows k ls) (hk:k < rows.length) (R:Red rows k ls (rows.getD k 0) 0 p):LOk rows (k + 1) ls where
 kl:=hk
 ll:=Nat.le_succ_of_le h.ll
 nd:=h.nd
 ne:=h.ne
 eq:=h.eq
 lt:=fun e he=>Nat.lt_of_lt_of_le (h.lt e he) (Nat.pow_le_pow_right (by decide) (Nat.le_succ _))
 bt:=h.bt
 sp:=fun i hi=>by
  by_cases e:i = k
  ·subst e
   have:=R.sp
   rwa [Nat.xor_zero] at this
  ·exact h.sp i (by omega)
 pl:=fun i=>by
  rw [h.pl i]
  constructor
  ·rintro ⟨a,b⟩; exact ⟨by omega,b⟩
  ·rintro ⟨a,b⟩
   refine ⟨?_,b⟩
   by_cases e:i = k
   ·subst e; exact (b ((t0d h R).mp rfl)).elim
   ·omega
 up:=h.up
theorem f1o {rows:List Nat} {k:Nat} {ls:List Ld} {r p:Nat} (h:LOk rows k ls) (hk:k < rows.length) (R:Red rows k ls (rows.getD k 0) r p) (hr:r ≠ 0):LOk rows (k + 1) (ls ++ [(k,r,p ^^^ (1 <<< k))]) where
 kl:=hk
 ll:=by rw [List.length_append]; exact Nat.succ_le_succ h.ll
 nd:=by
  unfold rst
  rw [List.map_append,List.map_append]
  refine List.nodup_append.mpr ⟨h.nd,by simp,fun a ha b hb=>?_⟩
  obtain ⟨g,hg,rfl⟩:=List.mem_map.mp ha
  obtain ⟨e,he,rfl⟩:=List.mem_map.mp hg
  have:b = bitsN r:=by simpa using hb
  rw [this]
  exact r0y.mp R.no e he
 ne:=fun e he=>by
  rcases List.mem_append.mp he with q | q
  ·exact h.ne e q
  ·rw [List.mem_singleton.mp q]; exact hr
 eq:=fun e he=>by
  rcases List.mem_append.mp he with q | q
  ·exact h.eq e q
  ·rw [List.mem_singleton.mp q]
   show r = xw rows (p ^^^ (1 <<< k))
   rw [R.eq,w0a,c1r rows hk,Nat.xor_comm]
 lt:=fun e he=>by
  rcases List.mem_append.mp he with q | q
  ·exact Nat.lt_of_lt_of_le (h.lt e q) (Nat.pow_le_pow_right (by decide) (Nat.le_succ _))
  ·rw [List.mem_singleton.mp q]
   show p ^^^ (1 <<< k) < 2 ^ (k + 1)
   refine Nat.xor_lt_two_pow (Nat.lt_of_lt_of_le R.lt (Nat.pow_le_pow_right (by decide) (Nat.le_succ _))) ?_
   rw [Nat.shiftLeft_eq,Nat.one_mul]; exact (Nat.pow_lt_pow_iff_right (by decide)).mpr (Nat.lt_succ_self _)
 bt:=fun e he i hi=>by
  rcases List.mem_append.mp he with q | q
  ·obtain ⟨e',m,z⟩:=h.bt e q i hi
   exact ⟨e',List.mem_append.mpr (.inl m),z⟩
  ·rw [List.mem_singleton.mp q] at hi
   have hi':(p ^^^ (1 <<< k)).testBit i = true:=hi
   rw [Nat.testBit_xor,Nat.one_shiftLeft,Nat.testBit_two_pow] at hi'
   by_cases e:k = i
   ·exact ⟨(k,r,p ^^^ (1 <<< k)),List.mem_append.mpr (.inr (.head _)),e⟩
   ·rw [decide_eq_false e,Bool.xor_false] at hi'
    obtain ⟨e',m,z⟩:=R.bt i hi'
    exact ⟨e',List.mem_append.mpr (.inl m),z⟩
 sp:=fun i hi=>by
  have up:∀ {a:Nat},Spn (rst ls) a→Spn (rst (ls ++ [(k,r,p ^^^ (1 <<< k))])) a:=fun ha=>ha.sub fun g hg=>by unfold rst at hg ⊢; rw [List.map_append]; exact List.mem_append.mpr (.inl hg)
  by_cases e:i = k
  ·subst e
   have h1:=(up R.sp).xor (.mem (show r ∈ rst (ls ++ [(i,r,p ^^^ (1 <<< i))]) by unfold rst; rw [List.map_append]; exact List.mem_append.mpr (.inr (.head _))))
   rwa [h0k] at h1
  ·exact up (h.sp i (by omega))
 pl:=fun i=>by
  constructor
  ·rintro ⟨e,he,rfl⟩
   rcases List.mem_append.mp he with q | q
   ·obtain ⟨a,b⟩:=(h.pl e.1).mp ⟨e,q,rfl⟩
    exact ⟨by omega,b⟩
   ·rw [List.mem_singleton.mp q]
    exact ⟨Nat.lt_succ_self _,fun z=>hr ((t0d h R).mpr z)⟩
  ·rintro ⟨a,b⟩
   by_cases e:i = k
   ·exact ⟨(k,r,p ^^^ (1 <<< k)),List.mem_append.mpr (.inr (.head _)),e.symm⟩
   ·obtain ⟨e',m,z⟩:=(h.pl i).mpr ⟨by omega,b⟩
    exact ⟨e',List.mem_append.mpr (.inl m),z⟩
 up:=by
  rw [List.map_append]
  refine List.pairwise_append.mpr ⟨h.up,by simp,fun a ha b hb=>?_⟩
  obtain ⟨e,he,rfl⟩:=List.mem_map.mp ha
  have:b = k:=by simpa using hb
  rw [this]
  exact ((h.pl e.1).mp ⟨e,he,rfl⟩).1
def plc (ls:List Ld):List Nat:=ls.map fun e=>e.1
def SRed:ASp:=fun ss q=>∃ (rows:List Nat) (k:Nat) (ls:List Ld) (row:Nat),ss = [.dk (dl ls),nv row]∧LOk rows k ls∧∀ r p,Red rows k ls row r p→q (.d (.tup [nD r,nD p])) [.dk (dl ls),nv row]
theorem e1g {i j:Nat} {d1 d2:D} {ρ:En} {k:En→Prop} (h:k (pt (pt ρ i (.vl d1)) j (.vl d2))):g1b 2 (z0g (t0y i) (z0g (t0y j) gaNil)) (.tup [d1,d2]) ρ k:=h
structure Dst (ks:List Nat):Prop where
 nd:(ks.map bitsN).Nodup
 ne:∀ k ∈ ks,k ≠ 0
theorem Dst.perm {ks ls:List Nat} (p:ks.Perm ls) (h:Dst ks):Dst ls:=⟨(p.map bitsN).nodup_iff.mp h.nd,fun k hk=>h.ne k (p.mem_iff.mpr hk)⟩
theorem Dst.tail {k:Nat} {ks:List Nat} (h:Dst (k :: ks)):Dst ks:=⟨(List.nodup_cons.mp h.nd).2,fun x hx=>h.ne x (.tail _ hx)⟩
open Classical in
theorem l0f {P:Nat→Prop}:∀ {ks:List Nat},(∃ k ∈ ks,P k)→∃ k0 rest,ks.Perm (k0 :: rest)∧P k0∧∀ k ∈ rest,P k→bitsN k0 ≤ bitsN k
 | [],h=>by obtain ⟨_,h,_⟩:=h; cases h
 | k :: ks,h=>by
  by_cases hr:∃ x ∈ ks,P x
  ·obtain ⟨k0,rest,p,h0,hl⟩:=l0f hr
   by_cases hk:P k∧bitsN k < bitsN k0
   ·refine ⟨k,ks,.refl _,hk.1,fun x hx px=>?_⟩
    rcases List.mem_cons.mp (p.mem_iff.mp hx) with rfl | z
    ·exact Nat.le_of_lt hk.2
    ·exact Nat.le_trans (Nat.le_of_lt hk.2) (hl x z px)
   ·refine ⟨k0,k :: rest,(p.cons k).trans (.swap ..),h0,fun x hx px=>?_⟩
    rcases List.mem_cons.mp hx with rfl | z
    ·exact Nat.le_of_not_lt fun q=>hk ⟨px,q⟩
    ·exact hl x z px
  ·obtain ⟨x,hx,px⟩:=h
   rcases List.mem_cons.mp hx with rfl | z
   ·exact ⟨x,ks,.refl _,px,fun y hy py=>(hr ⟨y,hy,py⟩).elim⟩
   ·exact (hr ⟨x,z,px⟩).elim
open Classical in
theorem e1q:∀ {gs ks:List Nat},Dst ks→(∀ k ∈ ks,Spn gs k)→ks.length ≤ gs.length
 | [],ks,d,h=>by
  cases ks with
  | nil=>exact Nat.le_refl _
  | cons k r =>
   exfalso
   have hk:=h k (.head _)
   have:k = 0:=by
    cases hk with
    | zero=>rfl
    | step hg _=>cases hg
   exact d.ne k (.head _) this
 | g :: gs,ks,d,h=>by
  by_cases all:∀ k ∈ ks,Spn gs k
  ·exact Nat.le_succ_of_le (e1q d all)
  ·have ex:∃ k ∈ ks,¬ Spn gs k:=by
    refine Classical.byContradiction fun no=>all fun k hk=>Classical.byContradiction fun z=>no ⟨k,hk,z⟩
   obtain ⟨k0,rest,p,h0,hl⟩:=l0f ex
   rw [p.length_eq]
   have d':=d.perm p
   have h':∀ k ∈ k0 :: rest,Spn (g :: gs) k:=fun k hk=>h k (p.mem_iff.mpr hk)
   have g0:Spn gs (k0 ^^^ g):=(h' k0 (.head _)).cons.resolve_left h0
   have bits:∀ k ∈ rest,bitsN (if Spn gs k then k else k ^^^ k0) = bitsN k:=fun k hk=>by
    split
    ·rfl
    ·rename_i ns
     have le:=hl k hk ns
     have ne:bitsN k0 ≠ bitsN k:=fun q=>(List.nodup_cons.mp d'.nd).1 (q ▸ List.mem_map.mpr ⟨k,hk,rfl⟩)
     rw [Nat.xor_comm]
     exact h0q (by omega)
   have key:=e1q (gs:=gs) (ks:=rest.map fun k=>if Spn gs k then k else k ^^^ k0) ⟨by
     rw [List.map_map]
     have:rest.map (bitsN ∘ fun k=>if Spn gs k then k else k ^^^ k0) = rest.map bitsN:=List.map_congr_left fun k hk=>bits k hk
     rw [this]
     exact d'.tail.nd,fun x hx=>by
     obtain ⟨k,hk,rfl⟩:=List.mem_map.mp hx
     intro z
     have b:=bits k hk
     rw [z] at b
     have:bitsN 0 = 0:=by decide
     exact d'.tail.ne k hk (q0o (by omega))⟩ fun x hx=>by
    obtain ⟨k,hk,rfl⟩:=List.mem_map.mp hx
    split
    ·assumption
    ·rename_i ns
     have gk:Spn gs (k ^^^ g):=(h' k (.tail _ hk)).cons.resolve_left ns
     have:=gk.xor g0
     rwa [s0s] at this
   rw [List.length_map] at key
   exact Nat.succ_le_succ key
def kvs (f:Nat→Int) (g:Nat→Nat) (c:Nat):List (Key × D):=(List.range c).map fun j=>(.inl (f j),nD (g j))
theorem w0e {f:Nat→Int} {g:Nat→Nat} {i:Nat}:∀ (l:List Nat),i ∈ l→(∀ j ∈ l,f j = f i→j = i)→valD (l.map fun j=>((.inl (f j):Key),nD (g j))) (.inl (f i)) = some (nD (g i))
 | [],h,_=>(nomatch h)
 | j :: l,h,hi=>by
  by_cases e:f j = f i
  ·have:=hi j (.head _) e
   subst this
   simp [valD]
  ·have h':i ∈ l:=by
    rcases List.mem_cons.mp h with q | q
    ·rw [q] at e; exact (e rfl).elim
    ·exact q
   have:=w0e (f:=f) (g:=g) l h' fun z hz=>hi z (.tail _ hz)
   unfold valD at this ⊢
   rw [List.map_cons,List.find?_cons]
   have ne:decide ((Sum.inl (f j):Key) = .inl (f i)) = false:=by
    apply decide_eq_false
    intro q; injection q with q; exact e q
   simp only [ne]
   exact this
theorem e1e {f:Nat→Int} {g:Nat→Nat} {c i:Nat} {z:Int} (h:i < c) (hz:z = f i) (hi:∀ j,j < c→f j = f i→j = i):valD (kvs f g c) (.inl z) = some (nD (g i)):=by
 subst hz
 exact w0e (List.range c) (List.mem_range.mpr h) fun j hj=>hi j (List.mem_range.mp hj)
theorem f1a {f:Nat→Int} {g:Nat→Nat} {c:Nat} {z:Int} (hz:z = f c) (hi:∀ j,j < c→f j ≠ f c):putD (kvs f g c) (.inl z) (nD (g c)) = kvs f g (c + 1):=by
 subst hz
 unfold putD
 rw [if_neg]
 ·unfold kvs; rw [List.range_succ,List.map_append]; rfl
 ·intro h
  rw [List.any_eq_true] at h
  obtain ⟨p,hp,hq⟩:=h
  obtain ⟨j,hj,rfl⟩:=List.mem_map.mp hp
  have hq':=of_decide_eq_true hq
  injection hq' with hq'
  exact hi j (List.mem_range.mp hj) hq'
theorem b1z (n:Nat) (xs:List Nat):inD (nD n) (a0g xs) = xs.contains n:=by
 unfold inD a0g
 rw [List.any_map]
 induction xs with
 | nil=>rfl
 | cons x xs ih =>
  rw [List.any_cons,List.contains_cons,ih]
  congr 1
  show eqD (nD x) (nD n) = (n == x)
  unfold eqD
  show decide ((x:Int) = (n:Int)) = (n == x)
  by_cases h:n = x
  ·subst h; simp
  ·have:¬ ((x:Int) = (n:Int)):=by omega
   simp [h,this]
theorem d1r {neg:Bool} {r2:R} {ρ:En} {q:Ko} {xs:List Nat} {n:Nat} (hv:view ρ r2 = some (.lst (a0g xs))) (hq:q (.d (.bl (if neg then !xs.contains n else xs.contains n))) ρ):gIn neg (.d (nD n)) r2 ρ q:=by
 unfold gIn
 have e1:view ρ (.d (nD n)) = some (nD n):=rfl
 rw [e1,hv]
 refine ⟨⟨rfl,List.all_eq_true.mpr fun d hd=>?_⟩,?_⟩
 ·obtain ⟨x,_,rfl⟩:=List.mem_map.mp hd; rfl
 ·rw [b1z]; exact hq
theorem q0p (k:Nat):bitsN (2 ^ k) = k + 1:=by
 unfold bitsN
 rw [if_neg (by have:=Nat.two_pow_pos k; omega),Nat.log2_two_pow]
theorem Spn.map {f:Nat→Nat} (h0:f 0 = 0) (hf:∀ a b,f (a ^^^ b) = f a ^^^ f b) {gs:List Nat} {a:Nat} (h:Spn gs a):Spn (gs.map f) (f a):=by
 induction h with
 | zero=>rw [h0]; exact .zero
 | step hg _ ih=>rw [hf]; exact .step (List.mem_map.mpr ⟨_,hg,rfl⟩) ih
theorem f1l (n a b:Nat):(a ^^^ b) % 2 ^ n = (a % 2 ^ n) ^^^ (b % 2 ^ n):=by
 apply Nat.eq_of_testBit_eq
 intro i
 rw [Nat.testBit_mod_two_pow,Nat.testBit_xor,Nat.testBit_xor,Nat.testBit_mod_two_pow,Nat.testBit_mod_two_pow]
 cases decide (i < n) <;> simp
def units (n:Nat):List Nat:=(List.range n).map fun k=>2 ^ k
theorem w0f (n:Nat):Dst (units n) where
 nd:=by
  unfold units
  rw [List.map_map]
  refine List.Pairwise.map _ (R:=(· < ·)) (S:=(· ≠ ·)) (fun a b h=>?_) List.pairwise_lt_range
  show bitsN (2 ^ a) ≠ bitsN (2 ^ b)
  rw [q0p,q0p]; omega
 ne:=fun k hk=>by
  obtain ⟨j,_,rfl⟩:=List.mem_map.mp hk
  have:=Nat.two_pow_pos j
  omega
theorem s0v {n:Nat} {gs:List Nat} (h:∀ k,k < n→Spn gs (2 ^ k)):n ≤ gs.length:=by
 have:=e1q (w0f n) (gs:=gs) fun k hk=>by
  obtain ⟨j,hj,rfl⟩:=List.mem_map.mp hk
  exact h j (List.mem_range.mp hj)
 unfold units at this
 rwa [List.length_map,List.length_range] at this
structure Full (m:Nat) (rows:List Nat):Prop where
 len:rows.length = m
 sp:∀ k,k < m→Spn rows (2 ^ k)
theorem q0g {m:Nat} {rows:List Nat} (h:Full m rows) {i:Nat} (hi:i < m):¬ Spn (rows.eraseIdx i) (rows.getD i 0):=fun z=>by
 have:=s0v (n:=m) (gs:=rows.eraseIdx i) fun k hk=>(h.sp k hk).mono fun g hg=>by
  obtain ⟨j,hj,rfl⟩:=List.getElem_of_mem hg
  by_cases e:j = i
  ·subst e
   have:rows.getD j 0 = rows[j]:=by rw [List.getD_eq_getElem?_getD,List.getElem?_eq_getElem hj]; rfl
   rw [← this]; exact z
  ·exact .mem (List.mem_eraseIdx_iff_getElem.mpr ⟨j,hj,e,rfl⟩)
 rw [List.length_eraseIdx,h.len,if_pos hi] at this
 omega
theorem d0c {m:Nat} {rows:List Nat} (h:Full m rows) {i:Nat} (hi:i < m):¬ Spn (rows.take i) (rows.getD i 0):=fun z=>q0g h hi (z.sub fun g hg=>by
 obtain ⟨j,hj,rfl⟩:=List.mem_take_iff_getElem.mp hg
 have hl:=h.len
 exact List.mem_eraseIdx_iff_getElem.mpr ⟨j,by omega,by omega,rfl⟩)
theorem c1g {m:Nat} {rows:List Nat} (h:Full m rows) {ls:List Ld} (L:LOk rows rows.length ls) {i:Nat} (hi:i < m):i ∈ plc ls:=by
 obtain ⟨e,he,rfl⟩:=(L.pl i).mpr ⟨by rw [h.len]; exact hi,d0c h hi⟩
 exact List.mem_map.mpr ⟨e,he,rfl⟩
theorem u0a (m:Nat):Full m (b0t m) where
 len:=r0g m
 sp:=fun k hk=>.mem (by unfold b0t; exact List.mem_map.mpr ⟨k,List.mem_range.mpr hk,by rw [Nat.shiftLeft_eq,Nat.one_mul]⟩)
theorem z0l {m:Nat} {rows rows':List Nat} (h:Full m rows) (hl:rows'.length = m) (hs:∀ g ∈ rows,Spn rows' g):Full m rows':=⟨hl,fun k hk=>(h.sp k hk).mono hs⟩
theorem g0n {xs:List Nat} {i:Nat} (h:i < xs.length):xs.getD i 0 = xs[i]:=by rw [List.getD_eq_getElem?_getD,List.getElem?_eq_getElem h]; rfl
theorem f0s {xs:List Nat} {i:Nat} (h:i < xs.length):xs.getD i 0 ∈ xs:=by rw [g0n h]; exact List.getElem_mem h
theorem q0f {m:Nat} {cells:List Nat} {p:Nat × Nat} (h:Full m cells) (hp:g0b m p):Full m (b0m cells p):=by
 obtain ⟨h1,h2,h3⟩:=hp
 have hl:=h.len
 refine z0l h (by rw [e0m]; exact hl) fun g hg=>?_
 obtain ⟨j,hj,rfl⟩:=List.getElem_of_mem hg
 have hl':(b0m cells p).length = m:=by rw [e0m]; exact hl
 have ne:∀ i,i ≠ p.2→(b0m cells p).getD i 0 = cells.getD i 0:=fun i hi=>by unfold b0m; rw [e0r (Ne.symm hi)]
 have sm:(b0m cells p).getD p.2 0 = cells.getD p.1 0 ^^^ cells.getD p.2 0:=by unfold b0m; rw [d0i (by omega)]
 rw [← g0n hj]
 by_cases e:j = p.2
 ·subst e
  have a:=Spn.mem (f0s (xs:=b0m cells p) (i:=p.2) (by omega))
  have b:=Spn.mem (f0s (xs:=b0m cells p) (i:=p.1) (by omega))
  rw [sm] at a
  rw [ne p.1 h3] at b
  have:=a.xor b
  rwa [Nat.xor_comm (cells.getD p.1 0),Nat.xor_assoc,Nat.xor_self,Nat.xor_zero] at this
 ·rw [← ne j e]
  exact .mem (f0s (by omega))
theorem i0v {m:Nat}:∀ {st:List (Nat × Nat)} {cells:List Nat},Full m cells→(∀ p ∈ st,g0b m p)→Full m (st.foldl b0m cells)
 | [],_,h,_=>h
 | p :: st,cells,h,hk=>i0v (st:=st) (q0f h (hk p (.head _))) fun q hq=>hk q (.tail _ hq)
theorem c1h {m:Nat} {xs ys:List Nat} (h:Full m xs) (hl:ys.length = m) (hm:∀ x ∈ xs,x ∈ ys):Full m ys:=z0l h hl fun g hg=>.mem (hm g hg)
structure GJ (m g:Nat) (rows held ps:List Nat) (und:List (Nat × Nat)):Prop where
 full:Full m held
 lt:∀ p,held.getD p 0 < 2 ^ m
 gm:g ≤ m
 pl:ps.length = g
 pm:∀ p ∈ ps,p < m
 nd:ps.Nodup
 col:∀ i,i < g→∀ p,p < m→(held.getD p 0).testBit i = decide (ps.getD i 0 = p)
 un:held = und.foldl b0m rows
 ok:∀ s ∈ und,g0b m s
 ul:und.length ≤ g * (m - 1)
section
variable {m g:Nat} {rows held ps:List Nat} {und:List (Nat × Nat)}
def hav (m g:Nat) (held:List Nat):List Nat:=(List.range m).filter fun p=>(held.getD p 0).testBit g
theorem l0b {p:Nat}:p ∈ hav m g held↔p < m∧(held.getD p 0).testBit g = true:=by unfold hav; rw [List.mem_filter,List.mem_range]
theorem GJ.col0 (G:GJ m g rows held ps und) {i p:Nat} (hi:i < g) (hp:p < m) (h:p ∉ ps):(held.getD p 0).testBit i = false:=by
 rw [G.col i hi p hp]
 exact decide_eq_false fun z=>h (by rw [← z]; exact f0s (by rw [G.pl]; exact hi))
theorem GJ.first (G:GJ m g rows held ps und) (hg:g < m):∃ p ∈ hav m g held,p ∉ ps:=by
 apply Classical.byContradiction
 intro no
 have al:∀ p ∈ hav m g held,p ∈ ps:=fun p hp=>Classical.byContradiction fun z=>no ⟨p,hp,z⟩
 have:=s0v (n:=g + 1) (gs:=ps.map fun p=>held.getD p 0 % 2 ^ (g + 1)) fun k hk=>by
  have h1:=(G.full.sp k (by omega)).map (f:=fun a=>a % 2 ^ (g + 1)) (Nat.zero_mod _) (f1l (g + 1))
  have e:2 ^ k % 2 ^ (g + 1) = 2 ^ k:=Nat.mod_eq_of_lt (Nat.pow_lt_pow_right (by decide) hk)
  simp only [e] at h1
  refine h1.mono fun x hx=>?_
  obtain ⟨y,hy,rfl⟩:=List.mem_map.mp hx
  obtain ⟨p,hp,rfl⟩:=List.getElem_of_mem hy
  rw [← g0n hp]
  have hpm:p < m:=by have:=G.full.len; omega
  by_cases q:p ∈ ps
  ·exact .mem (List.mem_map.mpr ⟨p,q,rfl⟩)
  ·have:held.getD p 0 % 2 ^ (g + 1) = 0:=by
    apply Nat.eq_of_testBit_eq
    intro i
    rw [Nat.testBit_mod_two_pow,Nat.zero_testBit]
    by_cases hi:i < g + 1
    ·rw [decide_eq_true hi,Bool.true_and]
     by_cases e:i = g
     ·subst e
      exact Bool.eq_false_iff.mpr fun z=>q (al p (l0b.mpr ⟨hpm,z⟩))
     ·exact G.col0 (by omega) hpm q
    ·rw [decide_eq_false hi,Bool.false_and]
   rw [this]; exact .zero
 rw [List.length_map,G.pl] at this
 omega
theorem o0s {f:Nat}:∀ (qs:List Nat) (held:List Nat),f ∉ qs→qs.Nodup→(∀ q ∈ qs,q < held.length)→∀ p,((qs.map fun q=>(f,q)).foldl b0m held).getD p 0 = if p ∈ qs then held.getD f 0 ^^^ held.getD p 0 else held.getD p 0
 | [],held,_,_,_,p=>by simp
 | q :: qs,held,h1,h2,h3,p=>by
  obtain ⟨n1,n2⟩:=List.nodup_cons.mp h2
  have hf:f ≠ q:=fun z=>h1 (z ▸ .head _)
  rw [List.map_cons,List.foldl_cons,o0s qs (b0m held (f,q)) (fun z=>h1 (.tail _ z)) n2 (fun x hx=>by rw [e0m]; exact h3 x (.tail _ hx))]
  have ne:∀ i,i ≠ q→(b0m held (f,q)).getD i 0 = held.getD i 0:=fun i hi=>by unfold b0m; rw [e0r (Ne.symm hi)]
  have sm:(b0m held (f,q)).getD q 0 = held.getD f 0 ^^^ held.getD q 0:=by unfold b0m; rw [d0i (h3 q (.head _))]
  rw [ne f hf]
  by_cases e:p = q
  ·subst e
   rw [if_neg n1,if_pos (.head _),sm]
  ·rw [ne p e]
   by_cases e2:p ∈ qs
   ·rw [if_pos e2,if_pos (.tail _ e2)]
   ·rw [if_neg e2,if_neg fun z=>by rcases List.mem_cons.mp z with z | z; exact e z; exact e2 z]
def oth (m g f:Nat) (held:List Nat):List Nat:=(hav m g held).filter fun p=>decide (p ≠ f)
theorem j1l:(hav m g held).Nodup:=(List.nodup_range).filter _
theorem i1n {f:Nat}:(oth m g f held).Nodup:=j1l.filter _
theorem l0a {f p:Nat}:p ∈ oth m g f held↔(p < m∧(held.getD p 0).testBit g = true)∧p ≠ f:=by unfold oth; rw [List.mem_filter,l0b,decide_eq_true_eq]
theorem f1j {f:Nat} (hf:f ∈ hav m g held):(oth m g f held).length ≤ m - 1:=by
 have h1:(oth m g f held).length < (hav m g held).length:=by
  unfold oth
  exact List.length_filter_lt_length_iff_exists.mpr ⟨f,hf,by simp⟩
 have h2:(hav m g held).length ≤ m:=by
  unfold hav
  have:=List.length_filter_le (fun p=>(held.getD p 0).testBit g) (List.range m)
  rwa [List.length_range] at this
 omega
theorem GJ.next (G:GJ m g rows held ps und) (hg:g < m) {f:Nat} (hf:f ∈ hav m g held) (hn:f ∉ ps) :
  GJ m (g + 1) rows (((oth m g f held).map fun q=>(f,q)).foldl b0m held) (ps ++ [f]) (und ++ (oth m g f held).map fun q=>(f,q)):=by
 obtain ⟨hfm,hfb⟩:=l0b.mp hf
 have ok:∀ s ∈ (oth m g f held).map (fun q=>(f,q)),g0b m s:=fun s hs=>by
  obtain ⟨q,hq,rfl⟩:=List.mem_map.mp hs
  obtain ⟨⟨a,_⟩,b⟩:=l0a.mp hq
  exact ⟨hfm,a,Ne.symm b⟩
 have hl:=G.full.len
 have get:=o0s (f:=f) (oth m g f held) held (fun z=>(l0a.mp z).2 rfl) i1n fun q hq=>by rw [hl]; exact (l0a.mp hq).1.1
 refine ⟨i0v G.full ok,fun p=>?_,hg,by rw [List.length_append,G.pl]; rfl,fun p hp=>?_,?_,fun i hi p hp=>?_,by rw [List.foldl_append,← G.un],fun s hs=>?_,?_⟩
 ·rw [get]; split
  ·exact Nat.xor_lt_two_pow (G.lt f) (G.lt p)
  ·exact G.lt p
 ·rcases List.mem_append.mp hp with hp | hp
  ·exact G.pm p hp
  ·rw [List.mem_singleton.mp hp]; exact hfm
 ·rw [List.nodup_append]
  exact ⟨G.nd,by simp,fun a ha b hb=>by rw [List.mem_singleton.mp hb]; exact fun z=>hn (z ▸ ha)⟩
 ·rw [get]
  have gl:=G.pl
  by_cases e:i = g
  ·subst e
   have e1:(ps ++ [f]).getD i 0 = f:=by rw [List.getD_eq_getElem?_getD,List.getElem?_append_right (by omega),gl]; simp
   rw [e1]
   by_cases q:p ∈ oth m i f held
   ·obtain ⟨⟨_,b⟩,c⟩:=l0a.mp q
    rw [if_pos q,Nat.testBit_xor,hfb,b,decide_eq_false (Ne.symm c)]; rfl
   ·rw [if_neg q]
    by_cases c:p = f
    ·subst c; rw [hfb,decide_eq_true rfl]
    ·rw [decide_eq_false (Ne.symm c)]
     exact Bool.eq_false_iff.mpr fun z=>q (l0a.mpr ⟨⟨hp,z⟩,c⟩)
  ·have e1:(ps ++ [f]).getD i 0 = ps.getD i 0:=by rw [List.getD_eq_getElem?_getD,List.getElem?_append_left (by omega),← List.getD_eq_getElem?_getD]
   rw [e1]
   have c0:=G.col0 (i:=i) (by omega) hfm hn
   split
   ·rw [Nat.testBit_xor,c0,Bool.false_xor]; exact G.col i (by omega) p hp
   ·exact G.col i (by omega) p hp
 ·rcases List.mem_append.mp hs with hs | hs
  ·exact G.ok s hs
  ·exact ok s hs
 ·have h1:=G.ul
  have h2:=f1j hf
  rw [List.length_append,List.length_map,Nat.succ_mul]; omega
def chn (ps:List Nat) (p:Nat):Nat:=ps.idxOf p
theorem GJ.all (G:GJ m m rows held ps und) {p:Nat} (hp:p < m):p ∈ ps:=by
 apply Classical.byContradiction
 intro z
 have h0:held.getD p 0 = 0:=by
  apply Nat.eq_of_testBit_eq
  intro i
  rw [Nat.zero_testBit]
  by_cases hi:i < m
  ·exact G.col0 hi hp z
  ·exact Nat.testBit_lt_two_pow (Nat.lt_of_lt_of_le (G.lt p) (Nat.pow_le_pow_right (by decide) (by omega)))
 exact q0g G.full hp (by rw [h0]; exact .zero)
theorem GJ.chn_lt (G:GJ m m rows held ps und) {p:Nat} (hp:p < m):chn ps p < m:=by
 have:=List.idxOf_lt_length_iff.mpr (G.all hp)
 rw [G.pl] at this; exact this
theorem GJ.at_chn (G:GJ m m rows held ps und) {p:Nat} (hp:p < m):ps.getD (chn ps p) 0 = p:=by
 have:=List.idxOf_lt_length_iff.mpr (G.all hp)
 unfold chn
 rw [g0n this]
 exact List.getElem_idxOf this
theorem GJ.chn_inj (G:GJ m m rows held ps und) {p q:Nat} (hp:p < m) (hq:q < m) (h:chn ps p = chn ps q):p = q:=by rw [← G.at_chn hp,← G.at_chn hq,h]
theorem GJ.last (G:GJ m m rows held ps und) {p:Nat} (hp:p < m):held.getD p 0 = 2 ^ chn ps p:=by
 apply Nat.eq_of_testBit_eq
 intro i
 rw [Nat.testBit_two_pow]
 by_cases hi:i < m
 ·rw [G.col i hi p hp]
  rw [decide_eq_decide]
  constructor
  ·intro e
   have hi':i < ps.length:=by rw [G.pl]; exact hi
   rw [g0n hi'] at e
   unfold chn
   rw [← e,List.Nodup.idxOf_getElem G.nd]
  ·intro e
   rw [← e]; exact G.at_chn hp
 ·rw [Nat.testBit_lt_two_pow (Nat.lt_of_lt_of_le (G.lt p) (Nat.pow_le_pow_right (by decide) (by omega)))]
  have:=G.chn_lt hp
  exact (decide_eq_false (by omega)).symm
theorem relabel (G:GJ m m rows held ps und):∀ (st:List (Nat × Nat)) (X Y:List Nat),X.length = m→Y.length = m→(∀ s ∈ st,g0b m s)→(∀ p,p < m→Y.getD (chn ps p) 0 = X.getD p 0) →
  ∀ p,p < m→((st.map fun s=>(chn ps s.1,chn ps s.2)).foldl b0m Y).getD (chn ps p) 0 = (st.foldl b0m X).getD p 0
 | [],X,Y,_,_,_,h,p,hp=>h p hp
 | s :: st,X,Y,hX,hY,ho,h,p,hp=>by
  rw [List.map_cons,List.foldl_cons,List.foldl_cons]
  obtain ⟨o1,o2,o3⟩:=ho s (.head _)
  refine relabel G st (b0m X s) (b0m Y (chn ps s.1,chn ps s.2)) (by rw [e0m]; exact hX) (by rw [e0m]; exact hY) (fun q hq=>ho q (.tail _ hq)) (fun q hq=>?_) p hp
  unfold b0m
  simp only
  by_cases e:q = s.2
  ·subst e
   rw [d0i (by rw [hY]; exact G.chn_lt hq),d0i (by rw [hX]; exact hq),h s.1 o1,h s.2 o2]
  ·rw [e0r fun z=>e (G.chn_inj hq o2 z.symm),e0r (Ne.symm e)]
   exact h q hq
def stp (ps:List Nat) (und:List (Nat × Nat)):List (Nat × Nat):=und.reverse.map fun s=>(chn ps s.1,chn ps s.2)
theorem GJ.back (G:GJ m m rows held ps und) (hr:rows.length = m) {p:Nat} (hp:p < m):(l0w m (stp ps und)).getD (chn ps p) 0 = rows.getD p 0:=by
 unfold l0w stp
 rw [relabel G und.reverse held (b0t m) G.full.len (r0g m) (fun s hs=>G.ok s (List.mem_reverse.mp hs)) (fun q hq=>?_) p hp]
 ·have:=m0i (m:=m) (steps:=und) (cells:=rows) hr G.ok
  rw [List.foldl_append,← G.un] at this
  rw [this]
 ·rw [G.last hq]
  have:=G.chn_lt hq
  unfold b0t
  rw [List.getD_eq_getElem?_getD,List.getElem?_map,List.getElem?_range this]
  show 1 <<< _ = _
  rw [Nat.shiftLeft_eq,Nat.one_mul]
theorem gj0 (h:Full m rows) (hl:∀ p,rows.getD p 0 < 2 ^ m):GJ m 0 rows rows [] []:=⟨h,hl,Nat.zero_le _,rfl,(fun p hp=>nomatch hp),.nil,(fun i hi=>by omega),rfl,(fun s hs=>nomatch hs),Nat.zero_le _⟩
end
def chD (ps:List Nat):List (Key × D):=kvs (fun j=>((ps.getD j 0:Nat):Int)) (fun j=>j) ps.length
theorem c1c {ps:List Nat} (nd:ps.Nodup) {i j:Nat} (hi:i < ps.length) (hj:j < ps.length) (h:ps.getD i 0 = ps.getD j 0):i = j:=by
 rw [g0n hi,g0n hj] at h
 exact (List.getElem?_inj hi nd).mp (by rw [List.getElem?_eq_getElem hi,List.getElem?_eq_getElem hj,h])
theorem u0g {ps:List Nat} (nd:ps.Nodup) {p:Nat} (hp:p ∈ ps):valD (chD ps) (.inl (p:Int)) = some (nD (chn ps p)):=by
 have hi:=List.idxOf_lt_length_iff.mpr hp
 have e:ps.getD (chn ps p) 0 = p:=by unfold chn; rw [g0n hi]; exact List.getElem_idxOf hi
 exact e1e (i:=chn ps p) hi (by rw [e]) fun j hj h=>c1c nd hj hi (by omega)
theorem g1m {ps:List Nat} {p:Nat} (hp:p ∉ ps):valD (chD ps) (.inl (p:Int)) = none:=by
 unfold valD chD kvs
 rw [Option.map_eq_none_iff,List.find?_eq_none]
 intro x hx
 obtain ⟨j,hj,rfl⟩:=List.mem_map.mp hx
 intro z
 have z':=of_decide_eq_true z
 injection z' with z'
 have hj':=List.mem_range.mp hj
 have z2:((ps.getD j 0:Nat):Int) = (p:Int):=z'
 have:ps.getD j 0 = p:=by omega
 exact hp (this ▸ f0s hj')
theorem j1t {ps:List Nat} {p:Nat} (hp:p ∉ ps):putD (chD ps) (.inl (p:Int)) (nD ps.length) = chD (ps ++ [p]):=by
 have e1:∀ j,j < ps.length→(ps ++ [p]).getD j 0 = ps.getD j 0:=fun j hj=>by rw [List.getD_eq_getElem?_getD,List.getElem?_append_left hj,← List.getD_eq_getElem?_getD]
 have e2:(ps ++ [p]).getD ps.length 0 = p:=by rw [List.getD_eq_getElem?_getD,List.getElem?_append_right (Nat.le_refl _)]; simp
 have e3:chD ps = kvs (fun j=>(((ps ++ [p]).getD j 0:Nat):Int)) (fun j=>j) ps.length:=by
  unfold chD kvs
  refine List.map_congr_left fun j hj=>?_
  show ((.inl ((ps.getD j 0:Nat):Int):Key),nD j) = (.inl (((ps ++ [p]).getD j 0:Nat):Int),nD j)
  rw [e1 j (List.mem_range.mp hj)]
 rw [e3,f1a (by rw [e2]) fun j hj h=>?_]
 ·unfold chD; rw [List.length_append]; rfl
 ·have h2:(((ps ++ [p]).getD j 0:Nat):Int) = (((ps ++ [p]).getD ps.length 0:Nat):Int):=h
  rw [e1 j hj,e2] at h2
  have:ps.getD j 0 = p:=by omega
  exact hp (this ▸ f0s hj)
theorem j1u (ps:List Nat):(chD ps).length = ps.length:=by unfold chD kvs; rw [List.length_map,List.length_range]
theorem u0c (P:Nat→Bool) (xs:List Nat) (x:Nat):a0g ((xs ++ [x]).filter P) = if P x = true then a0g (xs.filter P) ++ [nD x] else a0g (xs.filter P):=by
 rw [List.filter_append]
 by_cases h:P x = true
 ·rw [if_pos h,← i0t]; simp [h]
 ·rw [if_neg h]; simp [h]
theorem h0j (a b:Nat):eqD (nD a) (nD b) = decide (a = b):=by
 unfold eqD
 show decide ((a:Int) = (b:Int)) = _
 rw [decide_eq_decide]; omega
def stJ (f:Nat) (xs:List Nat):List (Nat × Nat):=(xs.filter fun p=>decide (p ≠ f)).map fun q=>(f,q)
theorem a1z (f:Nat) (xs:List Nat) (x:Nat):stJ f (xs ++ [x]) = if x = f then stJ f xs else stJ f xs ++ [(f,x)]:=by
 unfold stJ
 rw [List.filter_append]
 by_cases h:x = f
 ·rw [if_pos h]; simp [h]
 ·rw [if_neg h,List.map_append]; simp [h]
theorem e1r (f:Nat) (xs:List Nat):(stJ f xs).length ≤ xs.length:=by unfold stJ; rw [List.length_map]; exact List.length_filter_le _ _
def T1:List (List Nat × List (Nat × Nat)):=[([1],[])]
def C1:List Nat:=[1]
def T2:List (List Nat × List (Nat × Nat)):=[([1,2],[]),
 ([1,3],[(0,1)]),
 ([3,2],[(1,0)]),
 ([2,3],[(0,1),(1,0)]),
 ([3,1],[(1,0),(0,1)]),
 ([2,1],[(0,1),(1,0),(0,1)])]
def C2:List Nat:=[1,3,5,6]
def T3:List (List Nat × List (Nat × Nat)):=[([1,2,4],[]),
 ([1,3,4],[(0,1)]),
 ([1,2,5],[(0,2)]),
 ([3,2,4],[(1,0)]),
 ([1,2,6],[(1,2)]),
 ([5,2,4],[(2,0)]),
 ([1,6,4],[(2,1)]),
 ([1,3,5],[(0,1),(0,2)]),
 ([2,3,4],[(0,1),(1,0)]),
 ([1,3,7],[(0,1),(1,2)]),
 ([5,3,4],[(0,1),(2,0)]),
 ([1,7,4],[(0,1),(2,1)]),
 ([3,2,5],[(0,2),(1,0)]),
 ([1,2,7],[(0,2),(1,2)]),
 ([4,2,5],[(0,2),(2,0)]),
 ([1,7,5],[(0,2),(2,1)]),
 ([3,1,4],[(1,0),(0,1)]),
 ([3,2,7],[(1,0),(0,2)]),
 ([3,2,6],[(1,0),(1,2)]),
 ([7,2,4],[(1,0),(2,0)]),
 ([3,6,4],[(1,0),(2,1)]),
 ([1,3,6],[(1,2),(0,1)]),
 ([7,2,6],[(1,2),(2,0)]),
 ([1,4,6],[(1,2),(2,1)]),
 ([5,7,4],[(2,0),(0,1)]),
 ([5,2,1],[(2,0),(0,2)]),
 ([5,2,6],[(2,0),(1,2)]),
 ([5,6,4],[(2,0),(2,1)]),
 ([1,6,5],[(2,1),(0,2)]),
 ([7,6,4],[(2,1),(1,0)]),
 ([1,6,2],[(2,1),(1,2)]),
 ([2,3,5],[(0,1),(0,2),(1,0)]),
 ([4,3,5],[(0,1),(0,2),(2,0)]),
 ([2,1,4],[(0,1),(1,0),(0,1)]),
 ([2,3,6],[(0,1),(1,0),(0,2)]),
 ([2,3,7],[(0,1),(1,0),(1,2)]),
 ([6,3,4],[(0,1),(1,0),(2,0)]),
 ([2,7,4],[(0,1),(1,0),(2,1)]),
 ([6,3,7],[(0,1),(1,2),(2,0)]),
 ([1,4,7],[(0,1),(1,2),(2,1)]),
 ([5,3,1],[(0,1),(2,0),(0,2)]),
 ([5,3,7],[(0,1),(2,0),(1,2)]),
 ([6,7,4],[(0,1),(2,1),(1,0)]),
 ([1,7,3],[(0,1),(2,1),(1,2)]),
 ([3,1,5],[(0,2),(1,0),(0,1)]),
 ([6,2,5],[(0,2),(1,0),(2,0)]),
 ([3,7,5],[(0,2),(1,0),(2,1)]),
 ([6,2,7],[(0,2),(1,2),(2,0)]),
 ([1,5,7],[(0,2),(1,2),(2,1)]),
 ([4,6,5],[(0,2),(2,0),(0,1)]),
 ([4,2,1],[(0,2),(2,0),(0,2)]),
 ([4,2,7],[(0,2),(2,0),(1,2)]),
 ([4,7,5],[(0,2),(2,0),(2,1)]),
 ([6,7,5],[(0,2),(2,1),(1,0)]),
 ([1,7,2],[(0,2),(2,1),(1,2)]),
 ([3,1,7],[(1,0),(0,1),(0,2)]),
 ([7,1,4],[(1,0),(0,1),(2,0)]),
 ([3,5,4],[(1,0),(0,1),(2,1)]),
 ([3,5,7],[(1,0),(0,2),(2,1)]),
 ([3,1,6],[(1,0),(1,2),(0,1)]),
 ([3,4,6],[(1,0),(1,2),(2,1)]),
 ([7,5,4],[(1,0),(2,0),(0,1)]),
 ([7,2,3],[(1,0),(2,0),(0,2)]),
 ([3,6,7],[(1,0),(2,1),(0,2)]),
 ([3,6,2],[(1,0),(2,1),(1,2)]),
 ([7,3,6],[(1,2),(0,1),(2,0)]),
 ([1,5,6],[(1,2),(0,1),(2,1)]),
 ([7,5,6],[(1,2),(2,0),(0,1)]),
 ([7,2,1],[(1,2),(2,0),(0,2)]),
 ([7,4,6],[(1,2),(2,0),(2,1)]),
 ([5,4,6],[(1,2),(2,1),(1,0)]),
 ([1,4,2],[(1,2),(2,1),(1,2)]),
 ([5,7,1],[(2,0),(0,1),(0,2)]),
 ([5,7,3],[(2,0),(0,1),(1,2)]),
 ([5,2,3],[(2,0),(0,2),(1,2)]),
 ([5,7,6],[(2,0),(1,2),(0,1)]),
 ([5,6,1],[(2,0),(2,1),(0,2)]),
 ([5,6,2],[(2,0),(2,1),(1,2)]),
 ([7,6,5],[(2,1),(0,2),(1,0)]),
 ([1,6,3],[(2,1),(0,2),(1,2)]),
 ([7,6,3],[(2,1),(1,0),(0,2)]),
 ([7,6,2],[(2,1),(1,0),(1,2)]),
 ([2,1,5],[(0,1),(0,2),(1,0),(0,1)]),
 ([7,3,5],[(0,1),(0,2),(1,0),(2,0)]),
 ([2,6,5],[(0,1),(0,2),(1,0),(2,1)]),
 ([4,3,1],[(0,1),(0,2),(2,0),(0,2)]),
 ([4,3,6],[(0,1),(0,2),(2,0),(1,2)]),
 ([2,1,6],[(0,1),(1,0),(0,1),(0,2)]),
 ([6,1,4],[(0,1),(1,0),(0,1),(2,0)]),
 ([2,5,4],[(0,1),(1,0),(0,1),(2,1)]),
 ([2,5,6],[(0,1),(1,0),(0,2),(2,1)]),
 ([2,1,7],[(0,1),(1,0),(1,2),(0,1)]),
 ([2,4,7],[(0,1),(1,0),(1,2),(2,1)]),
 ([6,5,4],[(0,1),(1,0),(2,0),(0,1)]),
 ([6,3,2],[(0,1),(1,0),(2,0),(0,2)]),
 ([2,7,6],[(0,1),(1,0),(2,1),(0,2)]),
 ([2,7,3],[(0,1),(1,0),(2,1),(1,2)]),
 ([6,5,7],[(0,1),(1,2),(2,0),(0,1)]),
 ([6,3,1],[(0,1),(1,2),(2,0),(0,2)]),
 ([6,4,7],[(0,1),(1,2),(2,0),(2,1)]),
 ([5,4,7],[(0,1),(1,2),(2,1),(1,0)]),
 ([1,4,3],[(0,1),(1,2),(2,1),(1,2)]),
 ([5,3,2],[(0,1),(2,0),(0,2),(1,2)]),
 ([5,6,7],[(0,1),(2,0),(1,2),(0,1)]),
 ([6,7,2],[(0,1),(2,1),(1,0),(0,2)]),
 ([6,7,3],[(0,1),(2,1),(1,0),(1,2)]),
 ([6,1,5],[(0,2),(1,0),(0,1),(2,0)]),
 ([3,4,5],[(0,2),(1,0),(0,1),(2,1)]),
 ([6,4,5],[(0,2),(1,0),(2,0),(0,1)]),
 ([6,2,3],[(0,2),(1,0),(2,0),(0,2)]),
 ([3,7,6],[(0,2),(1,0),(2,1),(0,2)]),
 ([3,7,2],[(0,2),(1,0),(2,1),(1,2)]),
 ([6,2,1],[(0,2),(1,2),(2,0),(0,2)]),
 ([4,5,7],[(0,2),(1,2),(2,1),(1,0)]),
 ([1,5,2],[(0,2),(1,2),(2,1),(1,2)]),
 ([4,6,1],[(0,2),(2,0),(0,1),(0,2)]),
 ([4,6,3],[(0,2),(2,0),(0,1),(1,2)]),
 ([4,2,3],[(0,2),(2,0),(0,2),(1,2)]),
 ([4,6,7],[(0,2),(2,0),(1,2),(0,1)]),
 ([4,7,1],[(0,2),(2,0),(2,1),(0,2)]),
 ([4,7,2],[(0,2),(2,0),(2,1),(1,2)]),
 ([4,1,7],[(1,0),(0,1),(0,2),(2,0)]),
 ([7,1,3],[(1,0),(0,1),(2,0),(0,2)]),
 ([7,1,5],[(1,0),(0,1),(2,0),(1,2)]),
 ([3,5,1],[(1,0),(0,1),(2,1),(1,2)]),
 ([3,5,2],[(1,0),(0,2),(2,1),(1,2)]),
 ([5,1,6],[(1,0),(1,2),(0,1),(2,0)]),
 ([3,4,2],[(1,0),(1,2),(2,1),(1,2)]),
 ([7,5,3],[(1,0),(2,0),(0,1),(0,2)]),
 ([7,5,1],[(1,0),(2,0),(0,1),(1,2)]),
 ([3,6,1],[(1,0),(2,1),(0,2),(1,2)]),
 ([7,3,1],[(1,2),(0,1),(2,0),(0,2)]),
 ([4,5,6],[(1,2),(0,1),(2,1),(1,0)]),
 ([1,5,3],[(1,2),(0,1),(2,1),(1,2)]),
 ([7,4,1],[(1,2),(2,0),(2,1),(0,2)]),
 ([7,4,2],[(1,2),(2,0),(2,1),(1,2)]),
 ([5,4,3],[(1,2),(2,1),(1,0),(0,2)]),
 ([5,4,2],[(1,2),(2,1),(1,0),(1,2)]),
 ([2,7,1],[(2,0),(0,1),(0,2),(1,0)]),
 ([5,1,3],[(2,0),(0,2),(1,2),(2,1)]),
 ([2,6,3],[(2,1),(0,2),(1,2),(2,0)]),
 ([7,1,2],[(2,1),(1,0),(1,2),(0,1)]),
 ([2,4,5],[(0,1),(0,2),(1,0),(0,1),(2,1)]),
 ([7,4,5],[(0,1),(0,2),(1,0),(2,0),(0,1)]),
 ([7,3,2],[(0,1),(0,2),(1,0),(2,0),(0,2)]),
 ([2,6,7],[(0,1),(0,2),(1,0),(2,1),(0,2)]),
 ([4,3,2],[(0,1),(0,2),(2,0),(0,2),(1,2)]),
 ([4,7,6],[(0,1),(0,2),(2,0),(1,2),(0,1)]),
 ([4,1,6],[(0,1),(1,0),(0,1),(0,2),(2,0)]),
 ([6,1,2],[(0,1),(1,0),(0,1),(2,0),(0,2)]),
 ([2,5,1],[(0,1),(1,0),(0,1),(2,1),(1,2)]),
 ([2,5,3],[(0,1),(1,0),(0,2),(2,1),(1,2)]),
 ([5,1,7],[(0,1),(1,0),(1,2),(0,1),(2,0)]),
 ([2,4,3],[(0,1),(1,0),(1,2),(2,1),(1,2)]),
 ([6,5,2],[(0,1),(1,0),(2,0),(0,1),(0,2)]),
 ([6,5,1],[(0,1),(1,0),(2,0),(0,1),(1,2)]),
 ([6,4,1],[(0,1),(1,2),(2,0),(2,1),(0,2)]),
 ([6,4,3],[(0,1),(1,2),(2,0),(2,1),(1,2)]),
 ([5,1,2],[(0,1),(2,0),(0,2),(1,2),(2,1)]),
 ([6,1,3],[(0,1),(2,1),(1,0),(1,2),(0,1)]),
 ([3,4,1],[(0,2),(1,0),(0,1),(2,1),(1,2)]),
 ([3,7,1],[(0,2),(1,0),(2,1),(0,2),(1,2)]),
 ([4,5,3],[(0,2),(1,2),(2,1),(1,0),(0,2)]),
 ([4,5,2],[(0,2),(1,2),(2,1),(1,0),(1,2)]),
 ([2,6,1],[(0,2),(2,0),(0,1),(0,2),(1,0)]),
 ([4,1,3],[(0,2),(2,0),(0,2),(1,2),(2,1)]),
 ([2,4,1],[(0,1),(0,2),(1,0),(0,1),(2,1),(1,2)]),
 ([4,1,2],[(0,1),(0,2),(2,0),(0,2),(1,2),(2,1)])]
def C3:List Nat:=[1,7,31,82,142,166,168]
def TB (m:Nat):List (List Nat × List (Nat × Nat)):=if m = 1 then T1 else if m = 2 then T2 else T3
def CB (m:Nat):List Nat:=if m = 1 then C1 else if m = 2 then C2 else C3
def eqL:List Nat→List Nat→Bool
 | [],[]=>true
 | a :: as,b :: bs=>Nat.beq a b && eqL as bs
 | _,_=>false
theorem l0n:∀ {as bs:List Nat},eqL as bs = true↔as = bs
 | [],[]=>by simp [eqL]
 | a :: as,b :: bs=>by unfold eqL; rw [Bool.and_eq_true,l0n,Nat.beq_eq,List.cons.injEq]
 | [],_ :: _=>by simp [eqL]
 | _ :: _,[]=>by simp [eqL]
def ixT:List (List Nat × List (Nat × Nat))→List Nat→Nat
 | [],_=>0
 | e :: t,c=>match eqL e.1 c with | true=>0 | false=>ixT t c + 1
def lkT:List (List Nat × List (Nat × Nat))→List Nat→Option (List (Nat × Nat))
 | [],_=>none
 | e :: t,c=>match eqL e.1 c with | true=>some e.2 | false=>lkT t c
def allS (m:Nat):List (Nat × Nat):=(List.range m).flatMap fun a=>((List.range m).filter fun b=>!(a == b)).map fun b=>(a,b)
theorem p0s:∀ {t:List (List Nat × List (Nat × Nat))} {c:List Nat},lkT t c = (t[ixT t c]?).map Prod.snd
 | [],_=>rfl
 | e :: t,c=>by
  unfold lkT ixT
  cases h:eqL e.1 c with
  | true=>rfl
  | false=>exact p0s
theorem j0y:∀ {t:List (List Nat × List (Nat × Nat))} {c:List Nat} {n:Nat},lkT (t.take n) c = if ixT t c < n then lkT t c else none
 | [],c,n=>by simp [lkT]
 | e :: t,c,0=>by simp [lkT]
 | e :: t,c,n + 1=>by
  rw [List.take_succ_cons]
  unfold lkT ixT
  cases h:eqL e.1 c with
  | true=>simp
  | false =>
   show lkT (t.take n) c = if ixT t c + 1 < n + 1 then lkT t c else none
   rw [j0y (t:=t)]
   by_cases q:ixT t c < n
   ·rw [if_pos q,if_pos (by omega)]
   ·rw [if_neg q,if_neg (by omega)]
theorem d1p:∀ {t:List (List Nat × List (Nat × Nat))} {c:List Nat} {e:List Nat × List (Nat × Nat)},t[ixT t c]? = some e→e.1 = c
 | [],_,_,h=>by cases h
 | e0 :: t,c,e,h=>by
  unfold ixT at h
  cases q:eqL e0.1 c with
  | true=>rw [q] at h; cases h; exact l0n.mp q
  | false=>rw [q] at h; exact d1p h
def adv (t:List (List Nat × List (Nat × Nat))) (cells:List Nat) (o:Option Nat) (p:Nat × Nat):Option Nat :=
 match o with
 | none=>none
 | some n=>(match Nat.blt (ixT t (b0m cells p)) n with
  | true=>some n
  | false=>(match Nat.beq (ixT t (b0m cells p)) n && (decide (lkT t (b0m cells p) = some ((lkT t cells).getD [] ++ [p])) && Nat.blt (ixT t cells) n) with
   | true=>some (n + 1)
   | false=>none))
def advC (m:Nat) (t:List (List Nat × List (Nat × Nat))) (o:Option Nat) (cells:List Nat):Option Nat:=(allS m).foldl (adv t cells) o
def RB (m k:Nat):List (List Nat):=(((TB m).take ((CB m).getD k 0)).drop (if k = 0 then 0 else (CB m).getD (k - 1) 0)).map Prod.fst
def okB (m k:Nat):Bool:=decide ((RB m k).foldl (advC m (TB m)) (some ((CB m).getD k 0)) = some ((CB m).getD (k + 1) 0))
theorem ok2:∀ k,k < 3→okB 2 k = true:=by decide +kernel
theorem ok3:∀ k,k < 6→okB 3 k = true:=by decide +kernel
def fctB (m:Nat):Bool:=(TB m).all fun e=>decide (l0w m e.2 = e.1) && ((e.2.all fun p=>(allS m).contains p) && (decide (e.1.length = m) && (match lkT (TB m) (l0w m e.2.reverse) with | some w=>Nat.beq w.length e.2.length | none=>false) && (allS m).all fun p=>match lkT (TB m) (b0m e.1 p) with | some w=>Nat.ble w.length (e.2.length + 1) && Nat.ble e.2.length (w.length + 1) | none=>false))
theorem fct1:fctB 1 = true:=by decide +kernel
theorem fct2:fctB 2 = true:=by decide +kernel
theorem fct3:fctB 3 = true:=by decide +kernel
def al8 (P:Nat→Bool):Bool:=(List.range 8).all P
theorem mem3:(al8 fun a=>al8 fun b=>al8 fun c=>Nat.beq a 0 || (Nat.beq b 0 || (Nat.beq b a || (Nat.beq c 0 || (Nat.beq c a || (Nat.beq c b || (Nat.beq c (a ^^^ b) || (lkT T3 [a,b,c]).isSome)))))) ) = true:=by decide +kernel
theorem mem2:((List.range 4).all fun a=>(List.range 4).all fun b=>Nat.beq a 0 || (Nat.beq b 0 || (Nat.beq b a || (lkT T2 [a,b]).isSome))) = true:=by decide +kernel
theorem s0c {α:Type} (f:Option Nat→α→Option Nat) (hf:∀ x,f none x = none):∀ xs:List α,xs.foldl f none = none
 | []=>rfl
 | x :: xs=>by rw [List.foldl_cons,hf]; exact s0c f hf xs
theorem l0l {α:Type} {f:Option Nat→α→Option Nat} (hf:∀ x,f none x = none):∀ {xs:List α} {o:Option Nat} {j:Nat} {x:α} {n r:Nat},xs.foldl f o = some r→xs[j]? = some x→(xs.take j).foldl f o = some n→∃ n',f (some n) x = some n'∧(xs.take (j + 1)).foldl f o = some n'
 | [],_,_,_,_,_,_,hj,_=>by cases hj
 | y :: ys,o,0,x,n,r,h,hj,hn=>by
  have ex:y = x:=Option.some.inj hj
  have e:o = some n:=hn
  subst e ex
  rw [List.foldl_cons] at h
  cases q:f (some n) y with
  | none=>rw [q,s0c f hf] at h; cases h
  | some n'=>exact ⟨n',rfl,by show f (some n) y = _; exact q⟩
 | y :: ys,o,j + 1,x,n,r,h,hj,hn=>l0l hf (xs:=ys) (o:=f o y) h hj hn
theorem d1x (t:List (List Nat × List (Nat × Nat))) (cells:List Nat) (p:Nat × Nat):adv t cells none p = none:=rfl
theorem g1s (m:Nat) (t:List (List Nat × List (Nat × Nat))) (cells:List Nat):advC m t none cells = none:=s0c _ (d1x t cells) _
theorem k1b {t:List (List Nat × List (Nat × Nat))} {cells:List Nat} {n n':Nat} {p:Nat × Nat} (h:adv t cells (some n) p = some n') :
  (ixT t (b0m cells p) < n∧n' = n) ∨ (ixT t (b0m cells p) = n∧lkT t (b0m cells p) = some ((lkT t cells).getD [] ++ [p])∧ixT t cells < n∧n' = n + 1):=by
 unfold adv at h
 simp only at h
 split at h
 ·rename_i q
  exact .inl ⟨by rw [Nat.blt_eq] at q; exact q,by cases h; rfl⟩
 ·split at h
  ·rename_i q
   rw [Bool.and_eq_true,Bool.and_eq_true,Nat.beq_eq,decide_eq_true_eq,Nat.blt_eq] at q
   exact .inr ⟨q.1,q.2.1,q.2.2,by cases h; rfl⟩
  ·cases h
abbrev TT:=List (List Nat × List (Nat × Nat))
def kyN (c:List Nat):List Key:=c.map fun x=>.inl ((x:Nat):Int)
def tupN (c:List Nat):D:=.tup (a0g c)
def wyD (w:List (Nat × Nat)):D:=.lst (w.map L2.e0y)
def dtW (t:TT):List (List Key × D):=t.map fun e=>(kyN e.1,wyD e.2)
theorem y0r:∀ {a b:List Nat},kyN a = kyN b→a = b
 | [],[],_=>rfl
 | x :: a,y :: b,h=>by
  unfold kyN at h
  rw [List.map_cons,List.map_cons,List.cons.injEq] at h
  obtain ⟨h1,h2⟩:=h
  injection h1 with h1
  rw [y0r h2,Int.ofNat.inj h1]
 | [],_ :: _,h=>by cases h
 | _ :: _,[],h=>by cases h
theorem m0q (c:List Nat):keyT (tupN c) = some (kyN c):=by
 show m0o (a0g c) = _
 induction c with
 | nil=>rfl
 | cons x c ih =>
  show (match dKey (nD x),m0o (a0g c) with | some k,some ks=>some (k :: ks) | _,_=>none) = _
  rw [ih]; rfl
theorem g0q (c:List Nat):∀ t:TT,valD (dtW t) (kyN c) = (lkT t c).map wyD
 | []=>rfl
 | e :: t=>by
  have ih:=g0q c t
  unfold valD dtW at *
  unfold lkT
  rw [List.map_cons,List.find?_cons]
  cases h:eqL e.1 c with
  | true =>
   have h1:decide (kyN e.1 = kyN c) = true:=decide_eq_true (by rw [l0n.mp h])
   simp only [h1]; rfl
  | false =>
   have h1:decide (kyN e.1 = kyN c) = false:=decide_eq_false fun q=>by rw [l0n.mpr (y0r q)] at h; cases h
   simp only [h1]; exact ih
theorem s0e (t:TT):(dtW t).length = t.length:=by unfold dtW; rw [List.length_map]
theorem g1f {t:TT} {c:List Nat} {w:List (Nat × Nat)} (h:lkT t c = none):putD (dtW t) (kyN c) (wyD w) = dtW (t ++ [(c,w)]):=by
 have hv:valD (dtW t) (kyN c) = none:=by rw [g0q,h]; rfl
 have ha:((dtW t).any fun kv=>decide (kv.1 = kyN c)) = false:=by
  unfold valD at hv
  rw [Option.map_eq_none_iff,List.find?_eq_none] at hv
  rw [List.any_eq_false]; exact hv
 unfold putD
 rw [if_neg (by rw [ha]; decide)]
 unfold dtW
 rw [List.map_append]; rfl
def nwl (t:TT) (c n:Nat):List (List Nat):=((t.take n).drop c).map Prod.fst
theorem w0r {t:TT} {c:List Nat} {w:List (Nat × Nat)} {n:Nat} (hi:ixT t c = n) (hl:lkT t c = some w):t.take (n + 1) = t.take n ++ [(c,w)]:=by
 rw [p0s,hi] at hl
 obtain ⟨e,he,rfl⟩:=Option.map_eq_some_iff.mp hl
 have e1:=d1p (t:=t) (c:=c) (by rw [hi]; exact he)
 rw [List.take_add_one,he,Option.toList_some,← e1]
theorem b1o {t:TT} {c:List Nat} {w:List (Nat × Nat)} {n k:Nat} (hi:ixT t c = n) (hl:lkT t c = some w) (hk:k ≤ n):nwl t k (n + 1) = nwl t k n ++ [c]:=by
 have hn:n < t.length:=by
  rw [p0s,hi] at hl
  obtain ⟨e,he,_⟩:=Option.map_eq_some_iff.mp hl
  exact (List.getElem?_eq_some_iff.mp he).1
 unfold nwl
 rw [w0r hi hl,List.drop_append_of_le_length (by rw [List.length_take]; omega),List.map_append]; rfl
theorem b1s {t:TT} {c:List Nat} {n:Nat} (h:ixT t c < n):lkT (t.take n) c = lkT t c:=by rw [j0y,if_pos h]
theorem d1n {t:TT} {c:List Nat} {n:Nat} (h:ixT t c = n):lkT (t.take n) c = none:=by rw [j0y,if_neg (by omega)]
theorem n0s {m:Nat} {p:Nat × Nat}:p ∈ allS m↔g0b m p:=by
 unfold allS g0b
 rw [List.mem_flatMap]
 constructor
 ·rintro ⟨a,ha,hb⟩
  obtain ⟨b,hb',rfl⟩:=List.mem_map.mp hb
  obtain ⟨h1,h2⟩:=List.mem_filter.mp hb'
  exact ⟨List.mem_range.mp ha,List.mem_range.mp h1,fun z=>by simp at h2; exact h2 z⟩
 ·rintro ⟨h1,h2,h3⟩
  exact ⟨p.1,List.mem_range.mpr h1,List.mem_map.mpr ⟨p.2,List.mem_filter.mpr ⟨List.mem_range.mpr h2,by simpa using h3⟩,rfl⟩⟩
structure Fct (m:Nat):Prop where
 af:∀ e ∈ TB m,l0w m e.2 = e.1
 st:∀ e ∈ TB m,∀ p ∈ e.2,g0b m p
 ln:∀ e ∈ TB m,e.1.length = m
 bk:∀ e ∈ TB m,∃ w,lkT (TB m) (l0w m e.2.reverse) = some w∧w.length = e.2.length
 nx:∀ e ∈ TB m,∀ p,g0b m p→∃ w,lkT (TB m) (b0m e.1 p) = some w∧w.length ≤ e.2.length + 1∧e.2.length ≤ w.length + 1
theorem z0m {m:Nat} (h:fctB m = true):Fct m:=by
 unfold fctB at h
 rw [List.all_eq_true] at h
 refine ⟨fun e he=>?_,fun e he p hp=>?_,fun e he=>?_,fun e he=>?_,fun e he p hp=>?_⟩
 all_goals
  have:=h e he
  rw [Bool.and_eq_true,Bool.and_eq_true,Bool.and_eq_true,Bool.and_eq_true,decide_eq_true_eq,decide_eq_true_eq] at this
  obtain ⟨a,b,⟨c,d⟩,f⟩:=this
 ·exact a
 ·rw [List.all_eq_true] at b
  exact n0s.mp (List.contains_iff_mem.mp (b p hp))
 ·exact c
 ·split at d
  ·rename_i w hw; exact ⟨w,hw,by rwa [Nat.beq_eq] at d⟩
  ·cases d
 ·rw [List.all_eq_true] at f
  have:=f p (n0s.mpr hp)
  split at this
  ·rename_i w hw
   rw [Bool.and_eq_true,Nat.ble_eq,Nat.ble_eq] at this
   exact ⟨w,hw,this⟩
  ·cases this
theorem fct {m:Nat} (h1:1 ≤ m) (h3:m ≤ 3):Fct m:=by
 match m,h1,h3 with
 | 1,_,_=>exact z0m fct1
 | 2,_,_=>exact z0m fct2
 | 3,_,_=>exact z0m fct3
theorem t0v:∀ {t:TT} {c:List Nat} {w:List (Nat × Nat)},lkT t c = some w→(c,w) ∈ t
 | [],_,_,h=>by cases h
 | e :: t,c,w,h=>by
  unfold lkT at h
  cases q:eqL e.1 c with
  | true=>rw [q] at h; cases h; rw [← l0n.mp q]; exact .head _
  | false=>rw [q] at h; exact .tail _ (t0v h)
theorem i1v {t:TT} {c:List Nat} {w:List (Nat × Nat)} (h:lkT t c = some w):ixT t c < t.length:=by
 rw [p0s] at h
 obtain ⟨e,he,_⟩:=Option.map_eq_some_iff.mp h
 exact (List.getElem?_eq_some_iff.mp he).1
theorem g1c {m:Nat} (h1:1 ≤ m) (h3:m ≤ 3) {rows:List Nat} (F:Full m rows) (lt:∀ p,rows.getD p 0 < 2 ^ m):∃ w,lkT (TB m) rows = some w:=by
 have hl:=F.len
 match m,h1,h3,rows,hl with
 | 1,_,_,[a],_ => 
  have a0:a ≠ 0:=fun z=>d0c F (i:=0) (by decide) (by subst z; exact .zero)
  have a1:a < 2:=lt 0
  have:a = 1:=by omega
  subst this
  exact ⟨_,rfl⟩
 | 2,_,_,[a,b],_ =>
  have a0:a ≠ 0:=fun z=>d0c F (i:=0) (by decide) (by subst z; exact .zero)
  have b0:b ≠ 0:=fun z=>d0c F (i:=1) (by decide) (by subst z; exact .zero)
  have b1:b ≠ a:=fun z=>d0c F (i:=1) (by decide) (by subst z; exact .mem (.head _))
  have al:a < 4:=lt 0
  have bl:b < 4:=lt 1
  have:=mem2
  rw [List.all_eq_true] at this
  have:=this a (List.mem_range.mpr al)
  rw [List.all_eq_true] at this
  have:=this b (List.mem_range.mpr bl)
  simp only [Bool.or_eq_true,Nat.beq_eq] at this
  rcases this with z | z | z | z
  ·exact (a0 z).elim
  ·exact (b0 z).elim
  ·exact (b1 z).elim
  ·exact Option.isSome_iff_exists.mp z
 | 3,_,_,[a,b,c],_ =>
  have a0:a ≠ 0:=fun z=>d0c F (i:=0) (by decide) (by subst z; exact .zero)
  have b0:b ≠ 0:=fun z=>d0c F (i:=1) (by decide) (by subst z; exact .zero)
  have b1:b ≠ a:=fun z=>d0c F (i:=1) (by decide) (by subst z; exact .mem (.head _))
  have c0:c ≠ 0:=fun z=>d0c F (i:=2) (by decide) (by subst z; exact .zero)
  have c1:c ≠ a:=fun z=>d0c F (i:=2) (by decide) (by subst z; exact .mem (.head _))
  have c2:c ≠ b:=fun z=>d0c F (i:=2) (by decide) (by subst z; exact .mem (.tail _ (.head _)))
  have c3:c ≠ a ^^^ b:=fun z=>d0c F (i:=2) (by decide) (by subst z; exact Spn.xor (.mem (.head _)) (.mem (.tail _ (.head _))))
  have al:a < 8:=lt 0
  have bl:b < 8:=lt 1
  have cl:c < 8:=lt 2
  have:=mem3
  unfold al8 at this
  rw [List.all_eq_true] at this
  have:=this a (List.mem_range.mpr al)
  rw [List.all_eq_true] at this
  have:=this b (List.mem_range.mpr bl)
  rw [List.all_eq_true] at this
  have:=this c (List.mem_range.mpr cl)
  simp only [Bool.or_eq_true,Nat.beq_eq] at this
  rcases this with z | z | z | z | z | z | z | z
  ·exact (a0 z).elim
  ·exact (b0 z).elim
  ·exact (b1 z).elim
  ·exact (c0 z).elim
  ·exact (c1 z).elim
  ·exact (c2 z).elim
  ·exact (c3 z).elim
  ·exact Option.isSome_iff_exists.mp z
theorem f1q {m:Nat} (F:Fct m) {c:List Nat} {w:List (Nat × Nat)} (h:lkT (TB m) c = some w):Full m c:=by
 have:=i0v (u0a m) (F.st _ (t0v h))
 have e:=F.af _ (t0v h)
 unfold l0w at e
 rw [e] at this
 exact this
theorem i1a {m k:Nat} (h1:1 ≤ m) (h3:m ≤ 3) (hk:k + 1 < (CB m).length):okB m k = true:=by
 match m,h1,h3 with
 | 1,_,_=>exact absurd hk (by show ¬ (k + 1 < 1); omega)
 | 2,_,_=>exact ok2 k (by have:k + 1 < 4:=hk; omega)
 | 3,_,_=>exact ok3 k (by have:k + 1 < 7:=hk; omega)
def b0l (m:Nat) (rows:List Nat):D:=.tup [nD m,.tup (a0g rows)]
def s0q:ASp:=fun ss q=>∃ rows:List Nat,ss = [.vl (.tup (a0g rows))]∧rows.length ≤ 30∧∀ ls,LOk rows rows.length ls→q (.n (.dk (dl ls))) [.vl (.tup (a0g rows))]
def l0y:ASp:=fun ss q=>∃ rows:List Nat,ss = [.vl (.tup (a0g rows))]∧rows.length ≤ 30∧∀ ls,LOk rows rows.length ls→q (.f (a0g (plc ls))) [.vl (.tup (a0g rows))]
def s0n:ASp:=fun ss q=>∃ (m:Nat) (rows:List Nat),ss = [.vl (b0l m rows)]∧m ≤ 12∧Full m rows∧q (.d .non) [.vl (b0l m rows)]
def s0p:ASp:=fun ss q=>∃ (m:Nat) (rows:List Nat),ss = [.vl (b0l m rows)]∧m ≤ 12∧Full m rows∧(∀ p,rows.getD p 0 < 2 ^ m)∧∀ held ps und,GJ m m rows held ps und→q (.d (.tup [.lst ((stp ps und).map L2.e0y),.lst (a0g ((List.range m).map (chn ps)))])) [.vl (b0l m rows)]
structure h1e (m:Nat) (rows:List Nat) (p:Nat):Prop where
 len:rows.length = m
 lt:p < m
 no:∀ i,i < p→¬ Spn (rows.take i) (rows.getD i 0)
 yes:Spn (rows.take p) (rows.getD p 0)
def SUnF:ASp:=fun ss q=>∃ (m:Nat) (rows:List Nat),ss = [.vl (b0l m rows)]∧rows.length ≠ m∧q (.d .non) [.vl (b0l m rows)]
def SUnL:ASp:=fun ss q=>∃ (m:Nat) (rows:List Nat) (p:Nat),ss = [.vl (b0l m rows)]∧m ≤ 12∧h1e m rows p∧q (.d (nD p)) [.vl (b0l m rows)]
section
variable {P:Program} {w:World} {K:PySem.W.Frag} {mg:Str→Option Value} {base:Heap}
theorem v0o {C_Leans C_JoinError f_Leans:Addr} (i_n:v0x K C_Leans f_Leans "place" "Leans.__init__" e0i ["self", "place"]) (b:v0y K C_JoinError) (B:BI mg) (m:mg "JoinError" = some (.ref C_JoinError)) :
  ∃ fd,o0m K fd ["self", "place"] []∧FnOk P w K mg base CX0 1 f_Leans fd ["self", "place"] (spIP C_Leans "place"):=by
 obtain ⟨fd,F,hb⟩:=i_n.fn
 refine ⟨fd,.all hb,F.ok (k:=0) x0j (fun vs H Q E h=>by obtain ⟨e,n,rfl,_⟩:=h; rfl) (fun cdv A outer s H vs Q E hr h=>?_)⟩
 obtain ⟨e,n,rfl,hn,he,hq⟩:=h
 refine ⟨_,a0f (e0a (b1l (C:=C_Leans) b (v0r i_n.xi.cl) m (a0c (pv 0) (a0c (p0b (i0s e0f (i0s (d1i (pv 1)) (i0s e0f d1h)))) a0e)))) (a0k (f1d i_n.xi (pv 1) (pv 0))),?_⟩
 refine ⟨.ref e,rfl,j3 (by decide +kernel) (by decide +kernel) hn rfl fun t=>⟨e,none,_,rfl,he,.int n,rfl,e,rfl,he,hq⟩⟩
theorem y0k (dn:DefN K mg "joined" j0v ["one", "other"]) (B:BI mg):OkN P w K mg base 1 "joined" ["one", "other"] (spA K o0l):=by
 refine dn.aok2 (k:=0) x0k (fun j=>j == 0 || j == 1) [] o0l rfl (fun f cdv A outer s H E hr=>have hu:=d0l hr; ⟨_,(a0k (b0s (b0o p0c (pv 0) (pv 1)))),(b0e (a0s c0q a0b a0b))⟩) ?_
 rintro ss q ⟨x,y,rfl,hq⟩
 refine ⟨rfl,rfl,?_⟩
 show q (.d (.int (Builtin.bitXor x y))) [nv x,nv y]
 rw [g0e]; exact hq
theorem r0i (dn:DefN K mg "own_rows" f0d ["many"]) (B:BI mg):OkN P w K mg base 1 "own_rows" ["many"] (spA K SOwn):=by
 refine dn.aok2 (k:=0) q0z (fun j=>j == 0) [] SOwn rfl (fun f cdv A outer s H E hr=>have hu:=d0l hr; ⟨_,(a0k (b0s (n0l ["given"] [] rfl (Blk.of (a0j f0d) k0w) (c0g rfl B.range_ (a0c (pv 0) a0e)) (fun _ _ _ _ nd=>(a0r (i:=0) nd rfl (by first | exact Or.inl rfl | exact Or.inr rfl))) (fun _ _ _ _=>i0q) (fun _ _ _ _=>(b0o t0q a0q (pv 0)))))),(b0e (f0k (c0d (a0a a0b a0d)) (a0i rfl) g0t (a0s f0r a0o a0b)))⟩) ?_
 rintro ss q ⟨m,rfl,hm,hq⟩
 refine ⟨rfl,rfl,⟨by omega,by omega⟩,by rw [d0r]; omega,?_⟩
 refine l0p (fun k=>.int (1 <<< k:Nat)) trivial (fun k acc N hk hN=>?_) ?_
 ·rw [Int.zero_add]
  refine ⟨⟨by omega,by omega,by decide⟩,?_⟩
  show N (acc ++ [.int ((1:Int) * 2 ^ ((k:Int).toNat))]) _
  rw [n0g]; exact hN
 ·rw [Int.toNat_natCast]
  have e:((List.range m).map fun k=>D.int (1 <<< k:Nat)) = a0g (b0t m):=by unfold b0t a0g; rw [List.map_map]; rfl
  rw [e]; exact hq
theorem v0b (dn:DefN K mg "reduced" h0w ["leads", "row"]) (B:BI mg):OkN P w K mg base 1 "reduced" ["leads", "row"] (spA K SRed):=by
 refine dn.aok2 (k:=0) d0m (fun j=>j == 0) [.un,.un,.un,.un] SRed rfl (fun f cdv A outer s H E hr=>have hu:=d0l hr; ⟨_,(a0f (b0f (i:=2) d0m.nd rfl (by first | exact Or.inl rfl | exact Or.inr rfl) a0q)
  (a0f (t0h PassesOwn.never (t0g (i1m hu (r0f K PySem.F.plainAttrs_int PySem.F.slot_int_bit_length PySem.F.type_int_bit_length r0t (pv 1)) (pv 0)))
  (a0f (e0d (e0p hu (pv 0) (r0f K PySem.F.plainAttrs_int PySem.F.slot_int_bit_length PySem.F.type_int_bit_length r0t (pv 1)) (fun _ _=>rfl)) (c0u K (n:=3) rfl (a0x (a0r (i:=3) d0m.nd rfl (by first | exact Or.inl rfl | exact Or.inr rfl)) (a0x (a0r (i:=4) d0m.nd rfl (by first | exact Or.inl rfl | exact Or.inr rfl)) (a0x (a0r (i:=5) d0m.nd rfl (by first | exact Or.inl rfl | exact Or.inr rfl)) c0t)))))
  (a0f (d1g (i:=1) d0m.nd rfl (by first | exact Or.inl rfl | exact Or.inr rfl) (pv 4) y0z)
  (a0k (d1g (i:=2) d0m.nd rfl (by first | exact Or.inl rfl | exact Or.inr rfl) (pv 5) y0z)))))
  (a0k (b0s (e0e (a0c (pv 1) (a0c (pv 2) a0e))))))),(a0h (b0a a0o rfl)
  (a0h (o0t (a0z (e1l (n0c a0b) a0b))
  (a0h (e0n (j0r a0b (n0c a0b)) (c0c (a0n (a0i rfl) (a0n (a0i rfl) (a0n (a0i rfl) b0r (fun _ _ _=>b0g)) (fun _ _ _=>b0g)) (fun _ _ _=>b0g))))
  (a0h (x0g a0b rfl)
  (x0g a0b rfl))))
  (b0e (d0d (a0a a0b (a0a a0b a0d))))))⟩) ?_
 rintro ss q ⟨rows,k,ls,row,rfl,hL,hq⟩
 refine ⟨rfl,rfl,?_⟩
 refine cutS (fun ρ=>ρ = [.dk (dl ls),nv row,nv 0,.un,.un,.un]) (fun M hM=>hM _ rfl) ?_
 rintro _ rfl
 refine cutS (fun ρ=>∃ r p s3 s4 s5,Red rows k ls row r p∧ρ = [.dk (dl ls),nv r,nv p,s3,s4,s5]) (fun M hM=>?_) ?_
 ·refine w0c (fun ρ=>∃ r p s3 s4 s5,r = row ^^^ xw rows p∧p < 2 ^ k∧(∀ i,p.testBit i = true→∃ e ∈ ls,e.1 = i)∧Spn (rst ls) (row ^^^ r)∧ρ = [.dk (dl ls),nv r,nv p,s3,s4,s5]) (fun ρ=>match gt ρ 1 with | .vl (.int i)=>bitsN i.toNat | _=>0) ?_ _ ⟨row,0,.un,.un,.un,by rw [v0z,Nat.xor_zero],Nat.two_pow_pos _,(fun i h=>absurd h (by rw [Nat.zero_testBit]; exact Bool.false_ne_true)),(by rw [Nat.xor_self]; exact .zero),rfl⟩
  rintro _ N ⟨r,p,s3,s4,s5,h1,h2,h3,h4,rfl⟩ hN
  have ev:valD (dl ls) (.inl ((Builtin.Int.intBits (r:Int):Nat):Int)) = (lk ls (bitsN r)).map ldD:=by rw [u0l]; exact d1v _ ls
  show if (valD (dl ls) (.inl ((Builtin.Int.intBits (r:Int):Nat):Int))).isSome = true then _ else _
  cases h:lk ls (bitsN r) with
  | none =>
   rw [ev,h]
   exact hM _ ⟨r,p,s3,s4,s5,⟨h1,h2,h3,h,h4⟩,rfl⟩
  | some e =>
   obtain ⟨me,be⟩:=f1p h
   have e0:=hL.ne e me
   rw [h] at ev
   rw [ev]
   show aSeq (aAsg _ _) _ _ [Sv.dk (dl ls),nv r,nv p,s3,s4,s5]
   refine cutS (fun ρ=>ρ = [.dk (dl ls),nv r,nv p,nv e.1,nv e.2.1,nv e.2.2]) (fun M hM=>k0b rfl ev (hM _ rfl)) ?_
   rintro _ rfl
   have w1:Builtin.bitXor (r:Int) (e.2.1:Int) = ((r ^^^ e.2.1:Nat):Int):=g0e _ _
   have w2:Builtin.bitXor (p:Int) (e.2.2:Int) = ((p ^^^ e.2.2:Nat):Int):=g0e _ _
   refine hN _ ⟨r ^^^ e.2.1,p ^^^ e.2.2,nv e.1,nv e.2.1,nv e.2.2,?_,Nat.xor_lt_two_pow h2 (hL.lt e me),fun i hi=>?_,?_,by rw [← v0d w1,← v0d w2]; rfl⟩ ?_
   ·rw [w0a,← hL.eq e me,← Nat.xor_assoc,← h1]
   ·rw [Nat.testBit_xor] at hi
    cases q:p.testBit i with
    | true=>exact h3 i q
    | false=>rw [q,Bool.false_xor] at hi; exact hL.bt e me i hi
   ·rw [← Nat.xor_assoc]; exact h4.xor (.mem (List.mem_map.mpr ⟨e,me,rfl⟩))
   ·show bitsN (Builtin.bitXor (r:Int) (e.2.1:Int)).toNat < bitsN ((r:Int)).toNat
    rw [w1,Int.toNat_natCast,Int.toNat_natCast]
    exact l0v be.symm e0
 rintro _ ⟨r,p,s3,s4,s5,R,rfl⟩
 exact ⟨by simp,hq r p R⟩
theorem r0j (dn:DefN K mg "leads_of" g0w ["rows"]) (B:BI mg) (g_reduced:OkN P w K mg base 1 "reduced" ["leads", "row"] (spA K SRed)):OkN P w K mg base 2 "leads_of" ["rows"] (spA K s0q):=by
 refine dn.aok2 (k:=1) d0n (fun j=>j == 0) [.un,.un,.un,.un,.un] s0q rfl (fun f cdv A outer s H E hr=>have hu:=d0l hr; ⟨_,(a0f (b0f (i:=1) d0n.nd rfl (by first | exact Or.inl rfl | exact Or.inr rfl) t0m)
  (a0f (e0v PassesOwn.never rfl (b1h K rfl B.enumerate_ (a0c (pv 0) a0e)) (c0u K (n:=2) rfl (a0x (a0r (i:=2) d0n.nd rfl (by first | exact Or.inl rfl | exact Or.inr rfl)) (a0x (a0r (i:=3) d0n.nd rfl (by first | exact Or.inl rfl | exact Or.inr rfl)) c0t)))
  (a0f (e0d (b0y g_reduced (hr.mono (by decide)) (a0c (pv 1) (a0c (pv 3) a0e))) (c0u K (n:=2) rfl (a0x (a0r (i:=4) d0n.nd rfl (by first | exact Or.inl rfl | exact Or.inr rfl)) (a0x (a0r (i:=5) d0n.nd rfl (by first | exact Or.inl rfl | exact Or.inr rfl)) c0t))))
  (a0k (e0s (h0y K (pv 4) (fun _=>rfl))
  (a0k (i0r hu (pv 1) (r0f K PySem.F.plainAttrs_int PySem.F.slot_int_bit_length PySem.F.type_int_bit_length r0t (pv 4)) (e0e (a0c (pv 2) (a0c (pv 4) (a0c (b0o p0c (pv 5) (b0o t0q a0q (pv 2))) a0e)))) rfl))
  b0x))))
  (a0k (b0s (pv 1))))),(a0h (b0a s0x rfl)
  (a0h (c0x (pin:=(fun j=>j == 0)) (u0v (a0a a0b a0d)) (c0c (a0n (a0i rfl) (a0n (a0i rfl) b0r (fun _ _ _=>b0g)) (fun _ _ _=>b0g)))
  (a0h (e0n (a0m (a0a a0b (a0a a0b a0d))) (c0c (a0n (a0i rfl) (a0n (a0i rfl) b0r (fun _ _ _=>b0g)) (fun _ _ _=>b0g))))
  (c0h (j0q a0b)
  (s0z (d0d (a0a a0b (a0a a0b (a0a (a0s c0q a0b (a0s f0r a0o a0b)) a0d)))) a0b (n0c a0b))
  a0w)))
  (b0e a0b)))⟩) ?_
 rintro ss q ⟨rows,rfl,hl,hq⟩
 refine ⟨rfl,rfl,?_⟩
 refine cutS (fun ρ=>ρ = [.vl (.tup (a0g rows)),.dk (dl []),.un,.un,.un,.un]) (fun M hM=>hM _ rfl) ?_
 rintro _ rfl
 refine cutS (fun ρ=>∃ ls s2 s3 s4 s5,LOk rows rows.length ls∧ρ = [.vl (.tup (a0g rows)),.dk (dl ls),s2,s3,s4,s5]) (fun M hM=>?_) ?_
 ·refine n0z (fun k ρ=>∃ ls s2 s3 s4 s5,k ≤ rows.length∧LOk rows k ls∧ρ = [.vl (.tup (a0g rows)),.dk (dl ls),s2,s3,s4,s5]) (ds:=j0m 0 (a0g rows)) ?_ ?_ ?_ _ ⟨[],.un,.un,.un,.un,Nat.zero_le _,f1n rows,rfl⟩
  ·rintro k ρ _ ⟨ls,s2,s3,s4,s5,_,_,rfl⟩; first | rfl | trivial
  ·rintro k d _ M' hk ⟨ls,s2,s3,s4,s5,hkl,hL,rfl⟩ hM'
   obtain ⟨x,ex,rfl⟩:=g0p hk
   rw [Nat.zero_add]
   unfold a0g at ex
   rw [List.getElem?_map] at ex
   obtain ⟨row,et,rfl⟩:=Option.map_eq_some_iff.mp ex
   have eg:rows.getD k 0 = row:=by rw [List.getD_eq_getElem?_getD,et]; rfl
   have lt:=(List.getElem?_eq_some_iff.mp et).1
   have ll:=hL.ll
   refine e1g ?_
   dsimp only [pt]
   refine cutS (fun ρ=>∃ r p,Red rows k ls row r p∧ρ = [.vl (.tup (a0g rows)),.dk (dl ls),nv k,nv row,nv r,nv p]) (fun M hM=>⟨rfl,rows,k,ls,row,rfl,hL,fun r p R=>hM _ ⟨r,p,R,rfl⟩⟩) ?_
   rintro _ ⟨r,p,R,rfl⟩
   rw [← eg] at R
   show if ((r:Int) != 0) = true then _ else _
   by_cases h0:r = 0
   ·subst h0
    exact hM' _ ⟨ls,nv k,nv row,nv 0,nv p,lt,b1r hL lt R,rfl⟩
   ·rw [if_pos (by simp [h0])]
    have ew:Builtin.bitXor (p:Int) ((1:Int) * 2 ^ ((k:Int).toNat)) = ((p ^^^ (1 <<< k):Nat):Int):=by rw [n0g,g0e]
    refine ⟨⟨by omega,by omega,by decide⟩,by simp,by rw [j1s]; omega,hM' _ ⟨ls ++ [(k,r,p ^^^ (1 <<< k))],nv k,nv row,nv r,nv p,lt,f1o hL lt R h0,?_⟩⟩
    rw [← j1r (e:=(k,r,p ^^^ (1 <<< k))) R.no]
    show [_,Sv.dk (putD (dl ls) (.inl ((Builtin.Int.intBits (r:Int):Nat):Int)) (.tup [nD k,nD r,.int (Builtin.bitXor (p:Int) ((1:Int) * 2 ^ ((k:Int).toNat)))])),_,_,_,_] = _
    rw [ew,u0l]; rfl
  ·rintro ρ ⟨ls,s2,s3,s4,s5,hkl,hL,rfl⟩
   rw [f0j,a0t] at hL
   exact hM _ ⟨ls,s2,s3,s4,s5,hL,rfl⟩
 rintro _ ⟨ls,s2,s3,s4,s5,hL,rfl⟩
 exact hq ls hL
theorem b1n (dn:DefN K mg "basis" k0j ["rows"]) (B:BI mg) (g_leads_of:OkN P w K mg base 2 "leads_of" ["rows"] (spA K s0q)):OkN P w K mg base 3 "basis" ["rows"] (spA K l0y):=by
 refine dn.aok2 (k:=2) b1c (fun j=>j == 0) [] l0y rfl (fun f cdv A outer s H E hr=>have hu:=d0l hr; ⟨_,(a0k (b0s (n0l ["place", "rest", "parts"] [] rfl (Blk.of (a0j k0j) t0s) (f1f (b0y g_leads_of (hr.mono (by decide)) (a0c (pv 0) a0e))) (fun _ _ _ _ nd=>(c0u K (n:=3) rfl (a0x (a0r (i:=0) nd rfl (by first | exact Or.inl rfl | exact Or.inr rfl)) (a0x (a0r (i:=1) nd rfl (by first | exact Or.inl rfl | exact Or.inr rfl)) (a0x (a0r (i:=2) nd rfl (by first | exact Or.inl rfl | exact Or.inr rfl)) c0t))))) (fun _ _ _ _=>i0q) (fun _ _ _ _=>(pv 0))))),(b0e (f0k (w0s (a0m (a0a a0b a0d))) (c0c (a0n (a0i rfl) (a0n (a0i rfl) (a0n (a0i rfl) b0r (fun _ _ _=>b0g)) (fun _ _ _=>b0g)) (fun _ _ _=>b0g))) g0t a0b))⟩) ?_
 rintro ss q ⟨rows,rfl,hl,hq⟩
 refine ⟨rfl,rfl,rfl,rows,rfl,hl,fun ls hL=>?_⟩
 have e:(dl ls).map Prod.snd = ls.map ldD:=by unfold dl; rw [List.map_map]; rfl
 have ll:=hL.ll
 dsimp only
 rw [e]
 refine ⟨by rw [List.length_map]; omega,q0j ldD (fun e=>nD e.1) trivial (fun x acc N hx hN=>hN) ?_⟩
 have:=hq ls hL
 unfold a0g plc at this
 rw [List.map_map] at this
 exact this
theorem i0c (dn:DefN K mg "refuse_unplaced" b0v ["wish"]) (B:BI mg) (g_basis:OkN P w K mg base 3 "basis" ["rows"] (spA K l0y)):OkN P w K mg base 4 "refuse_unplaced" ["wish"] (spA K s0n):=by
 refine dn.aok2 (k:=3) a0p (fun j=>j == 0) [.un,.un,.un,.un] s0n rfl (fun f cdv A outer s H E hr=>have hu:=d0l hr; ⟨_,(a0f (e0d (pv 0) (c0u K (n:=2) rfl (a0x (a0r (i:=1) a0p.nd rfl (by first | exact Or.inl rfl | exact Or.inr rfl)) (a0x (a0r (i:=2) a0p.nd rfl (by first | exact Or.inl rfl | exact Or.inr rfl)) c0t))))
  (a0f (e0s (b0n (k0q K hr.units) (b0d (c0n K) rfl B.len_ g0a (a0c (pv 2) a0e)) (pv 1) (c0a _))
  (a0k n0j)
  b0x)
  (a0f (b0f (i:=3) a0p.nd rfl (by first | exact Or.inl rfl | exact Or.inr rfl) (b0y g_basis (hr.mono (by decide)) (a0c (pv 2) a0e)))
  (a0k (e0v PassesOwn.never rfl (c0g rfl B.range_ (a0c (pv 1) a0e)) (a0r (i:=4) a0p.nd rfl (by first | exact Or.inl rfl | exact Or.inr rfl))
  (a0k (e0s (b0n (f0q K) (pv 4) (pv 3) rfl)
  (a0k n0j)
  b0x))))))),(a0h (e0n a0b (c0c (a0n (a0i rfl) (a0n (a0i rfl) b0r (fun _ _ _=>b0g)) (fun _ _ _=>b0g))))
  (a0h (c0h (a0z (a0s k0r (c0z e0j (a0a a0b a0d)) a0b))
  c0m
  a0w)
  (a0h (b0a (a0m (a0a a0b a0d)) rfl)
  (c0x (pin:=(fun _=>false)) (c0d (a0a a0b a0d)) (a0i rfl)
  (c0h (a0z (a0s (y0i true) a0b a0b))
  c0m
  a0w)))))⟩) ?_
 rintro ss q ⟨m,rows,rfl,hm,hF,hq⟩
 have hl:=hF.len
 refine ⟨rfl,rfl,?_⟩
 refine cutS (fun ρ=>ρ = [.vl (b0l m rows),nv m,.vl (.tup (a0g rows)),.un,.un]) (fun M hM=>hM _ rfl) ?_
 rintro _ rfl
 refine cutS (fun ρ=>ρ = [.vl (b0l m rows),nv m,.vl (.tup (a0g rows)),.un,.un]) (fun M hM=>b0j rfl rfl (by simp [D.depth]) (b:=true) ?_ (hM _ rfl)) ?_
 ·show eqD (.int (((a0g rows).length:Nat):Int)) (.int (m:Int)) = true
  rw [a0t,hl]; exact d0j _
 rintro _ rfl
 refine cutS (fun ρ=>∃ ls,LOk rows rows.length ls∧ρ = [.vl (b0l m rows),nv m,.vl (.tup (a0g rows)),.ow (a0g (plc ls)),.un]) (fun M hM=>⟨rfl,rows,rfl,by omega,fun ls L=>hM _ ⟨ls,L,rfl⟩⟩) ?_
 rintro _ ⟨ls,L,rfl⟩
 refine ⟨⟨by omega,by omega⟩,e0w (fun k ρ=>∃ s4,ρ = [.vl (b0l m rows),nv m,.vl (.tup (a0g rows)),.ow (a0g (plc ls)),s4]) (fun _ _ _=>trivial) ?_ (fun ρ ⟨s4,e⟩=>by subst e; exact hq) ⟨.un,rfl⟩⟩
 rintro k _ M hk ⟨s4,rfl⟩ hM
 rw [Int.toNat_natCast] at hk
 rw [Int.zero_add]
 refine d1r (xs:=plc ls) rfl ?_
 have:(plc ls).contains k = true:=by rw [List.contains_iff_mem]; exact c1g hF L hk
 rw [this]
 exact hM _ ⟨nv k,rfl⟩
theorem e0z {C_NoFit:Addr} (m_NoFit:mg "NoFit" = some (.ref C_NoFit)) (e_NoFit:PySem.W.excIn K C_NoFit bmV "ValueError.__new__" = true) (dn:DefN K mg "refuse_unplaced" b0v ["wish"]) (B:BI mg) (g_basis:OkN P w K mg base 3 "basis" ["rows"] (spA K l0y)):OkX P w K mg base 4 "refuse_unplaced" ["wish"] C_NoFit none (spA K SUnF):=by
 refine dn.aokX (k:=3) a0p (fun j=>j == 0) [.un,.un,.un,.un] SUnF C_NoFit none rfl (fun f cdv A outer s H E hr=>have hu:=d0l hr; ⟨_,(a0y (h0f (e0d (pv 0) (c0u K (n:=2) rfl (a0x (a0r (i:=1) a0p.nd rfl (by first | exact Or.inl rfl | exact Or.inr rfl)) (a0x (a0r (i:=2) a0p.nd rfl (by first | exact Or.inl rfl | exact Or.inr rfl)) c0t)))))
  (a0y (k0l (b0n (k0q K hr.units) (b0d (c0n K) rfl B.len_ g0a (a0c (pv 2) a0e)) (pv 1) (c0a _))
  (a0y (x0u tie1 rfl m_NoFit e_NoFit e0f)
  b0w)
  b0w)
  (a0y (h0f (b0f (i:=3) a0p.nd rfl (by first | exact Or.inl rfl | exact Or.inr rfl) (b0y g_basis (hr.mono (by decide)) (a0c (pv 2) a0e))))
  (a0y (x0v rfl (c0g rfl B.range_ (a0c (pv 1) a0e)) (a0r (i:=4) a0p.nd rfl (by first | exact Or.inl rfl | exact Or.inr rfl))
  (a0y (k0l (b0n (f0q K) (pv 4) (pv 3) rfl)
  (a0y h0z
  b0w)
  b0w)
  b0w))
  b0w)))),(a0h (e0n a0b (c0c (a0n (a0i rfl) (a0n (a0i rfl) b0r (fun _ _ _=>b0g)) (fun _ _ _=>b0g))))
  (a0h (c0h (a0z (a0s k0r (c0z e0j (a0a a0b a0d)) a0b))
  (a0h (b0e e0l)
  a0w)
  a0w)
  (a0h (b0a (a0m (a0a a0b a0d)) rfl)
  (a0h (c0x (pin:=(fun _=>false)) (c0d (a0a a0b a0d)) (a0i rfl)
  (a0h (c0h (a0z (a0s (y0i true) a0b a0b))
  (a0h c0m
  a0w)
  a0w)
  a0w))
  a0w))))⟩) ?_
 rintro ss q ⟨m,rows,rfl,hl,hq⟩
 refine ⟨rfl,rfl,?_⟩
 refine cutS (fun ρ=>ρ = [.vl (b0l m rows),nv m,.vl (.tup (a0g rows)),.un,.un]) (fun M hM=>hM _ rfl) ?_
 rintro _ rfl
 refine b0j rfl rfl (by simp [D.depth]) (b:=false) ?_ ?_
 ·show eqD (.int (((a0g rows).length:Nat):Int)) (.int (m:Int)) = false
  rw [a0t]
  exact (h0j _ _).trans (decide_eq_false hl)
 ·exact ⟨⟨_,rfl⟩,hq⟩
theorem f0a {C_Leans C_JoinError f_Leans:Addr} (m_Leans:mg "Leans" = some (.ref C_Leans)) (m_JoinError:mg "JoinError" = some (.ref C_JoinError)) (in_Leans:v0x K C_Leans f_Leans "place" "Leans.__init__" e0i ["self", "place"]) (bs_JoinError:v0y K C_JoinError) (dn:DefN K mg "refuse_unplaced" b0v ["wish"]) (B:BI mg) (g_basis:OkN P w K mg base 3 "basis" ["rows"] (spA K l0y)):OkX P w K mg base 4 "refuse_unplaced" ["wish"] C_Leans (some "place") (spA K SUnL):=by
 obtain ⟨fd_Leans,bi_Leans,fi_Leans⟩:=v0o (P:=P) (w:=w) (base:=base) in_Leans bs_JoinError B m_JoinError
 refine dn.aokX (k:=3) a0p (fun j=>j == 0) [.un,.un,.un,.un] SUnL C_Leans (some "place") rfl (fun f cdv A outer s H E hr=>have hu:=d0l hr; ⟨_,(a0y (h0f (e0d (pv 0) (c0u K (n:=2) rfl (a0x (a0r (i:=1) a0p.nd rfl (by first | exact Or.inl rfl | exact Or.inr rfl)) (a0x (a0r (i:=2) a0p.nd rfl (by first | exact Or.inl rfl | exact Or.inr rfl)) c0t)))))
  (a0y (k0l (b0n (k0q K hr.units) (b0d (c0n K) rfl B.len_ g0a (a0c (pv 2) a0e)) (pv 1) (c0a _))
  (a0y h0z
  b0w)
  b0w)
  (a0y (h0f (b0f (i:=3) a0p.nd rfl (by first | exact Or.inl rfl | exact Or.inr rfl) (b0y g_basis (hr.mono (by decide)) (a0c (pv 2) a0e))))
  (a0y (x0v rfl (c0g rfl B.range_ (a0c (pv 1) a0e)) (a0r (i:=4) a0p.nd rfl (by first | exact Or.inl rfl | exact Or.inr rfl))
  (a0y (k0l (b0n (f0q K) (pv 4) (pv 3) rfl)
  (a0y (u0z tie2 rfl m_Leans in_Leans.xi fi_Leans (hr.mono (by decide)) bi_Leans (pv 4))
  b0w)
  b0w)
  b0w))
  b0w)))),(a0h (e0n a0b (c0c (a0n (a0i rfl) (a0n (a0i rfl) b0r (fun _ _ _=>b0g)) (fun _ _ _=>b0g))))
  (a0h (c0h (a0z (a0s k0r (c0z e0j (a0a a0b a0d)) a0b))
  (a0h c0m
  a0w)
  a0w)
  (a0h (b0a (a0m (a0a a0b a0d)) rfl)
  (a0h (c0x (pin:=(fun _=>false)) (c0d (a0a a0b a0d)) (a0i rfl)
  (a0h (c0h (a0z (a0s (y0i true) a0b a0b))
  (a0h (u0x a0b)
  a0w)
  a0w)
  a0w))
  a0w))))⟩) ?_
 rintro ss q ⟨m,rows,p,rfl,hm,L,hq⟩
 have hl:=L.len
 have hlt:=L.lt
 refine ⟨rfl,rfl,?_⟩
 refine cutS (fun ρ=>ρ = [.vl (b0l m rows),nv m,.vl (.tup (a0g rows)),.un,.un]) (fun M hM=>hM _ rfl) ?_
 rintro _ rfl
 refine cutS (fun ρ=>ρ = [.vl (b0l m rows),nv m,.vl (.tup (a0g rows)),.un,.un]) (fun M hM=>b0j rfl rfl (by simp [D.depth]) (b:=true) ?_ (hM _ rfl)) ?_
 ·show eqD (.int (((a0g rows).length:Nat):Int)) (.int (m:Int)) = true
  rw [a0t,hl]; exact d0j _
 rintro _ rfl
 refine cutS (fun ρ=>∃ ls,LOk rows rows.length ls∧ρ = [.vl (b0l m rows),nv m,.vl (.tup (a0g rows)),.ow (a0g (plc ls)),.un]) (fun M hM=>⟨rfl,rows,rfl,by omega,fun ls L=>hM _ ⟨ls,L,rfl⟩⟩) ?_
 rintro _ ⟨ls,LS,rfl⟩
 have pm:∀ i,i ∈ plc ls↔i < rows.length∧¬ Spn (rows.take i) (rows.getD i 0):=fun i=>by
  rw [← LS.pl i]
  unfold plc
  constructor
  ·intro h; obtain ⟨e,he,rfl⟩:=List.mem_map.mp h; exact ⟨e,he,rfl⟩
  ·rintro ⟨e,he,rfl⟩; exact List.mem_map.mpr ⟨e,he,rfl⟩
 refine ⟨⟨by omega,by omega⟩,e0w (fun k ρ=>k ≤ p∧∃ s4,ρ = [.vl (b0l m rows),nv m,.vl (.tup (a0g rows)),.ow (a0g (plc ls)),s4]) (fun _ _ _=>trivial) ?_ (fun ρ ⟨z,_⟩=>absurd z (by omega)) ⟨Nat.zero_le _,.un,rfl⟩⟩
 rintro k _ M hk ⟨hkp,s4,rfl⟩ hM
 rw [Int.zero_add]
 refine d1r (xs:=plc ls) rfl ?_
 by_cases e:k = p
 ·subst e
  have:(plc ls).contains k = false:=Bool.eq_false_iff.mpr fun z=>((pm k).mp (List.contains_iff_mem.mp z)).2 L.yes
  rw [this]
  exact ⟨⟨by omega,by omega⟩,⟨_,rfl⟩,hq⟩
 ·have:(plc ls).contains k = true:=List.contains_iff_mem.mpr ((pm k).mpr ⟨by omega,L.no k (by omega)⟩)
  rw [this]
  exact hM _ ⟨by omega,nv k,rfl⟩
theorem y0j (dn:DefN K mg "placed" d0q ["wish"]) (B:BI mg) (g_refuse_unplaced:OkN P w K mg base 4 "refuse_unplaced" ["wish"] (spA K s0n)) (g_joined:OkN P w K mg base 1 "joined" ["one", "other"] (spA K o0l)):OkN P w K mg base 5 "placed" ["wish"] (spA K s0p):=by
 refine dn.aok2 (k:=4) c0f (fun j=>j == 0) [.un,.un,.un,.un,.un,.un,.un,.un,.un,.un] s0p rfl (fun f cdv A outer s H E hr=>have hu:=d0l hr; ⟨_,(a0f (e0a (b0y g_refuse_unplaced (hr.mono (by decide)) (a0c (pv 0) a0e)))
  (a0f (e0d (pv 0) (c0u K (n:=2) rfl (a0x (a0r (i:=1) c0f.nd rfl (by first | exact Or.inl rfl | exact Or.inr rfl)) (a0x (a0r (i:=2) c0f.nd rfl (by first | exact Or.inl rfl | exact Or.inr rfl)) c0t))))
  (a0f (b0f (i:=3) c0f.nd rfl (by first | exact Or.inl rfl | exact Or.inr rfl) (d0x (i0y K) rfl B.list_ o0j (a0c (pv 2) a0e)))
  (a0f (b0f (i:=4) c0f.nd rfl (by first | exact Or.inl rfl | exact Or.inr rfl) t0m)
  (a0f (b0f (i:=5) c0f.nd rfl (by first | exact Or.inl rfl | exact Or.inr rfl) (e0g a0e))
  (a0f (e0v PassesOwn.never rfl (c0g rfl B.range_ (a0c (pv 1) a0e)) (a0r (i:=6) c0f.nd rfl (by first | exact Or.inl rfl | exact Or.inr rfl))
  (a0f (r0e (i:=7) ["place", "row"] [6] c0f.nd rfl (by first | exact Or.inl rfl | exact Or.inr rfl) rfl (Blk.of (a0j d0q) g0l) (f1g K rfl B.enumerate_ (a0c (pv 3) a0e)) (fun _ _ _ _ nd=>(c0u K (n:=2) rfl (a0x (a0r (i:=0) nd rfl (by first | exact Or.inl rfl | exact Or.inr rfl)) (a0x (a0r (i:=1) nd rfl (by first | exact Or.inl rfl | exact Or.inr rfl)) c0t)))) (fun _ _ _ _=>(r0d (h0y K (b0o i1q (b0o i1p (pv 1) (pv 2)) a0q) (fun _=>rfl)))) (fun _ _ _ _=>(pv 0)))
  (a0f (b0f (i:=8) c0f.nd rfl (by first | exact Or.inl rfl | exact Or.inr rfl) (i0a (d0h K) (n0l ["place"] [4] rfl (Blk.of (a0j d0q) g0l) (g0i K (pv 7)) (fun _ _ _ _ nd=>(a0r (i:=0) nd rfl (by first | exact Or.inl rfl | exact Or.inr rfl))) (fun _ _ _ _=>(r0d (t0g (k0p hu (pv 0) (pv 1))))) (fun _ _ _ _=>(pv 0))) a0q (fun _ _=>rfl)))
  (a0f (i0r hu (pv 4) (pv 8) (pv 6) rfl)
  (a0k (e0v PassesOwn.never rfl (g0i K (pv 7)) (a0r (i:=9) c0f.nd rfl (by first | exact Or.inl rfl | exact Or.inr rfl))
  (a0k (e0s (b0n (k0q K hr.units) (pv 9) (pv 8) (c0a _))
  (a0f (e0d (b0y g_joined (hr.mono (by decide)) (a0c (i0a (d0h K) (pv 3) (pv 8) (fun _ _=>rfl)) (a0c (i0a (d0h K) (pv 3) (pv 9) (fun _ _=>rfl)) a0e))) (t0i (pv 3) (pv 9) j0t))
  (a0k (e0a (k0o K PySem.F.plainAttrs_list PySem.F.slot_list_append PySem.F.type_list_append k0y (pv 5) (a0c (e0e (a0c (pv 8) (a0c (pv 9) a0e))) a0e)))))
  b0x))))))))
  (a0f (r0e (i:=10) ["first", "place"] [4] c0f.nd rfl (by first | exact Or.inl rfl | exact Or.inr rfl) rfl (Blk.of (a0j d0q) g0l) (i1h K rfl B.reversed_ (a0c (pv 5) a0e)) (fun _ _ _ _ nd=>(c0u K (n:=2) rfl (a0x (a0r (i:=0) nd rfl (by first | exact Or.inl rfl | exact Or.inr rfl)) (a0x (a0r (i:=1) nd rfl (by first | exact Or.inl rfl | exact Or.inr rfl)) c0t)))) (fun _ _ _ _=>i0q) (fun _ _ _ _=>(e0e (a0c (e0p hu (pv 2) (pv 0) (fun _ _=>rfl)) (a0c (e0p hu (pv 2) (pv 1) (fun _ _=>rfl)) a0e)))))
  (a0k (b0s (e0e (a0c (pv 10) (a0c (n0l ["place"] [4] rfl (Blk.of (a0j d0q) g0l) (c0g rfl B.range_ (a0c (pv 1) a0e)) (fun _ _ _ _ nd=>(a0r (i:=0) nd rfl (by first | exact Or.inl rfl | exact Or.inr rfl))) (fun _ _ _ _=>i0q) (fun _ _ _ _=>(e0p hu (pv 1) (pv 0) (fun _ _=>rfl)))) a0e)))))))))))),(a0h (d0g (a0m (a0a a0b a0d)))
  (a0h (e0n a0b (c0c (a0n (a0i rfl) (a0n (a0i rfl) b0r (fun _ _ _=>b0g)) (fun _ _ _=>b0g))))
  (a0h (b0a (c0z l0r (a0a a0b a0d)) rfl)
  (a0h (b0a s0x rfl)
  (a0h (b0a (c0w a0d) rfl)
  (a0h (c0x (pin:=(fun _=>false)) (c0d (a0a a0b a0d)) (a0i rfl)
  (a0h (n0e (f0k (w0t (a0a a0b a0d)) (c0c (a0n (a0i rfl) (a0n (a0i rfl) b0r (fun _ _ _=>b0g)) (fun _ _ _=>b0g))) (j0q (a0s c0q (a0s f0r a0b a0b) a0o)) a0b) rfl)
  (a0h (b0a (a0s f0f (f0k (e0t a0b) (a0i rfl) (a0z (u0u a0b a0b)) a0b) a0o) rfl)
  (a0h (s0z a0b a0b a0b)
  (c0x (pin:=(fun j=>j == 7)) (e0t a0b) (a0i rfl)
  (c0h (a0z (a0s k0r a0b a0b))
  (a0h (j0s (a0m (a0a (a0s f0f a0b a0b) (a0a (a0s f0f a0b a0b) a0d))) a0b a0b)
  (d0g (q0v a0b (a0a (d0d (a0a a0b (a0a a0b a0d))) a0d))))
  a0w))))))
  (a0h (n0e (f0k (a1w (a0a a0b a0d)) (c0c (a0n (a0i rfl) (a0n (a0i rfl) b0r (fun _ _ _=>b0g)) (fun _ _ _=>b0g))) g0t (d0d (a0a (j0r a0b a0b) (a0a (j0r a0b a0b) a0d)))) rfl)
  (b0e (d0d (a0a a0b (a0a (f0k (c0d (a0a a0b a0d)) (a0i rfl) g0t (j0r a0b a0b)) a0d)))))))))))⟩) ?_
 rintro ss q ⟨m,rows,rfl,hm,hF,hlt,hq⟩
 have hrl:=hF.len
 refine ⟨rfl,rfl,?_⟩
 refine cutS (fun ρ=>ρ = [.vl (b0l m rows),.un,.un,.un,.un,.un,.un,.un,.un,.un,.un]) (fun M hM=>⟨rfl,m,rows,rfl,hm,hF,hM _ rfl⟩) ?_
 rintro _ rfl
 refine cutS (fun ρ=>ρ = [.vl (b0l m rows),nv m,.vl (.tup (a0g rows)),.un,.un,.un,.un,.un,.un,.un,.un]) (fun M hM=>hM _ rfl) ?_
 rintro _ rfl
 refine cutS (fun ρ=>ρ = [.vl (b0l m rows),nv m,.vl (.tup (a0g rows)),.ow (a0g rows),.un,.un,.un,.un,.un,.un,.un]) (fun M hM=>hM _ rfl) ?_
 rintro _ rfl
 refine cutS (fun ρ=>ρ = [.vl (b0l m rows),nv m,.vl (.tup (a0g rows)),.ow (a0g rows),.dk (chD []),.un,.un,.un,.un,.un,.un]) (fun M hM=>hM _ rfl) ?_
 rintro _ rfl
 refine cutS (fun ρ=>ρ = [.vl (b0l m rows),nv m,.vl (.tup (a0g rows)),.ow (a0g rows),.dk (chD []),.ow [],.un,.un,.un,.un,.un]) (fun M hM=>⟨by simp,hM _ rfl⟩) ?_
 rintro _ rfl
 refine cutS (fun ρ=>∃ held ps und s6 s7 s8 s9,GJ m m rows held ps und∧ρ = [.vl (b0l m rows),nv m,.vl (.tup (a0g rows)),.ow (a0g held),.dk (chD ps),.ow (und.map L2.e0y),s6,s7,s8,s9,.un]) (fun M hM=>⟨⟨by omega,by omega⟩,?_⟩) ?_
 ·rw [Int.toNat_natCast]
  refine e0w (fun g ρ=>∃ held ps und s6 s7 s8 s9,GJ m g rows held ps und∧ρ = [.vl (b0l m rows),nv m,.vl (.tup (a0g rows)),.ow (a0g held),.dk (chD ps),.ow (und.map L2.e0y),s6,s7,s8,s9,.un]) (fun _ _ _=>trivial) ?_ (fun ρ h=>hM ρ h) ⟨rows,[],[],.un,.un,.un,.un,gj0 hF hlt,rfl⟩
  rintro g _ M1 hg ⟨held,ps,und,s6,s7,s8,s9,G,rfl⟩ hM1
  have hl:=G.full.len
  have hul:=G.ul
  have hgm:g * (m - 1) ≤ 11 * 11:=Nat.mul_le_mul (by omega) (by omega)
  have hpl:=G.pl
  rw [Int.zero_add]
  refine cutS (fun ρ=>ρ = [.vl (b0l m rows),nv m,.vl (.tup (a0g rows)),.ow (a0g held),.dk (chD ps),.ow (und.map L2.e0y),nv g,.ow (a0g (hav m g held)),s8,s9,.un]) (fun M2 hM2=>?_) ?_
  ·refine ⟨by rw [f0j,a0t]; omega,?_⟩
   refine i0l (fun k acc ρ=>acc = a0g ((List.range k).filter fun p=>(held.getD p 0).testBit g)∧ρ = [.vl (b0l m rows),nv m,.vl (.tup (a0g rows)),.ow (a0g held),.dk (chD ps),.ow (und.map L2.e0y),nv g,s7,s8,s9,.un]) ?_ ?_ ?_ _ ⟨rfl,rfl⟩
   ·rintro k acc ρ _ ⟨_,rfl⟩; first | rfl | trivial
   ·rintro k d acc _ M3 hk ⟨rfl,rfl⟩ hM3
    obtain ⟨x,ex,rfl⟩:=g0p hk
    rw [Nat.zero_add]
    unfold a0g at ex
    rw [List.getElem?_map] at ex
    obtain ⟨row,et,rfl⟩:=Option.map_eq_some_iff.mp ex
    have eg:held.getD k 0 = row:=by rw [List.getD_eq_getElem?_getD,et]; rfl
    refine e1g ?_
    refine ⟨Int.natCast_nonneg _,?_⟩
    show if (Builtin.bitAnd ((row:Int) / 2 ^ ((g:Int).toNat)) 1 != 0) = true then M3 (a0g ((List.range k).filter fun p=>(held.getD p 0).testBit g) ++ [nD k]) _ else M3 (a0g ((List.range k).filter fun p=>(held.getD p 0).testBit g)) _
    rw [g1o]
    have fs:=u0c (fun p=>(held.getD p 0).testBit g) (List.range k) k
    rw [← List.range_succ] at fs
    simp only [eg] at fs
    cases e:row.testBit g with
    | true=>exact hM3 _ _ ⟨by rw [fs,e]; rfl,rfl⟩
    | false=>exact hM3 _ _ ⟨by rw [fs,e]; rfl,rfl⟩
   ·rintro acc _ ⟨rfl,rfl⟩
    rw [f0j,a0t,hl]
    exact hM2 _ rfl
  rintro _ rfl
  have hhl:(hav m g held).length ≤ m:=by
   unfold hav
   have:=List.length_filter_le (fun p=>(held.getD p 0).testBit g) (List.range m)
   rwa [List.length_range] at this
  refine cutS (fun ρ=>∃ f,f ∈ hav m g held∧f ∉ ps∧ρ = [.vl (b0l m rows),nv m,.vl (.tup (a0g rows)),.ow (a0g held),.dk (chD ps),.ow (und.map L2.e0y),nv g,.ow (a0g (hav m g held)),nv f,s9,.un]) (fun M2 hM2=>?_) ?_
  ·refine ⟨rfl,by rw [a0t]; omega,?_⟩
   refine i0l (fun k acc ρ=>acc = a0g (((hav m g held).take k).filter fun p=>!ps.contains p)∧ρ = [.vl (b0l m rows),nv m,.vl (.tup (a0g rows)),.ow (a0g held),.dk (chD ps),.ow (und.map L2.e0y),nv g,.ow (a0g (hav m g held)),s8,s9,.un]) ?_ ?_ ?_ _ ⟨rfl,rfl⟩
   ·rintro k acc ρ _ ⟨_,rfl⟩; first | rfl | trivial
   ·rintro k d acc _ M3 hk ⟨rfl,rfl⟩ hM3
    unfold a0g at hk
    rw [List.getElem?_map] at hk
    obtain ⟨p,et,rfl⟩:=Option.map_eq_some_iff.mp hk
    have ev:(valD (chD ps) (.inl (p:Int))).isSome = ps.contains p:=by
     by_cases q:p ∈ ps
     ·rw [u0g G.nd q]; simp [q]
     ·rw [g1m q]; simp [q]
    show if (!(valD (chD ps) (.inl (p:Int))).isSome) = true then M3 (a0g (((hav m g held).take k).filter fun p=>!ps.contains p) ++ [nD p]) _ else M3 (a0g (((hav m g held).take k).filter fun p=>!ps.contains p)) _
    rw [ev]
    have fs:=u0c (fun p=>!ps.contains p) ((hav m g held).take k) p
    rw [← g0f et] at fs
    cases e:ps.contains p with
    | true=>exact hM3 _ _ ⟨by rw [fs,e]; rfl,rfl⟩
    | false=>exact hM3 _ _ ⟨by rw [fs,e]; rfl,rfl⟩
   ·rintro acc _ ⟨rfl,rfl⟩
    rw [a0t,List.take_length]
    obtain ⟨p0,hp0,hp1⟩:=G.first hg
    have hm0:p0 ∈ (hav m g held).filter fun p=>!ps.contains p:=List.mem_filter.mpr ⟨hp0,by simp [hp1]⟩
    have hpos:=List.length_pos_of_mem hm0
    have hmf:=List.mem_filter.mp (f0s hpos)
    refine i0j (i:=0) rfl hpos (hM2 _ ⟨_,hmf.1,?_,rfl⟩)
    have:=hmf.2
    simpa using this
  rintro _ ⟨f,hf,hfn,rfl⟩
  obtain ⟨hfm,hfb⟩:=l0b.mp hf
  refine cutS (fun ρ=>ρ = [.vl (b0l m rows),nv m,.vl (.tup (a0g rows)),.ow (a0g held),.dk (chD (ps ++ [f])),.ow (und.map L2.e0y),nv g,.ow (a0g (hav m g held)),nv f,s9,.un]) (fun M2 hM2=>⟨by rw [j1u]; omega,hM2 _ ?_⟩) ?_
  ·have:=j1t hfn
   rw [hpl] at this
   rw [← this]; rfl
  rintro _ rfl
  refine ⟨rfl,f0t nD (fun j ρ=>∃ s9,ρ = [.vl (b0l m rows),nv m,.vl (.tup (a0g rows)),.ow (a0g ((stJ f ((hav m g held).take j)).foldl b0m held)),.dk (chD (ps ++ [f])),.ow ((und ++ stJ f ((hav m g held).take j)).map L2.e0y),nv g,.ow (a0g (hav m g held)),nv f,s9,.un]) (fun k ρ ⟨s9,e⟩=>by subst e; rfl) ?_ ?_ ⟨s9,by simp [stJ]⟩⟩
  ·rintro j x _ M2 hj ⟨s9,rfl⟩ hM2
   have hx:=l0b.mp (List.mem_of_getElem? hj)
   have hjl:=(List.getElem?_eq_some_iff.mp hj).1
   have sl:=e1r f ((hav m g held).take j)
   rw [List.length_take] at sl
   rw [g0f hj,a1z] at hM2
   generalize stJ f ((hav m g held).take j) = st at *
   have hl2:(st.foldl b0m held).length = m:=by rw [a1j]; exact hl
   refine b0j rfl rfl (by simp [D.depth]) (h0j x f) ?_
   by_cases e:x = f
   ·rw [decide_eq_true e]
    rw [if_pos e] at hM2
    exact hM2 _ ⟨nv x,rfl⟩
   ·rw [decide_eq_false e]
    rw [if_neg e] at hM2
    refine i0j rfl (by omega) (i0j rfl (by omega) ⟨rfl,_,_,rfl,j0u (by rw [a0t]; omega) ⟨by simp,by rw [List.length_map,List.length_append]; omega,hM2 _ ⟨nv x,?_⟩⟩⟩)
    rw [List.foldl_append,← List.append_assoc,List.map_append (l₁:=und ++ st)]
    show _ = [_,_,_,Sv.ow (a0g ((st.foldl b0m held).set x ((st.foldl b0m held).getD f 0 ^^^ (st.foldl b0m held).getD x 0))),_,_,_,_,_,_,_]
    rw [← i0e]; rfl
  ·rintro _ ⟨s9,rfl⟩
   rw [List.take_length]
   exact hM1 _ ⟨_,_,_,_,_,_,_,G.next hg hf hfn,rfl⟩
 rintro _ ⟨held,ps,und,s6,s7,s8,s9,G,rfl⟩
 have hul:=G.ul
 have hgm:m * (m - 1) ≤ 12 * 11:=Nat.mul_le_mul (by omega) (by omega)
 refine cutS (fun ρ=>ρ = [.vl (b0l m rows),nv m,.vl (.tup (a0g rows)),.ow (a0g held),.dk (chD ps),.ow (und.map L2.e0y),s6,s7,s8,s9,.ow ((stp ps und).map L2.e0y)]) (fun M hM=>?_) ?_
 ·refine ⟨by rw [List.length_reverse,List.length_map]; omega,?_⟩
  rw [← List.map_reverse]
  refine q0j L2.e0y (fun s=>L2.e0y (chn ps s.1,chn ps s.2)) ?_ (fun s acc M3 hs hM3=>?_) (hM _ ?_)
  ·first | rfl | trivial
  ·obtain ⟨o1,o2,_⟩:=G.ok s (List.mem_reverse.mp hs)
   refine e1g ?_
   exact k0b rfl (u0g G.nd (G.all o1)) (k0b rfl (u0g G.nd (G.all o2)) ⟨by simp,hM3⟩)
  ·unfold stp; rw [List.map_map]; rfl
 rintro _ rfl
 refine ⟨⟨by omega,by omega⟩,by rw [d0r]; omega,?_⟩
 rw [Int.toNat_natCast]
 refine l0p (fun p=>nD (chn ps p)) trivial (fun p acc M3 hp hM3=>?_) ⟨by simp,?_⟩
 ·rw [Int.zero_add]
  exact k0b rfl (u0g G.nd (G.all hp)) hM3
 ·have:=hq held ps und G
  unfold a0g at this
  rw [List.map_map] at this
  exact this
theorem j0i {C_NoFit:Addr} (m_NoFit:mg "NoFit" = some (.ref C_NoFit)) (e_NoFit:PySem.W.excIn K C_NoFit bmV "ValueError.__new__" = true) (dn:DefN K mg "placed" d0q ["wish"]) (B:BI mg) (x_refuse_unplaced_NoFit:OkX P w K mg base 4 "refuse_unplaced" ["wish"] C_NoFit none (spA K SUnF)):OkX P w K mg base 5 "placed" ["wish"] C_NoFit none (spA K SUnF):=by
 refine dn.aokX (k:=4) c0f (fun j=>j == 0) [.un,.un,.un,.un,.un,.un,.un,.un,.un,.un] SUnF C_NoFit none rfl (fun f cdv A outer s H E hr=>have hu:=d0l hr; ⟨_,(a0y (j0x x_refuse_unplaced_NoFit (hr.mono (by decide)) b1m (a0c (pv 0) a0e))
  f0e),(a0h (b0e (a0m (a0a a0b a0d)))
  c0m)⟩) ?_
 rintro ss q ⟨m,rows,rfl,hl,hq⟩
 refine ⟨rfl,rfl,?_⟩
 exact ⟨rfl,m,rows,rfl,hl,⟨_,rfl⟩,hq⟩
theorem j0j {C_Leans C_JoinError f_Leans:Addr} (m_Leans:mg "Leans" = some (.ref C_Leans)) (m_JoinError:mg "JoinError" = some (.ref C_JoinError)) (in_Leans:v0x K C_Leans f_Leans "place" "Leans.__init__" e0i ["self", "place"]) (bs_JoinError:v0y K C_JoinError) (dn:DefN K mg "placed" d0q ["wish"]) (B:BI mg) (x_refuse_unplaced_Leans:OkX P w K mg base 4 "refuse_unplaced" ["wish"] C_Leans (some "place") (spA K SUnL)):OkX P w K mg base 5 "placed" ["wish"] C_Leans (some "place") (spA K SUnL):=by
 refine dn.aokX (k:=4) c0f (fun j=>j == 0) [.un,.un,.un,.un,.un,.un,.un,.un,.un,.un] SUnL C_Leans (some "place") rfl (fun f cdv A outer s H E hr=>have hu:=d0l hr; ⟨_,(a0y (j0x x_refuse_unplaced_Leans (hr.mono (by decide)) b1m (a0c (pv 0) a0e))
  f0e),(a0h (b0e (a0m (a0a a0b a0d)))
  c0m)⟩) ?_
 rintro ss q ⟨m,rows,p,rfl,hm,L,hq⟩
 refine ⟨rfl,rfl,?_⟩
 exact ⟨rfl,m,rows,p,rfl,hm,L,⟨_,rfl⟩,hq⟩
end
def h1a:ASp:=fun ss q=>∃ n m:Nat,ss = [.tp n,nv m]∧n ≤ 1000000∧1 ≤ m∧m ≤ 12∧∀ (rows:List Nat) (n':Nat),Full m rows→(∀ p,rows.getD p 0 < 2 ^ m)→n' ≤ n + 1000→q (.f (a0g rows)) [.tp n',nv m]
theorem d1l {a x m:Nat} (ha:a < m) (hx:x + 1 < m):(a + 1 + x) % m ≠ a∧(a + 1 + x) % m < m:=by
 refine ⟨?_,Nat.mod_lt _ (by omega)⟩
 by_cases h:a + 1 + x < m
 ·rw [Nat.mod_eq_of_lt h]; omega
 ·rw [Nat.mod_eq_sub_mod (by omega),Nat.mod_eq_of_lt (by omega)]; omega
theorem a1y {m:Nat} {cells:List Nat} {p:Nat × Nat} (h:∀ i,cells.getD i 0 < 2 ^ m) (hp:g0b m p) (hl:cells.length = m):∀ i,(b0m cells p).getD i 0 < 2 ^ m:=fun i=>by
 unfold b0m
 by_cases e:p.2 = i
 ·subst e
  rw [d0i (by rw [hl]; exact hp.2.1)]
  exact Nat.xor_lt_two_pow (h _) (h _)
 ·rw [e0r e]; exact h i
theorem y0o {xs:List Nat} {b:Nat} (hb:0 < b) (h:∀ x ∈ xs,x < b) (p:Nat):xs.getD p 0 < b:=by
 by_cases hp:p < xs.length
 ·exact h _ (f0s hp)
 ·rw [List.getD_eq_getElem?_getD,List.getElem?_eq_none (by omega)]; exact hb
def h1c:ASp:=fun ss q=>∃ m:Nat,ss = [nv m]∧m ≤ 3∧q (.f ((allS m).map L2.e0y)) [nv m]
def g1v:ASp:=fun ss q=>∃ (c:List Nat) (p:Nat × Nat),ss = [.vl (tupN c),nv p.1,nv p.2]∧p.1 < c.length∧p.2 < c.length∧c.length ≤ 100∧q (.d (tupN (b0m c p))) [.vl (tupN c),nv p.1,nv p.2]
def g1y:ASp:=fun ss q=>∃ m k:Nat,1 ≤ m∧m ≤ 3∧k + 1 < (CB m).length∧ss = [nv m,.ow ((RB m k).map tupN),.dt (dtW ((TB m).take ((CB m).getD k 0)))]∧q (.f ((RB m (k + 1)).map tupN)) [nv m,.ow ((RB m k).map tupN),.dt (dtW ((TB m).take ((CB m).getD (k + 1) 0)))]
def SFew:ASp:=fun ss q=>∃ (m:Nat) (rows:List Nat) (wy:List (Nat × Nat)),1 ≤ m∧m ≤ 3∧lkT (TB m) rows = some wy∧ss = [.vl (b0l m rows)]∧q (.d (wyD wy)) [.vl (b0l m rows)]
theorem c1x {m:Nat} (h1:1 ≤ m) (h3:m ≤ 3):(TB m).length ≤ 168:=by
 match m,h1,h3 with
 | 1,_,_=>decide
 | 2,_,_=>decide
 | 3,_,_=>decide
theorem h1p {m:Nat} (h1:1 ≤ m) (h3:m ≤ 3):∀ e ∈ TB m,e.2.length ≤ 10:=by
 match m,h1,h3 with
 | 1,_,_=>decide
 | 2,_,_=>decide
 | 3,_,_=>decide
theorem j1v {m:Nat} (h1:1 ≤ m) (h3:m ≤ 3):∀ x ∈ CB m,x ≤ (TB m).length:=by
 match m,h1,h3 with
 | 1,_,_=>decide
 | 2,_,_=>decide
 | 3,_,_=>decide
theorem j1w {m:Nat} (h1:1 ≤ m) (h3:m ≤ 3) (k:Nat):(CB m).getD k 0 ≤ (TB m).length:=by
 by_cases h:k < (CB m).length
 ·exact j1v h1 h3 _ (f0s h)
 ·rw [List.getD_eq_getElem?_getD,List.getElem?_eq_none (by omega)]; exact Nat.zero_le _
theorem j1g {t:TT} {c:List Nat} (h:ixT t c < t.length):∃ w,lkT t c = some w:=⟨_,by rw [p0s,List.getElem?_eq_getElem h]; rfl⟩
theorem k1x {m:Nat} (h1:1 ≤ m) (h3:m ≤ 3):∀ k,k + 1 < (CB m).length→(CB m).getD k 0 < (CB m).getD (k + 1) 0:=by
 match m,h1,h3 with
 | 1,_,_=>exact fun k hk=>absurd hk (by show ¬ (k + 1 < 1); omega)
 | 2,_,_=>exact fun k hk=>(by decide:∀ k,k < 3→(CB 2).getD k 0 < (CB 2).getD (k + 1) 0) k (by have:k + 1 < 4:=hk; omega)
 | 3,_,_=>exact fun k hk=>(by decide:∀ k,k < 6→(CB 3).getD k 0 < (CB 3).getD (k + 1) 0) k (by have:k + 1 < 7:=hk; omega)
def h1b:ASp:=fun ss q=>∃ (m:Nat) (rows:List Nat),ss = [.vl (b0l m rows)]∧m ≤ 12∧3 < m∧Full m rows∧q (.d .non) [.vl (b0l m rows)]
section
variable {P:Program} {w:World} {K:PySem.W.Frag} {mg:Str→Option Value} {base:Heap}
theorem j0k (dn:DefN K mg "_law_free_rows" c0s ["_law_tape_here", "_law_many"]) (B:BI mg) (g_law_draw:OkN P w K mg base 1 "_law_draw" ["_law_tape_here", "_law_many"] (spA K a1m)):OkN P w K mg base 2 "_law_free_rows" ["_law_tape_here", "_law_many"] (spA K h1a):=by
 refine dn.aok2 (k:=1) b0p (fun j=>j == 0 || j == 1) [.un,.un,.un,.un,.un,.un] h1a rfl (fun f cdv A outer s H E hr=>have hu:=d0l hr; ⟨_,(a0f (r0e (i:=2) ["_law_k"] [] b0p.nd rfl (by first | exact Or.inl rfl | exact Or.inr rfl) rfl (Blk.of (a0j c0s) f0z) (c0g rfl B.range_ (a0c (pv 1) a0e)) (fun _ _ _ _ nd=>(a0r (i:=0) nd rfl (by first | exact Or.inl rfl | exact Or.inr rfl))) (fun _ _ _ _=>i0q) (fun _ _ _ _=>(b0o t0q a0q (pv 0))))
  (a0f (e0v PassesOwn.never rfl (c0g rfl B.range_ (a0c (b0o j0c (b0y g_law_draw (hr.mono (by decide)) (a0c (pv 0) (a0c (b0o j0c a0q (pv 1)) a0e))) (d0x q0m rfl B.int_ a1b (a0c (k0n m0d (pv 1) a0q (c0a _)) a0e))) a0e)) (a0r (i:=3) b0p.nd rfl (by first | exact Or.inl rfl | exact Or.inr rfl))
  (a0f (b0f (i:=4) b0p.nd rfl (by first | exact Or.inl rfl | exact Or.inr rfl) (b0y g_law_draw (hr.mono (by decide)) (a0c (pv 0) (a0c (pv 1) a0e))))
  (a0f (b0f (i:=5) b0p.nd rfl (by first | exact Or.inl rfl | exact Or.inr rfl) (b0o j0d (b0o g0j (b0o g0j (pv 4) a0q) (b0y g_law_draw (hr.mono (by decide)) (a0c (pv 0) (a0c (b0o t0p (pv 1) a0q) a0e)))) (pv 1)))
  (a0k (e0d (b0o p0c (i0a (d0h K) (pv 2) (pv 5) (fun _ _=>rfl)) (i0a (d0h K) (pv 2) (pv 4) (fun _ _=>rfl))) (t0i (pv 2) (pv 5) j0t))))))
  (a0f (b0f (i:=6) b0p.nd rfl (by first | exact Or.inl rfl | exact Or.inr rfl) (e0g a0e))
  (a0f (e0v PassesOwn.never rfl (g0i K (pv 2)) (a0r (i:=7) b0p.nd rfl (by first | exact Or.inl rfl | exact Or.inr rfl))
  (a0k (e0a (k0o K PySem.F.plainAttrs_list PySem.F.slot_list_insert PySem.F.type_list_insert p0q (pv 6) (a0c (b0y g_law_draw (hr.mono (by decide)) (a0c (pv 0) (a0c (b0o g0j (b0d (c0n K) rfl B.len_ g0a (a0c (pv 6) a0e)) a0q) a0e))) (a0c (pv 7) a0e))))))
  (a0k (b0s (pv 6))))))),(a0h (n0e (f0k (c0d (a0a a0b a0d)) (a0i rfl) g0t (a0s f0r a0o a0b)) rfl)
  (a0h (c0x (pin:=(fun _=>false)) (c0d (a0a (a0s f0r (a0m (a0a a0b (a0a (a0s f0r a0o a0b) a0d))) (c0z u0i (a0a (a0s g0k a0b a0o) a0d))) a0d)) (a0i rfl)
  (a0h (b0a (a0m (a0a a0b (a0a a0b a0d))) rfl)
  (a0h (b0a (a0s f0r (a0s c0q (a0s c0q a0b a0o) (a0m (a0a a0b (a0a (a0s c0q a0b a0o) a0d)))) a0b) rfl)
  (j0s (a0s c0q (a0s f0f a0b a0b) (a0s f0f a0b a0b)) a0b a0b))))
  (a0h (b0a (c0w a0d) rfl)
  (a0h (c0x (pin:=(fun j=>j == 2)) (e0t a0b) (a0i rfl)
  (d0g (w0n a0b (a0a (a0m (a0a a0b (a0a (a0s c0q (c0z e0j (a0a a0b a0d)) a0o) a0d))) (a0a a0b a0d)))))
  (b0e a0b)))))⟩) ?_
 rintro ss q ⟨n,m,rfl,hn,h1,h2,hq⟩
 refine ⟨rfl,rfl,?_⟩
 refine cutS (fun ρ=>ρ = [.tp n,nv m,.ow (a0g (b0t m)),.un,.un,.un,.un,.un]) (fun M hM=>⟨⟨by omega,by omega⟩,by rw [d0r]; omega,?_⟩) ?_
 ·rw [Int.toNat_natCast]
  refine l0p (fun k=>nD (1 <<< k)) trivial (fun k acc M3 hk hM3=>?_) (hM _ ?_)
  ·rw [Int.zero_add]
   refine ⟨⟨by omega,by omega,by decide⟩,?_⟩
   exact (congrArg (fun z=>M3 (acc ++ [D.int z]) _) (n0g k)).mpr hM3
  ·unfold b0t a0g; rw [List.map_map]; rfl
 rintro _ rfl
 have i0b:∀ p,(b0t m).getD p 0 < 2 ^ m:=y0o (Nat.two_pow_pos m) fun x hx=>by
  unfold b0t at hx
  obtain ⟨k,hk,rfl⟩:=List.mem_map.mp hx
  rw [Nat.shiftLeft_eq,Nat.one_mul]
  exact Nat.pow_lt_pow_right (by decide) (List.mem_range.mp hk)
 refine cutS (fun ρ=>∃ held n' s3 s4 s5,Full m held∧(∀ p,held.getD p 0 < 2 ^ m)∧n' ≤ n + 400∧ρ = [.tp n',nv m,.ow (a0g held),s3,s4,s5,.un,.un]) (fun M hM=>⟨.inl ⟨by decide,by decide⟩,rfl,n,(12:Int) * (m:Int),rfl,by omega,Dv.small (by omega) (by omega),fun r hr=>⟨.inl ⟨by omega,by omega⟩,?_⟩⟩) ?_
 ·generalize hT:(r:Int) * (if decide ((1:Int) < (m:Int)) = true then 1 else 0) = T
  have hT2:T ≤ 144∧0 ≤ T∧(0 < T→1 < m):=by
   by_cases z:decide ((1:Int) < (m:Int)) = true
   ·rw [if_pos z] at hT; rw [decide_eq_true_eq] at z; omega
   ·rw [if_neg z] at hT; omega
  obtain ⟨hT3,hT4,hT5⟩:=hT2
  refine ⟨⟨by omega,by omega⟩,e0w (fun k ρ=>∃ held n' s3 s4 s5,Full m held∧(∀ p,held.getD p 0 < 2 ^ m)∧n' ≤ n + 1 + 2 * k∧ρ = [.tp n',nv m,.ow (a0g held),s3,s4,s5,.un,.un]) (fun _ _ _=>trivial) ?_ ?_ ⟨b0t m,n + 1,.un,.un,.un,u0a m,i0b,by omega,rfl⟩⟩
  ·rintro k _ M1 hk ⟨held,n0,s3,s4,s5,hF,hlt,hn0,rfl⟩ hM1
   have hm1:1 < m:=hT5 (by omega)
   have hl:=hF.len
   refine cutS (fun ρ=>∃ a:Nat,a < m∧ρ = [.tp (n0 + 1),nv m,.ow (a0g held),.vl (.int (0 + (k:Int))),nv a,s5,.un,.un]) (fun M2 hM2=>⟨rfl,n0,m,rfl,by omega,Dv.small (by omega) (by omega),fun a ha=>hM2 _ ⟨a,by omega,rfl⟩⟩) ?_
   rintro _ ⟨a,ha,rfl⟩
   refine cutS (fun ρ=>∃ b:Nat,b < m∧b ≠ a∧ρ = [.tp (n0 + 2),nv m,.ow (a0g held),.vl (.int (0 + (k:Int))),nv a,nv b,.un,.un]) (fun M2 hM2=>⟨rfl,n0 + 1,(m:Int) - 1,rfl,by omega,Dv.small (by omega) (by omega),fun x hx=>⟨(by omega:(0:Int) < (m:Int)),hM2 _ ⟨(a + 1 + x) % m,(d1l ha (by omega)).2,(d1l ha (by omega)).1,?_⟩⟩⟩) ?_
   ·have e:((a:Int) + 1 + (x:Int)) % (m:Int) = (((a + 1 + x) % m:Nat):Int):=by
     rw [Int.natCast_emod]; rfl
    rw [← v0d e]; rfl
   rintro _ ⟨b,hb,hba,rfl⟩
   refine i0j rfl (by omega) (i0j rfl (by omega) (j0u (by rw [a0t]; omega) (hM1 _ ⟨b0m held (a,b),n0 + 2,.vl (.int (0 + (k:Int))),nv a,nv b,q0f hF ⟨ha,hb,Ne.symm hba⟩,a1y hlt ⟨ha,hb,Ne.symm hba⟩ hl,by omega,?_⟩)))
   unfold b0m
   rw [← i0e,Nat.xor_comm]
   show [_,_,Sv.ow ((a0g held).set b (.int (Builtin.bitXor ((held.getD b 0:Nat):Int) ((held.getD a 0:Nat):Int)))),_,_,_,_,_] = _
   rw [g0e]
  ·rintro _ ⟨held,n',s3,s4,s5,hF,hlt,hn',rfl⟩
   exact hM _ ⟨held,n',s3,s4,s5,hF,hlt,by omega,rfl⟩
 rintro _ ⟨held,n1,s3,s4,s5,hF,hlt,hn1,rfl⟩
 have hl:=hF.len
 refine cutS (fun ρ=>ρ = [.tp n1,nv m,.ow (a0g held),s3,s4,s5,.ow [],.un]) (fun M hM=>⟨by simp,hM _ rfl⟩) ?_
 rintro _ rfl
 refine cutS (fun ρ=>∃ found n2 s7,found.length = m∧(∀ x ∈ held,x ∈ found)∧(∀ x ∈ found,x < 2 ^ m)∧n2 ≤ n1 + 100∧ρ = [.tp n2,nv m,.ow (a0g held),s3,s4,s5,.ow (a0g found),s7]) (fun M hM=>⟨rfl,f0t nD (fun k ρ=>∃ found n2 s7,found.length = k∧(∀ x ∈ held.take k,x ∈ found)∧(∀ x ∈ found,x < 2 ^ m)∧n2 ≤ n1 + k∧ρ = [.tp n2,nv m,.ow (a0g held),s3,s4,s5,.ow (a0g found),s7]) ?_ ?_ ?_ ⟨[],n1,.un,rfl,(fun x hx=>nomatch hx),(fun x hx=>nomatch hx),by omega,rfl⟩⟩) ?_
 ·rintro k ρ ⟨found,n2,s7,_,_,_,_,rfl⟩; rfl
 ·rintro k row _ M1 hk ⟨found,n2,s7,hfl,hin,hfl2,hn2,rfl⟩ hM1
  have hk':=(List.getElem?_eq_some_iff.mp hk).1
  have hrow:row < 2 ^ m:=by
   have:=hlt k
   rwa [List.getD_eq_getElem?_getD,hk] at this
  refine ⟨rfl,n2,(((a0g found).length:Nat):Int) + 1,rfl,by omega,by rw [a0t]; exact Dv.small (by omega) (by omega),fun r hr=>⟨r,rfl,by rw [a0t] at hr ⊢; omega,by rw [a0t]; omega,hM1 _ ⟨found.take r ++ row :: found.drop r,n2 + 1,nv row,?_,fun x hx=>?_,fun x hx=>?_,by omega,?_⟩⟩⟩
  ·rw [a0t] at hr
   rw [List.length_append,List.length_take,List.length_cons,List.length_drop]; omega
  ·rw [g0f hk] at hx
   rcases List.mem_append.mp hx with hx | hx
   ·have:=hin x hx
    rw [← List.take_append_drop r found] at this
    rcases List.mem_append.mp this with z | z
    ·exact List.mem_append.mpr (.inl z)
    ·exact List.mem_append.mpr (.inr (.tail _ z))
   ·rw [List.mem_singleton.mp hx]
    exact List.mem_append.mpr (.inr (.head _))
  ·rcases List.mem_append.mp hx with z | z
   ·exact hfl2 x (List.mem_of_mem_take z)
   ·rcases List.mem_cons.mp z with z | z
    ·rw [z]; exact hrow
    ·exact hfl2 x (List.mem_of_mem_drop z)
  ·unfold a0g; rw [List.map_append,List.map_cons,List.map_take,List.map_drop]; rfl
 ·rintro _ ⟨found,n2,s7,hfl,hin,hfl2,hn2,rfl⟩
  rw [List.take_length] at hin
  exact hM _ ⟨found,n2,s7,by omega,hin,hfl2,by omega,rfl⟩
 rintro _ ⟨found,n2,s7,hfl,hin,hfl2,hn2,rfl⟩
 exact hq found n2 (c1h hF hfl hin) (y0o (Nat.two_pow_pos m) hfl2) (by omega)
theorem p0i (dn:DefN K mg "all_steps" e0o ["many"]) (B:BI mg):OkN P w K mg base 1 "all_steps" ["many"] (spA K h1c):=by
 refine dn.aok2 (k:=0) o0z (fun j=>j == 0) [] h1c rfl (fun f cdv A outer s H E hr=>have hu:=d0l hr; ⟨_,(a0k (b0s (b1k ["b", "a"] [0] rfl (Blk.of (a0j e0o) j0g) (c0g rfl B.range_ (a0c (pv 0) a0e)) (fun _ _ _ _ nd=>(a0r (i:=1) nd rfl (by first | exact Or.inl rfl | exact Or.inr rfl))) (fun _ _ _ _=>i0q) (fun _ _ _ _=>(c0g rfl B.range_ (a0c (pv 2) a0e))) (fun _ _ _ _ nd=>(a0r (i:=0) nd rfl (by first | exact Or.inl rfl | exact Or.inr rfl))) (fun _ _ _ _=>(r0d (b0n (k0q K hr.units) (pv 1) (pv 0) (c0a _)))) (fun _ _ _ _=>(e0e (a0c (pv 1) (a0c (pv 0) a0e))))))),(b0e (w0q (n2:=1) (c0d (a0a a0b a0d)) (a0i rfl) g0t (c0d (a0a a0b a0d)) (a0i rfl) (a0z (a0s k0r a0b a0b)) (d0d (a0a a0b (a0a a0b a0d)))))⟩) ?_
 rintro ss q ⟨m,rfl,hm,hq⟩
 refine ⟨rfl,rfl,⟨by omega,by omega⟩,?_⟩
 rw [Int.toNat_natCast]
 refine z0v (fun i acc ρ=>acc = (((List.range i).flatMap fun a=>((List.range m).filter fun b=>!(a == b)).map fun b=>(a,b)).map L2.e0y)∧acc.length ≤ i * 3∧ρ = [nv m]) ?_ ?_ ?_ _ ⟨rfl,by simp,rfl⟩
 ·rintro i acc ρ hi ⟨_,hl,rfl⟩
  rw [d0r] at hi
  exact ⟨trivial,by omega⟩
 ·rintro i d acc _ N hi ⟨ha,hl,rfl⟩ hN
  obtain ⟨lt,rfl⟩:=j0w hi
  rw [Int.zero_add]
  refine ⟨⟨by omega,by omega⟩,?_⟩
  rw [Int.toNat_natCast]
  refine z0u (fun j ac ρ=>ac = acc ++ (((List.range j).filter fun b=>!(i == b)).map fun b=>(i,b)).map L2.e0y∧ac.length ≤ i * 3 + j∧ρ = [.un,nv i,nv m]) ?_ ?_ ?_ _ _ ⟨by simp,by omega,rfl⟩
  ·rintro j ac ρ hj ⟨_,hl2,rfl⟩
   rw [d0r] at hj
   exact ⟨trivial,by omega⟩
  ·rintro j d ac _ N2 hj ⟨rfl,hl2,rfl⟩ hN2
   obtain ⟨lt2,rfl⟩:=j0w hj
   rw [Int.zero_add]
   refine b0j rfl rfl (by simp [D.depth]) (h0j i j) ?_
   rw [List.range_succ,List.filter_append,List.map_append,List.map_append,← List.append_assoc] at hN2
   by_cases e:i = j
   ·rw [decide_eq_true e]
    refine hN2 _ _ ⟨?_,by omega,rfl⟩
    simp [e]
   ·rw [decide_eq_false e]
    refine ⟨by simp,hN2 _ _ ⟨?_,?_,rfl⟩⟩
    ·simp [e]
    ·rw [List.length_append]; simp at hl2 ⊢; omega
  ·rintro ac _ ⟨rfl,hl2,rfl⟩
   rw [d0r] at hl2 ⊢
   refine hN _ _ ⟨?_,by omega,rfl⟩
   rw [List.range_succ,List.flatMap_append,List.map_append,ha]
   simp
 ·rintro acc _ ⟨rfl,_,rfl⟩
  rw [d0r]
  exact hq
theorem p0e (dn:DefN K mg "with_step" f0m ["cells", "a", "b"]) (B:BI mg) (g_joined:OkN P w K mg base 1 "joined" ["one", "other"] (spA K o0l)):OkN P w K mg base 2 "with_step" ["cells", "a", "b"] (spA K g1v):=by
 refine dn.aok2 (k:=1) j0a (fun j=>j == 0 || j == 1 || j == 2) [.un] g1v rfl (fun f cdv A outer s H E hr=>have hu:=d0l hr; ⟨_,(a0f (b0f (i:=3) j0a.nd rfl (by first | exact Or.inl rfl | exact Or.inr rfl) (d0x (i0y K) rfl B.list_ o0j (a0c (pv 0) a0e)))
  (a0f (e0d (b0y g_joined (hr.mono (by decide)) (a0c (i0a (d0h K) (pv 0) (pv 1) (fun _ _=>rfl)) (a0c (i0a (d0h K) (pv 0) (pv 2) (fun _ _=>rfl)) a0e))) (t0i (pv 3) (pv 2) j0t))
  (a0k (b0s (d0x (h0p K) rfl B.tuple_ o0i (a0c (pv 3) a0e)))))),(a0h (b0a (c0z l0r (a0a a0b a0d)) rfl)
  (a0h (j0s (a0m (a0a (a0s f0f a0b a0b) (a0a (a0s f0f a0b a0b) a0d))) a0b a0b)
  (b0e (c0z i0x (a0a a0b a0d)))))⟩) ?_
 rintro ss q ⟨c,p,rfl,h1,h2,h3,hq⟩
 refine ⟨rfl,rfl,?_⟩
 refine cutS (fun ρ=>ρ = [.vl (tupN c),nv p.1,nv p.2,.ow (a0g c)]) (fun M hM=>hM _ rfl) ?_
 rintro _ rfl
 refine cutS (fun ρ=>ρ = [.vl (tupN c),nv p.1,nv p.2,.ow (a0g (b0m c p))]) (fun M hM=>c1e rfl (i0p h1) (c1e rfl (i0p h2) ⟨rfl,_,_,rfl,j0u (by rw [a0t]; omega) (hM _ ?_)⟩)) ?_
 ·unfold b0m
  rw [← i0e]; rfl
 rintro _ rfl
 exact hq
theorem k0t (dn:DefN K mg "reached_next" d0p ["many", "reached", "ways"]) (B:BI mg) (g_all_steps:OkN P w K mg base 1 "all_steps" ["many"] (spA K h1c)) (g_with_step:OkN P w K mg base 2 "with_step" ["cells", "a", "b"] (spA K g1v)):OkN P w K mg base 3 "reached_next" ["many", "reached", "ways"] (spA K g1y):=by
 refine dn.aok2 (k:=2) c0e (fun j=>j == 0 || j == 1 || j == 2) [.un,.un,.un,.un,.un] g1y rfl (fun f cdv A outer s H E hr=>have hu:=d0l hr; ⟨_,(a0f (b0f (i:=3) c0e.nd rfl (by first | exact Or.inl rfl | exact Or.inr rfl) (e0g a0e))
  (a0f (e0v PassesOwn.never rfl (g0i K (pv 1)) (a0r (i:=4) c0e.nd rfl (by first | exact Or.inl rfl | exact Or.inr rfl))
  (a0k (e0v PassesOwn.never rfl (g0i K (b0y g_all_steps (hr.mono (by decide)) (a0c (pv 0) a0e))) (c0u K (n:=2) rfl (a0x (a0r (i:=5) c0e.nd rfl (by first | exact Or.inl rfl | exact Or.inr rfl)) (a0x (a0r (i:=6) c0e.nd rfl (by first | exact Or.inl rfl | exact Or.inr rfl)) c0t)))
  (a0f (b0f (i:=7) c0e.nd rfl (by first | exact Or.inl rfl | exact Or.inr rfl) (b0y g_with_step (hr.mono (by decide)) (a0c (pv 4) (a0c (pv 5) (a0c (pv 6) a0e)))))
  (a0k (e0s (t0g (k0p hu (pv 7) (pv 2)))
  (a0f (i0r hu (pv 2) (pv 7) (b0o (n0n K) (e0p hu (pv 2) (pv 4) (fun _ _=>rfl)) (e0g (a0c (e0e (a0c (pv 5) (a0c (pv 6) a0e))) a0e))) rfl)
  (a0k (e0a (k0o K PySem.F.plainAttrs_list PySem.F.slot_list_append PySem.F.type_list_append k0y (pv 3) (a0c (pv 7) a0e)))))
  b0x))))))
  (a0k (b0s (pv 3))))),(a0h (b0a (c0w a0d) rfl)
  (a0h (c0x (pin:=(fun j=>j == 1)) (e0t a0b) (a0i rfl)
  (c0x (pin:=(fun _=>false)) (e0t (a0m (a0a a0b a0d))) (c0c (a0n (a0i rfl) (a0n (a0i rfl) b0r (fun _ _ _=>b0g)) (fun _ _ _=>b0g)))
  (a0h (b0a (a0m (a0a a0b (a0a a0b (a0a a0b a0d)))) rfl)
  (c0h (a0z (k0e a0b a0b))
  (a0h (x0f (a0s n0o (o0r a0b a0b) (c0w (a0a (d0d (a0a a0b (a0a a0b a0d))) a0d))) a0b a0b)
  (d0g (q0v a0b (a0a a0b a0d))))
  a0w))))
  (b0e a0b)))⟩) ?_
 rintro ss q ⟨m,k,h1,h3,hk,rfl,hq⟩
 have R:=i1a h1 h3 hk
 unfold okB at R
 rw [decide_eq_true_eq] at R
 have tl:=c1x h1 h3
 have twl:=h1p h1 h3
 have c0l:=j1w h1 h3 k
 have F:=fct h1 h3
 have eR:RB m (k + 1) = nwl (TB m) ((CB m).getD k 0) ((CB m).getD (k + 1) 0):=by unfold RB nwl; rw [if_neg (by omega)]; rfl
 have hcl:∀ c ∈ RB m k,c.length = m:=fun c hc=>by
  unfold RB at hc
  obtain ⟨e,he,rfl⟩:=List.mem_map.mp hc
  exact F.ln e (List.mem_of_mem_take (List.mem_of_mem_drop he))
 rw [eR] at hq
 clear eR
 generalize (CB m).getD k 0 = c0 at *
 generalize (CB m).getD (k + 1) 0 = c1 at *
 generalize RB m k = rb at *
 generalize TB m = t at *
 have ntl:∀ n,(nwl t c0 n).length ≤ 168:=fun n=>by
  unfold nwl
  rw [List.length_map,List.length_drop,List.length_take]; omega
 have dtl:∀ n,(dtW (t.take n)).length ≤ 168:=fun n=>by rw [s0e,List.length_take]; omega
 refine ⟨rfl,rfl,?_⟩
 refine cutS (fun ρ=>ρ = [nv m,.ow (rb.map tupN),.dt (dtW (t.take c0)),.ow [],.un,.un,.un,.un]) (fun M hM=>⟨by simp,hM _ rfl⟩) ?_
 rintro _ rfl
 refine cutS (fun ρ=>∃ s4 s5 s6 s7,ρ = [nv m,.ow (rb.map tupN),.dt (dtW (t.take c1)),.ow ((nwl t c0 c1).map tupN),s4,s5,s6,s7]) (fun M hM=>⟨rfl,f0t tupN (fun i ρ=>∃ n s4 s5 s6 s7,(rb.take i).foldl (advC m t) (some c0) = some n∧c0 ≤ n∧n ≤ t.length∧ρ = [nv m,.ow (rb.map tupN),.dt (dtW (t.take n)),.ow ((nwl t c0 n).map tupN),s4,s5,s6,s7]) ?_ ?_ ?_ ⟨c0,.un,.un,.un,.un,rfl,Nat.le_refl _,c0l,by simp [nwl]⟩⟩) ?_
 ·rintro i ρ ⟨n,s4,s5,s6,s7,_,_,_,rfl⟩; rfl
 ·rintro i cells _ M1 hi ⟨n,s4,s5,s6,s7,hn,hc,hcn,rfl⟩ hM1
  have cl:=hcl cells (List.mem_of_getElem? hi)
  obtain ⟨n',hn1,hn2⟩:=l0l (g1s m t) R hi hn
  unfold advC at hn1
  refine ⟨rfl,m,rfl,h3,f0t L2.e0y (fun j ρ=>∃ n2 s5 s6 s7,((allS m).take j).foldl (adv t cells) (some n) = some n2∧c0 ≤ n2∧n2 ≤ t.length∧ρ = [nv m,.ow (rb.map tupN),.dt (dtW (t.take n2)),.ow ((nwl t c0 n2).map tupN),.vl (tupN cells),s5,s6,s7]) (fun _ _ _=>trivial) ?_ ?_ ⟨n,s5,s6,s7,rfl,hc,hcn,rfl⟩⟩
  ·rintro j p _ M2 hj ⟨n2,s5,s6,s7,hm2,hc2,hcn2,rfl⟩ hM2
   have so:=n0s.mp (List.mem_of_getElem? hj)
   obtain ⟨n3,hm3,hm4⟩:=l0l (d1x t cells) hn1 hj hm2
   refine ⟨rfl,cells,p,rfl,by rw [cl]; exact so.1,by rw [cl]; exact so.2.1,by omega,?_⟩
   refine k0a (m0q _) ?_
   rcases k1b hm3 with ⟨a1,e⟩ | ⟨a1,a2,a3,e⟩
   ·obtain ⟨wc,hwc⟩:∃ w,lkT t (b0m cells p) = some w:=j1g (by omega)
    have ev:(valD (dtW (t.take n2)) (kyN (b0m cells p))).isSome = true:=by rw [g0q,b1s a1,hwc]; rfl
    show if (!(valD (dtW (t.take n2)) (kyN (b0m cells p))).isSome) = true then _ else _
    rw [ev]
    rw [e] at hm4
    exact hM2 _ ⟨n2,nv p.1,nv p.2,.vl (tupN (b0m cells p)),hm4,hc2,hcn2,rfl⟩
   ·obtain ⟨wc,hwc⟩:∃ w,lkT t cells = some w:=j1g (by omega)
    have hwl:wc.length ≤ 10:=twl _ (t0v hwc)
    have hix:=i1v a2
    rw [hwc] at a2
    have ev:(valD (dtW (t.take n2)) (kyN (b0m cells p))).isSome = false:=by rw [g0q,d1n a1]; rfl
    show if (!(valD (dtW (t.take n2)) (kyN (b0m cells p))).isSome) = true then _ else _
    rw [ev]
    rw [e] at hm4
    have d1:=dtl n2
    have d2:=ntl n2
    refine t0z (m0q _) (x:=wyD wc) (by rw [g0q,b1s a3,hwc]; rfl) ?_
    refine ⟨by simp,by simp,by show (wc.map L2.e0y).length + 1 ≤ _; rw [List.length_map]; omega,?_⟩
    refine k0a (m0q _) ⟨by omega,by rw [List.length_map]; omega,hM2 _ ⟨n2 + 1,nv p.1,nv p.2,.vl (tupN (b0m cells p)),hm4,by omega,by omega,?_⟩⟩
    rw [b1o a1 a2 hc2,w0r a1 a2,← g1f (d1n a1),List.map_append]
    show [_,_,Sv.dt (putD _ _ (D.lst (wc.map L2.e0y ++ [L2.e0y p]))),_,_,_,_,_] = _
    unfold wyD
    rw [Option.getD_some,List.map_append]; rfl
  ·rintro _ ⟨n2,s5,s6,s7,hm2,hc2,hcn2,rfl⟩
   rw [List.take_length,hn1] at hm2
   cases hm2
   exact hM1 _ ⟨_,_,_,_,_,hn2,hc2,hcn2,rfl⟩
 ·rintro _ ⟨n,s4,s5,s6,s7,hn,_,_,rfl⟩
  rw [List.take_length,R] at hn
  cases hn
  exact hM _ ⟨_,_,_,_,rfl⟩
 rintro _ ⟨s4,s5,s6,s7,rfl⟩
 exact hq
theorem k0u (dn:DefN K mg "fewest_steps" c0b ["wish"]) (B:BI mg) (g_refuse_unplaced:OkN P w K mg base 4 "refuse_unplaced" ["wish"] (spA K s0n)) (g_reached_next:OkN P w K mg base 3 "reached_next" ["many", "reached", "ways"] (spA K g1y)) (g_own_rows:OkN P w K mg base 1 "own_rows" ["many"] (spA K SOwn)) (c_MOST_CELLS:∃ u,mg "MOST_CELLS" = some u∧RelV (.int 3) u):OkN P w K mg base 5 "fewest_steps" ["wish"] (spA K SFew):=by
 refine dn.aok2 (k:=4) a0u (fun j=>j == 0) [.un,.un,.un,.un] SFew rfl (fun f cdv A outer s H E hr=>have hu:=d0l hr; ⟨_,(a0f (e0a (b0y g_refuse_unplaced (hr.mono (by decide)) (a0c (pv 0) a0e)))
  (a0f (e0d (pv 0) (c0u K (n:=2) rfl (a0x (a0r (i:=1) a0u.nd rfl (by first | exact Or.inl rfl | exact Or.inr rfl)) (a0x (a0r (i:=2) a0u.nd rfl (by first | exact Or.inl rfl | exact Or.inr rfl)) c0t))))
  (a0f (e0s (b0n m0d (pv 1) (y0b c_MOST_CELLS rfl) (c0a _))
  (a0k n0j)
  b0x)
  (a0f (b0f (i:=3) a0u.nd rfl (by first | exact Or.inl rfl | exact Or.inr rfl) (e0g (a0c (d0x (h0p K) rfl B.tuple_ o0i (a0c (b0y g_own_rows (hr.mono (by decide)) (a0c (pv 1) a0e)) a0e)) a0e)))
  (a0f (b0f (i:=4) a0u.nd rfl (by first | exact Or.inl rfl | exact Or.inr rfl) (b1j hu (i0a (d0h K) (pv 3) a0q (fun _ _=>rfl)) (e0g a0e)))
  (a0f (t0h PassesOwn.never (t0g (k0p hu (pv 2) (pv 4)))
  (a0k (b0f (i:=3) a0u.nd rfl (by first | exact Or.inl rfl | exact Or.inr rfl) (b0y g_reached_next (hr.mono (by decide)) (a0c (pv 1) (a0c (pv 3) (a0c (pv 4) a0e)))))))
  (a0k (b0s (e0p hu (pv 4) (pv 2) (fun _ _=>rfl)))))))))),(a0h (d0g (a0m (a0a a0b a0d)))
  (a0h (e0n a0b (c0c (a0n (a0i rfl) (a0n (a0i rfl) b0r (fun _ _ _=>b0g)) (fun _ _ _=>b0g))))
  (a0h (c0h (a0z (a0s g0k a0b a0o))
  c0m
  a0w)
  (a0h (b0a (c0w (a0a (c0z i0x (a0a (a0m (a0a a0b a0d)) a0d)) a0d)) rfl)
  (a0h (b0a (w0p (a0s f0f a0b a0o) (c0w a0d)) rfl)
  (a0h (o0t (a0z (k0e a0b a0b))
  (b0a (a0m (a0a a0b (a0a a0b (a0a a0b a0d)))) rfl))
  (b0e (o0r a0b a0b))))))))⟩) ?_
 rintro ss q ⟨m,rows,wy,h1,h3,hw,rfl,hq⟩
 have F:=fct h1 h3
 have hF:=f1q F hw
 refine ⟨rfl,rfl,?_⟩
 refine cutS (fun ρ=>ρ = [.vl (b0l m rows),.un,.un,.un,.un]) (fun M hM=>⟨rfl,m,rows,rfl,by omega,hF,hM _ rfl⟩) ?_
 rintro _ rfl
 refine cutS (fun ρ=>ρ = [.vl (b0l m rows),nv m,.vl (tupN rows),.un,.un]) (fun M hM=>hM _ rfl) ?_
 rintro _ rfl
 refine cutS (fun ρ=>ρ = [.vl (b0l m rows),nv m,.vl (tupN rows),.un,.un]) (fun M hM=>ite2 (fun z=>?_) fun _=>hM _ rfl) ?_
 ·rw [decide_eq_true_eq] at z; omega
 rintro _ rfl
 have c0:(CB m).getD 0 0 = 1∧RB m 0 = [b0t m]∧(TB m).take 1 = [(b0t m,[])]∧1 ≤ (CB m).length∧(CB m).getD ((CB m).length - 1) 0 = (TB m).length:=by
  match m,h1,h3 with
  | 1,_,_=>decide
  | 2,_,_=>decide
  | 3,_,_=>decide
 obtain ⟨c1,c2,c3,c4,c5⟩:=c0
 refine cutS (fun ρ=>ρ = [.vl (b0l m rows),nv m,.vl (tupN rows),.ow [tupN (b0t m)],.un]) (fun M hM=>⟨rfl,m,rfl,by omega,by simp,hM _ rfl⟩) ?_
 rintro _ rfl
 refine cutS (fun ρ=>ρ = [.vl (b0l m rows),nv m,.vl (tupN rows),.ow ((RB m 0).map tupN),.dt (dtW ((TB m).take ((CB m).getD 0 0)))]) (fun M hM=>i0u (i:=0) (ds:=[tupN (b0t m)]) (d:=tupN (b0t m)) rfl rfl ⟨by simp,k0a (m0q _) (hM _ ?_)⟩) ?_
 ·rw [c1,c2,c3]; rfl
 rintro _ rfl
 refine cutS (fun ρ=>∃ k,ixT (TB m) rows < (CB m).getD k 0∧ρ = [.vl (b0l m rows),nv m,.vl (tupN rows),.ow ((RB m k).map tupN),.dt (dtW ((TB m).take ((CB m).getD k 0)))]) (fun M hM=>w0c (fun ρ=>∃ k,k < (CB m).length∧ρ = [.vl (b0l m rows),nv m,.vl (tupN rows),.ow ((RB m k).map tupN),.dt (dtW ((TB m).take ((CB m).getD k 0)))]) (fun ρ=>match ρ with | [_,_,_,_,.dt kvs]=>200 - kvs.length | _=>0) ?_ _ ⟨0,by omega,rfl⟩) ?_
 ·rintro _ N ⟨k,hk,rfl⟩ hN
  refine k0a (m0q _) ?_
  show if (!(valD (dtW ((TB m).take ((CB m).getD k 0))) (kyN rows)).isSome) = true then _ else _
  by_cases hx:ixT (TB m) rows < (CB m).getD k 0
  ·have ev:(valD (dtW ((TB m).take ((CB m).getD k 0))) (kyN rows)).isSome = true:=by rw [g0q,b1s hx,hw]; rfl
   rw [ev]
   exact hM _ ⟨k,hx,rfl⟩
  ·have ev:(valD (dtW ((TB m).take ((CB m).getD k 0))) (kyN rows)).isSome = false:=by rw [g0q,j0y,if_neg hx]; rfl
   rw [ev]
   have hix:=i1v hw
   have hk1:k + 1 < (CB m).length:=by
    apply Classical.byContradiction
    intro z
    have:k = (CB m).length - 1:=by omega
    rw [this,c5] at hx
    exact hx hix
   refine ⟨rfl,m,k,h1,h3,hk1,rfl,hN _ ⟨k + 1,hk1,rfl⟩ ?_⟩
   show 200 - (dtW ((TB m).take ((CB m).getD (k + 1) 0))).length < 200 - (dtW ((TB m).take ((CB m).getD k 0))).length
   have u:=k1x h1 h3 k hk1
   have u2:=j1w h1 h3 (k + 1)
   have u3:=c1x h1 h3
   rw [s0e,s0e,List.length_take,List.length_take]
   omega
 rintro _ ⟨k,hk,rfl⟩
 refine t0z (m0q _) (x:=wyD wy) ?_ hq
 rw [g0q,b1s hk,hw]; rfl
theorem g0c {C_NoFit:Addr} (m_NoFit:mg "NoFit" = some (.ref C_NoFit)) (e_NoFit:PySem.W.excIn K C_NoFit bmV "ValueError.__new__" = true) (dn:DefN K mg "fewest_steps" c0b ["wish"]) (B:BI mg) (g_refuse_unplaced:OkN P w K mg base 4 "refuse_unplaced" ["wish"] (spA K s0n)) (x_refuse_unplaced_NoFit:OkX P w K mg base 4 "refuse_unplaced" ["wish"] C_NoFit none (spA K SUnF)) (c_MOST_CELLS:∃ u,mg "MOST_CELLS" = some u∧RelV (.int 3) u):OkX P w K mg base 5 "fewest_steps" ["wish"] C_NoFit none (spA K SUnF):=by
 refine dn.aokX (k:=4) a0u (fun j=>j == 0) [.un,.un,.un,.un] SUnF C_NoFit none rfl (fun f cdv A outer s H E hr=>have hu:=d0l hr; ⟨_,(a0y (d1f (j0x x_refuse_unplaced_NoFit (hr.mono (by decide)) b1m (a0c (pv 0) a0e)) (h0f (e0a (b0y g_refuse_unplaced (hr.mono (by decide)) (a0c (pv 0) a0e)))))
  (a0y (h0f (e0d (pv 0) (c0u K (n:=2) rfl (a0x (a0r (i:=1) a0u.nd rfl (by first | exact Or.inl rfl | exact Or.inr rfl)) (a0x (a0r (i:=2) a0u.nd rfl (by first | exact Or.inl rfl | exact Or.inr rfl)) c0t)))))
  (a0y (k0l (b0n m0d (pv 1) (y0b c_MOST_CELLS rfl) (c0a _))
  (a0y h0z
  b0w)
  b0w)
  f0e))),(a0h (k0i (b0e (a0m (a0a a0b a0d))) (d0g (a0m (a0a a0b a0d))))
  (a0h (e0n a0b (c0c (a0n (a0i rfl) (a0n (a0i rfl) b0r (fun _ _ _=>b0g)) (fun _ _ _=>b0g))))
  (a0h (c0h (a0z (a0s g0k a0b a0o))
  (a0h c0m
  a0w)
  a0w)
  c0m)))⟩) ?_
 rintro ss q ⟨m,rows,rfl,hl,hq⟩
 refine ⟨rfl,rfl,?_⟩
 exact .inl ⟨rfl,m,rows,rfl,hl,⟨_,rfl⟩,hq⟩
theorem g0d {C_Leans C_JoinError f_Leans:Addr} (m_Leans:mg "Leans" = some (.ref C_Leans)) (m_JoinError:mg "JoinError" = some (.ref C_JoinError)) (in_Leans:v0x K C_Leans f_Leans "place" "Leans.__init__" e0i ["self", "place"]) (bs_JoinError:v0y K C_JoinError) (dn:DefN K mg "fewest_steps" c0b ["wish"]) (B:BI mg) (g_refuse_unplaced:OkN P w K mg base 4 "refuse_unplaced" ["wish"] (spA K s0n)) (x_refuse_unplaced_Leans:OkX P w K mg base 4 "refuse_unplaced" ["wish"] C_Leans (some "place") (spA K SUnL)) (c_MOST_CELLS:∃ u,mg "MOST_CELLS" = some u∧RelV (.int 3) u):OkX P w K mg base 5 "fewest_steps" ["wish"] C_Leans (some "place") (spA K SUnL):=by
 refine dn.aokX (k:=4) a0u (fun j=>j == 0) [.un,.un,.un,.un] SUnL C_Leans (some "place") rfl (fun f cdv A outer s H E hr=>have hu:=d0l hr; ⟨_,(a0y (d1f (j0x x_refuse_unplaced_Leans (hr.mono (by decide)) b1m (a0c (pv 0) a0e)) (h0f (e0a (b0y g_refuse_unplaced (hr.mono (by decide)) (a0c (pv 0) a0e)))))
  (a0y (h0f (e0d (pv 0) (c0u K (n:=2) rfl (a0x (a0r (i:=1) a0u.nd rfl (by first | exact Or.inl rfl | exact Or.inr rfl)) (a0x (a0r (i:=2) a0u.nd rfl (by first | exact Or.inl rfl | exact Or.inr rfl)) c0t)))))
  (a0y (k0l (b0n m0d (pv 1) (y0b c_MOST_CELLS rfl) (c0a _))
  (a0y h0z
  b0w)
  b0w)
  f0e))),(a0h (k0i (b0e (a0m (a0a a0b a0d))) (d0g (a0m (a0a a0b a0d))))
  (a0h (e0n a0b (c0c (a0n (a0i rfl) (a0n (a0i rfl) b0r (fun _ _ _=>b0g)) (fun _ _ _=>b0g))))
  (a0h (c0h (a0z (a0s g0k a0b a0o))
  (a0h c0m
  a0w)
  a0w)
  c0m)))⟩) ?_
 rintro ss q ⟨m,rows,p,rfl,hm,L,hq⟩
 refine ⟨rfl,rfl,?_⟩
 exact .inl ⟨rfl,m,rows,p,rfl,hm,L,⟨_,rfl⟩,hq⟩
theorem f0g {C_TooMany:Addr} (m_TooMany:mg "TooMany" = some (.ref C_TooMany)) (e_TooMany:PySem.W.excIn K C_TooMany bmV "ValueError.__new__" = true) (dn:DefN K mg "fewest_steps" c0b ["wish"]) (B:BI mg) (g_refuse_unplaced:OkN P w K mg base 4 "refuse_unplaced" ["wish"] (spA K s0n)) (c_MOST_CELLS:∃ u,mg "MOST_CELLS" = some u∧RelV (.int 3) u):OkX P w K mg base 5 "fewest_steps" ["wish"] C_TooMany none (spA K h1b):=by
 refine dn.aokX (k:=4) a0u (fun j=>j == 0) [.un,.un,.un,.un] h1b C_TooMany none rfl (fun f cdv A outer s H E hr=>have hu:=d0l hr; ⟨_,(a0y (h0f (e0a (b0y g_refuse_unplaced (hr.mono (by decide)) (a0c (pv 0) a0e))))
  (a0y (h0f (e0d (pv 0) (c0u K (n:=2) rfl (a0x (a0r (i:=1) a0u.nd rfl (by first | exact Or.inl rfl | exact Or.inr rfl)) (a0x (a0r (i:=2) a0u.nd rfl (by first | exact Or.inl rfl | exact Or.inr rfl)) c0t)))))
  (a0y (k0l (b0n m0d (pv 1) (y0b c_MOST_CELLS rfl) (c0a _))
  (a0y (v0a tie1 rfl m_TooMany e_TooMany (p0b (i0s e0f (i0s (d1i (y0b c_MOST_CELLS rfl)) (i0s e0f d1h)))))
  b0w)
  b0w)
  f0e))),(a0h (d0g (a0m (a0a a0b a0d)))
  (a0h (e0n a0b (c0c (a0n (a0i rfl) (a0n (a0i rfl) b0r (fun _ _ _=>b0g)) (fun _ _ _=>b0g))))
  (a0h (c0h (a0z (a0s g0k a0b a0o))
  (a0h (b0e (a1t (u0t (k0f w0l (k0f (e1k a0o) (k0f w0l a1v))))))
  a0w)
  a0w)
  c0m)))⟩) ?_
 rintro ss q ⟨m,rows,rfl,hm,h3,hF,hq⟩
 refine ⟨rfl,rfl,?_⟩
 refine cutS (fun ρ=>ρ = [.vl (b0l m rows),.un,.un,.un,.un]) (fun M hM=>⟨rfl,m,rows,rfl,by omega,hF,hM _ rfl⟩) ?_
 rintro _ rfl
 refine cutS (fun ρ=>ρ = [.vl (b0l m rows),nv m,.vl (tupN rows),.un,.un]) (fun M hM=>hM _ rfl) ?_
 rintro _ rfl
 refine ite2 (fun z=>?_) fun z=>?_
 ·exact aj3 (n:=3) (by decide +kernel) (by decide +kernel) (by omega) (fun q' hq'=>hq') fun t=>⟨⟨_,rfl⟩,hq⟩
 ·refine absurd (show decide ((3:Int) < (m:Int)) = true from decide_eq_true (by omega)) ?_
  exact z
end
structure BOk (rows:List Nat) (j:Nat) (ks ps:List Nat):Prop where
 ech:Ech ks
 sr:∀ k ∈ ks,Spn (rows.take j) k
 rs:∀ i,i < j→Spn ks (rows.getD i 0)
 pl:∀ i,i ∈ ps↔(i < j∧¬ Spn (rows.take i) (rows.getD i 0))
 l1:ks.length ≤ j
 l2:ps.length ≤ j
 up:ps.Pairwise (· < ·)
theorem BOk.all {rows ks ps:List Nat} (h:BOk rows rows.length ks ps) (r:Nat):Spn ks r↔Spn rows r:=by
 constructor
 ·intro q; have:=q.mono h.sr; rwa [List.take_length] at this
 ·intro q
  refine q.mono fun g hg=>?_
  obtain ⟨i,hi,rfl⟩:=List.getElem_of_mem hg
  have:=h.rs i hi
  rwa [List.getD_eq_getElem?_getD,List.getElem?_eq_getElem hi] at this
theorem a1c (rows:List Nat):BOk rows 0 [] [] where
 ech:=.nil
 sr:=fun _ h=>(nomatch h)
 rs:=fun _ h=>absurd h (Nat.not_lt_zero _)
 pl:=fun i=>⟨fun h=>(nomatch h),fun h=>absurd h.1 (Nat.not_lt_zero _)⟩
 l1:=Nat.le_refl _
 l2:=Nat.le_refl _
 up:=.nil
theorem s0y {rows:List Nat} {j a:Nat} (h:Spn (rows.take j) a):Spn (rows.take (j + 1)) a:=h.sub fun g hg=>by
 obtain ⟨i,hi,rfl⟩:=List.mem_take_iff_getElem.mp hg
 exact List.mem_take_iff_getElem.mpr ⟨i,by omega,rfl⟩
theorem l0u {rows ks ps:List Nat} {j:Nat} (h:BOk rows j ks ps) (hj:j < rows.length) (r:Nat):Spn ks r↔Spn (rows.take j) r:=by
 constructor
 ·intro q; exact q.mono h.sr
 ·intro q
  refine q.mono fun g hg=>?_
  obtain ⟨i,hi,rfl⟩:=List.mem_take_iff_getElem.mp hg
  have:=h.rs i (by omega)
  rwa [List.getD_eq_getElem?_getD,List.getElem?_eq_getElem (by omega)] at this
theorem a1d {rows ks ps:List Nat} {j:Nat} (h:BOk rows j ks ps) (hj:j < rows.length) (h0:lef (rows.getD j 0) ks ≠ 0):BOk rows (j + 1) (ks ++ [lef (rows.getD j 0) ks]) (ps ++ [j]) where
 ech:=u0e h.ech h0 (l0e h.ech)
 sr:=fun k hk=>by
  rcases List.mem_append.mp hk with q | q
  ·exact s0y (h.sr k q)
  ·rw [List.mem_singleton.mp q]
   have h1:Spn (rows.take (j + 1)) (rows.getD j 0 ^^^ lef (rows.getD j 0) ks):=s0y ((l0d (ks:=ks) (r:=rows.getD j 0)).mono h.sr)
   have h2:Spn (rows.take (j + 1)) (rows.getD j 0):=.mem (by rw [List.getD_eq_getElem?_getD,List.getElem?_eq_getElem hj]; exact List.mem_take_iff_getElem.mpr ⟨j,by omega,rfl⟩)
   have:=h2.xor h1
   rwa [← Nat.xor_assoc,Nat.xor_self,Nat.zero_xor] at this
 rs:=fun i hi=>by
  have up:∀ {a:Nat},Spn ks a→Spn (ks ++ [lef (rows.getD j 0) ks]) a:=fun ha=>ha.sub fun g hg=>List.mem_append.mpr (.inl hg)
  by_cases e:i = j
  ·subst e
   have:=(up (l0d (ks:=ks) (r:=rows.getD i 0))).xor (.mem (List.mem_append.mpr (.inr (.head _))))
   rwa [h0k] at this
  ·exact up (h.rs i (by omega))
 pl:=fun i=>by
  rw [List.mem_append,h.pl i,List.mem_singleton]
  constructor
  ·rintro (⟨a,b⟩ | rfl)
   ·exact ⟨by omega,b⟩
   ·exact ⟨Nat.lt_succ_self _,fun z=>h0 ((i0g h.ech).mpr ((l0u h hj _).mpr z))⟩
  ·rintro ⟨a,b⟩
   by_cases e:i = j
   ·exact .inr e
   ·exact .inl ⟨by omega,b⟩
 l1:=by rw [List.length_append]; exact Nat.succ_le_succ h.l1
 l2:=by rw [List.length_append]; exact Nat.succ_le_succ h.l2
 up:=List.pairwise_append.mpr ⟨h.up,by simp,fun a ha b hb=>by
  have:b = j:=by simpa using hb
  rw [this]
  exact ((h.pl a).mp ha).1⟩
def g1z:ASp:=fun ss q=>∃ (r:Nat) (ks:List Nat) (s1:Sv),ss = [nv r,s1]∧f1w s1 (a0g ks)∧q (.d (nD (lef r ks))) [nv r,s1]
theorem p0l:∀ (xs ys:List Nat),xs.Nodup→(∀ x ∈ xs,x ∈ ys)→xs.length ≤ ys.length
 | [],ys,_,_=>Nat.zero_le _
 | x :: xs,ys,hn,hs=>by
  obtain ⟨h1,h2⟩:=List.nodup_cons.mp hn
  have hx:=hs x (.head _)
  have:=p0l xs (ys.erase x) h2 fun y hy=>by
   have ne:y ≠ x:=fun e=>h1 (e ▸ hy)
   exact (List.mem_erase_of_ne ne).mpr (hs y (.tail _ hy))
  rw [List.length_erase_of_mem hx] at this
  have:=List.length_pos_of_mem hx
  rw [List.length_cons]; omega
theorem d1u:∀ {ks:List Nat},Ech ks→(ks.map bitsN).Nodup∧∀ k ∈ ks,k ≠ 0
 | [],_=>⟨List.nodup_nil,fun _ h=>nomatch h⟩
 | k :: ks,.cons a b c=>by
  obtain ⟨h1,h2⟩:=d1u c
  refine ⟨?_,fun x hx=>?_⟩
  ·rw [List.map_cons,List.nodup_cons]
   refine ⟨fun z=>?_,h1⟩
   obtain ⟨x,hx,e⟩:=List.mem_map.mp z
   have:=b x hx
   rw [← e,(h0m (h2 x hx)).1] at this
   cases this
  ·rcases List.mem_cons.mp hx with rfl | hx
   ·exact a
   ·exact h2 x hx
theorem bits_le {x m:Nat} (h:x < 2 ^ m):bitsN x ≤ m:=by
 by_cases z:x = 0
 ·subst z; unfold bitsN; simp
 ·unfold bitsN
  rw [if_neg z]
  exact (Nat.log2_lt z).mpr h
theorem c1l {m:Nat} {ks:List Nat} (E:Ech ks) (hl:ks.length = m) (hlt:∀ k ∈ ks,k < 2 ^ m):∀ x,x < 2 ^ m→Spn ks x:=by
 obtain ⟨nd,ne⟩:=d1u E
 have pos:∀ {x},x ≠ 0→0 < bitsN x:=fun {x} h=>by unfold bitsN; rw [if_neg h]; omega
 have sur:∀ j,0 < j→j ≤ m→∃ k ∈ ks,bitsN k = j:=fun j h0 hj=>by
  apply Classical.byContradiction
  intro no
  have:=p0l (j :: ks.map bitsN) ((List.range m).map (· + 1)) (by
   rw [List.nodup_cons]
   exact ⟨fun z=>by obtain ⟨k,hk,e⟩:=List.mem_map.mp z; exact no ⟨k,hk,e⟩,nd⟩) fun x hx=>by
   have:0 < x∧x ≤ m:=by
    rcases List.mem_cons.mp hx with rfl | hx
    ·exact ⟨h0,hj⟩
    ·obtain ⟨k,hk,rfl⟩:=List.mem_map.mp hx
     exact ⟨pos (ne k hk),bits_le (hlt k hk)⟩
   exact List.mem_map.mpr ⟨x - 1,List.mem_range.mpr (by omega),by omega⟩
  rw [List.length_cons,List.length_map,List.length_map,List.length_range,hl] at this
  omega
 have go:∀ n x,bitsN x ≤ n→x < 2 ^ m→Spn ks x:=by
  intro n
  induction n with
  | zero=>intro x h _; rw [q0o (Nat.le_zero.mp h)]; exact .zero
  | succ n ih =>
   intro x h hx
   by_cases z:x = 0
   ·subst z; exact .zero
   ·obtain ⟨k,hk,e⟩:=sur (bitsN x) (pos z) (bits_le hx)
    have h2:=l0v e.symm (ne k hk)
    have h3:=ih (x ^^^ k) (by omega) (Nat.xor_lt_two_pow hx (hlt k hk))
    have:=h3.xor (.mem hk)
    rwa [h0k] at this
 exact fun x hx=>go (bitsN x) x (Nat.le_refl _) hx
theorem h1y {m:Nat} {gs:List Nat} (h:∀ g ∈ gs,g < 2 ^ m) {x:Nat} (hx:Spn gs x):x < 2 ^ m:=by
 induction hx with
 | zero=>exact Nat.two_pow_pos m
 | step hg _ ih=>exact Nat.xor_lt_two_pow ih (h _ hg)
theorem u0b {m:Nat} {rows ks ps:List Nat} (hr:rows.length = m) (hlt:∀ r ∈ rows,r < 2 ^ m) (B:BOk rows m ks ps) (hk:ks.length = m):Full m rows:=by
 refine ⟨hr,fun k hkm=>?_⟩
 have sr:∀ x ∈ ks,Spn rows x:=fun x hx=>by have:=B.sr x hx; rwa [← hr,List.take_length] at this
 exact (c1l B.ech hk (fun x hx=>h1y hlt (sr x hx)) (2 ^ k) (Nat.pow_lt_pow_right (by decide) hkm)).mono sr
theorem c0y {tt:AT} {A B:AS} {e:AEnds} {ρ:En} (h:∀ k:Bool→En→Prop,k true ρ→tt ρ k) (hb:A e ρ):aIfS tt A B e ρ:=by
 unfold aIfS
 exact h _ (by simpa using hb)
def m0l (o:Option Nat):D:=match o with | none=>.non | some n=>nD n
inductive Due (m:Nat) (rows:List Nat) (most:Nat):Option Nat→Option Nat→Prop
 | fit:rows.length ≠ m→Due m rows most (some 0) none
 | lean {p:Nat}:h1e m rows p→Due m rows most (some 8) (some p)
 | many:Full m rows→most < m→Due m rows most (some 1) none
 | no:Full m rows→m ≤ most→Due m rows most none none
def SDue:ASp:=fun ss q=>∃ (m most:Nat) (rows:List Nat) (s1:Sv),ss = [nv m,s1,nv most]∧f1w s1 (a0g rows)∧m ≤ 12∧rows.length ≤ 14∧(∀ r ∈ rows,r < 2 ^ m)∧∀ a b,Due m rows most a b→q (.d (.tup [m0l a,m0l b])) [nv m,s1,nv most]
section
variable {P:Program} {w:World} {K:PySem.W.Frag} {mg:Str→Option Value} {base:Heap}
theorem p0f (dn:DefN K mg "_law_whole" f0n ["_law_found"]) (B:BI mg):OkN P w K mg base 1 "_law_whole" ["_law_found"] (spA K l0x):=by
 refine dn.aok2 (k:=0) o0x (fun j=>j == 0) [] l0x rfl (fun f cdv A outer s H E hr=>have hu:=d0l hr; ⟨_,(a0k (b0s (m0k (b0d (l0s K) rfl B.isinstance_ b0b (a0c (pv 0) (a0c (b1i rfl B.int_ a1b) a0e))) (t0k (i1k (b0d (l0s K) rfl B.isinstance_ b0b (a0c (pv 0) (a0c (b1i rfl B.bool_ g1n) a0e)))))))),(b0e (g0u (c0z o0g (a0a a0b (a0a w0k a0d))) (a1u (c0z o0g (a0a a0b (a0a w0k a0d))))))⟩) ?_
 rintro ss q ⟨d,rfl,hq⟩
 refine ⟨rfl,rfl,?_⟩
 cases d with
 | non=>exact f0b rfl p0x hq
 | str _=>exact f0b rfl p0w hq
 | tup _=>exact f0b rfl m0e hq
 | lst _=>exact f0b rfl n0u hq
 | bl b=>exact f0b rfl n0w (f0b rfl m0f hq)
 | int i=>exact f0b rfl p0y (f0b rfl n0v hq)
theorem r0m (dn:DefN K mg "_law_left" g0z ["_law_row", "_law_kept"]) (B:BI mg):OkN P w K mg base 1 "_law_left" ["_law_row", "_law_kept"] (spA K g1z):=by
 refine dn.aok2 (k:=0) h0n (fun j=>j == 1) [.un] g1z rfl (fun f cdv A outer s H E hr=>have hu:=d0l hr; ⟨_,(a0f (e0v PassesOwn.never rfl (g0i K (pv 1)) (a0r (i:=2) h0n.nd rfl (by first | exact Or.inl rfl | exact Or.inr rfl))
  (a0k (b0f (i:=0) h0n.nd rfl (by first | exact Or.inl rfl | exact Or.inr rfl) (b0d (z0z rfl) rfl B.min_ j1x (a0c (pv 0) (a0c (b0o p0c (pv 0) (pv 2)) a0e))))))
  (a0k (b0s (pv 0)))),(a0h (c0x (pin:=(fun j=>j == 1)) (e0t a0b) (a0i rfl)
  (b0a (c0z c1o (a0a a0b (a0a (a0s c0q a0b a0b) a0d))) rfl))
  (b0e a0b))⟩) ?_
 rintro ss q ⟨r,ks,s1,rfl,hs,hq⟩
 rcases hs with rfl | rfl
 ·refine ⟨rfl,rfl,rfl,?_⟩
  refine f0t nD (fun k ρ=>∃ s2,ρ = [nv (lef r (ks.take k)),.ow (a0g ks),s2]) ?_ ?_ ?_ ⟨.un,rfl⟩
  ·rintro k _ ⟨s2,rfl⟩; rfl
  ·rintro k x _ M hk ⟨s2,rfl⟩ hM
   refine hM _ ⟨nv x,?_⟩
   have e:lef r (ks.take (k + 1)) = min (lef r (ks.take k)) (lef r (ks.take k) ^^^ x):=by unfold lef; rw [g0f hk,List.foldl_append]; rfl
   rw [e]
   have ew:(if ((lef r (ks.take k) ^^^ x:Nat):Int) < ((lef r (ks.take k):Nat):Int) then ((lef r (ks.take k) ^^^ x:Nat):Int) else ((lef r (ks.take k):Nat):Int)) = ((min (lef r (ks.take k)) (lef r (ks.take k) ^^^ x):Nat):Int):=minI _ _
   rw [← g0e] at ew
   rw [← v0d ew]; rfl
  ·rintro _ ⟨s2,rfl⟩
   rw [List.take_length]
   exact hq
 ·refine ⟨rfl,rfl,?_⟩
  refine f0t nD (fun k ρ=>∃ s2,ρ = [nv (lef r (ks.take k)),.vl (.lst (a0g ks)),s2]) (fun _ _ _=>trivial) ?_ ?_ ⟨.un,rfl⟩
  ·rintro k x _ M hk ⟨s2,rfl⟩ hM
   refine hM _ ⟨nv x,?_⟩
   have e:lef r (ks.take (k + 1)) = min (lef r (ks.take k)) (lef r (ks.take k) ^^^ x):=by unfold lef; rw [g0f hk,List.foldl_append]; rfl
   rw [e]
   have ew:(if ((lef r (ks.take k) ^^^ x:Nat):Int) < ((lef r (ks.take k):Nat):Int) then ((lef r (ks.take k) ^^^ x:Nat):Int) else ((lef r (ks.take k):Nat):Int)) = ((min (lef r (ks.take k)) (lef r (ks.take k) ^^^ x):Nat):Int):=minI _ _
   rw [← g0e] at ew
   rw [← v0d ew]; rfl
  ·rintro _ ⟨s2,rfl⟩
   rw [List.take_length]
   exact hq
theorem v0c (dn:DefN K mg "_law_due" h0x ["_law_many", "_law_rows", "_law_most"]) (B:BI mg) (g_law_left:OkN P w K mg base 1 "_law_left" ["_law_row", "_law_kept"] (spA K g1z)):OkN P w K mg base 2 "_law_due" ["_law_many", "_law_rows", "_law_most"] (spA K SDue):=by
 refine dn.aok2 (k:=1) g0v (fun j=>j == 0 || j == 1 || j == 2) [.un,.un,.un] SDue rfl (fun f cdv A outer s H E hr=>have hu:=d0l hr; ⟨_,(a0f (e0s (b0n (k0q K hr.units) (b0d (c0n K) rfl B.len_ g0a (a0c (pv 1) a0e)) (pv 0) (c0a _))
  (a0k (b0s (e0e (a0c a0q (a0c h0g a0e)))))
  b0x)
  (a0f (b0f (i:=3) g0v.nd rfl (by first | exact Or.inl rfl | exact Or.inr rfl) (e0g a0e))
  (a0f (e0v PassesOwn.never rfl (c0g rfl B.range_ (a0c (pv 0) a0e)) (a0r (i:=4) g0v.nd rfl (by first | exact Or.inl rfl | exact Or.inr rfl))
  (a0f (b0f (i:=5) g0v.nd rfl (by first | exact Or.inl rfl | exact Or.inr rfl) (b0y g_law_left (hr.mono (by decide)) (a0c (i0a (d0h K) (pv 1) (pv 4) (fun _ _=>rfl)) (a0c (pv 3) a0e))))
  (a0f (e0s (b0n (j0e K hr.units) (pv 5) a0q (c0a _))
  (a0k (b0s (e0e (a0c a0q (a0c (pv 4) a0e)))))
  b0x)
  (a0k (e0a (k0o K PySem.F.plainAttrs_list PySem.F.slot_list_append PySem.F.type_list_append k0y (pv 3) (a0c (pv 5) a0e)))))))
  (a0f (e0s (b0n m0d (pv 0) (pv 2) (c0a _))
  (a0k (b0s (e0e (a0c a0q (a0c h0g a0e)))))
  b0x)
  (a0k (b0s (e0e (a0c h0g (a0c h0g a0e))))))))),(a0h (c0h (a0z (a0s k0r (c0z e0j (a0a a0b a0d)) a0b))
  (b0e (d0d (a0a a0o (a0a e0l a0d))))
  a0w)
  (a0h (b0a (c0w a0d) rfl)
  (a0h (c0x (pin:=(fun _=>false)) (c0d (a0a a0b a0d)) (a0i rfl)
  (a0h (b0a (a0m (a0a (a0s f0f a0b a0b) (a0a a0b a0d))) rfl)
  (a0h (c0h (a0z (a0s j0f a0b a0o))
  (b0e (d0d (a0a a0o (a0a a0b a0d))))
  a0w)
  (d0g (q0v a0b (a0a a0b a0d))))))
  (a0h (c0h (a0z (a0s g0k a0b a0b))
  (b0e (d0d (a0a a0o (a0a e0l a0d))))
  a0w)
  (b0e (d0d (a0a e0l (a0a e0l a0d))))))))⟩) ?_
 rintro ss q ⟨m,most,rows,s1,rfl,hs1,hm,hl,hlt,hq⟩
 rcases hs1 with rfl | rfl
 ·refine ⟨rfl,rfl,?_⟩
  by_cases hne:rows.length = m
  ·refine cutS (fun ρ=>ρ = [nv m,.ow (a0g rows),nv most,.un,.un,.un]) (fun M hM=>b0j rfl rfl (by simp [D.depth]) (b:=true) ?_ (hM _ rfl)) ?_
   ·show eqD (.int (((a0g rows).length:Nat):Int)) (.int (m:Int)) = true
    rw [a0t,hne]; exact d0j _
   rintro _ rfl
   refine cutS (fun ρ=>ρ = [nv m,.ow (a0g rows),nv most,.ow [],.un,.un]) (fun M hM=>⟨by simp,hM _ rfl⟩) ?_
   rintro _ rfl
   refine cutS (fun ρ=>∃ ks ps s4 s5,BOk rows m ks ps∧ks.length = m∧ρ = [nv m,.ow (a0g rows),nv most,.ow (a0g ks),s4,s5]) (fun M hM=>⟨⟨by omega,by omega⟩,?_⟩) ?_
   ·rw [Int.toNat_natCast]
    refine e0w (fun k ρ=>∃ ks ps s4 s5,BOk rows k ks ps∧ks.length = k∧(∀ i,i < k→¬ Spn (rows.take i) (rows.getD i 0))∧ρ = [nv m,.ow (a0g rows),nv most,.ow (a0g ks),s4,s5]) (fun _ _ _=>trivial) ?_ (fun ρ ⟨ks,ps,s4,s5,B,h1,_,e⟩=>hM ρ ⟨ks,ps,s4,s5,B,h1,e⟩) ⟨[],[],.un,.un,a1c rows,rfl,(fun i hi=>absurd hi (Nat.not_lt_zero _)),rfl⟩
    rintro k _ M1 hk ⟨ks,ps,s4,s5,B,hkl,hno,rfl⟩ hM1
    rw [Int.zero_add]
    refine cutS (fun ρ=>ρ = [nv m,.ow (a0g rows),nv most,.ow (a0g ks),nv k,nv (lef (rows.getD k 0) ks)]) (fun M2 hM2=>i0u rfl (i0p (by omega)) ⟨rfl,rows.getD k 0,ks,_,rfl,.inl rfl,hM2 _ rfl⟩) ?_
    rintro _ rfl
    by_cases z:lef (rows.getD k 0) ks = 0
    ·have sp:Spn (rows.take k) (rows.getD k 0):=(l0u B (by omega) _).mp ((i0g B.ech).mp z)
     rw [z]
     show aIfS _ _ _ _ _
     refine c0y (fun k hk=>b0j rfl rfl (by simp [D.depth]) (b:=true) rfl hk) ?_
     exact ⟨by simp,hq (some 8) (some k) (.lean ⟨hne,hk,hno,sp⟩)⟩
    ·refine cutS (fun ρ=>ρ = [nv m,.ow (a0g rows),nv most,.ow (a0g ks),nv k,nv (lef (rows.getD k 0) ks)]) (fun M2 hM2=>b0j rfl rfl (by simp [D.depth]) (b:=false) ((h0j _ 0).trans (decide_eq_false z)) (hM2 _ rfl)) ?_
     rintro _ rfl
     refine ⟨by rw [a0t]; omega,hM1 _ ⟨_,_,nv k,nv (lef (rows.getD k 0) ks),a1d B (by omega) z,by simp [hkl],fun i hi=>?_,?_⟩⟩
     ·by_cases e:i = k
      ·subst e
       exact fun sp=>z ((i0g B.ech).mpr ((l0u B (by omega) _).mpr sp))
      ·exact hno i (by omega)
     ·rw [i0t]; rfl
   rintro _ ⟨ks,ps,s4,s5,B,hkl,rfl⟩
   have hF:=u0b hne hlt B hkl
   by_cases hmm:most < m
   ·show aIfS _ _ _ _ _
    refine c0y (fun k hk=>?_) ⟨by simp,hq (some 1) none (.many hF hmm)⟩
    have e:decide ((most:Int) < (m:Int)) = true:=decide_eq_true (by omega)
    rw [← e] at hk; exact hk
   ·refine cutS (fun ρ=>ρ = [nv m,.ow (a0g rows),nv most,.ow (a0g ks),s4,s5]) (fun M hM=>?_) ?_
    ·show if decide ((most:Int) < (m:Int)) = true then _ else _
     rw [if_neg (by simp; omega)]
     exact hM _ rfl
    rintro _ rfl
    exact ⟨by simp,hq none none (.no hF (by omega))⟩
  ·show aIfS _ _ _ _ _
   refine c0y (fun k hk=>b0j rfl rfl (by simp [D.depth]) (b:=false) ?_ hk) ⟨by simp,hq (some 0) none (.fit hne)⟩
   show eqD (.int (((a0g rows).length:Nat):Int)) (.int (m:Int)) = false
   rw [a0t]
   exact (h0j _ _).trans (decide_eq_false hne)
 ·refine ⟨rfl,rfl,?_⟩
  by_cases hne:rows.length = m
  ·refine cutS (fun ρ=>ρ = [nv m,.vl (.lst (a0g rows)),nv most,.un,.un,.un]) (fun M hM=>b0j rfl rfl (by simp [D.depth]) (b:=true) ?_ (hM _ rfl)) ?_
   ·show eqD (.int (((a0g rows).length:Nat):Int)) (.int (m:Int)) = true
    rw [a0t,hne]; exact d0j _
   rintro _ rfl
   refine cutS (fun ρ=>ρ = [nv m,.vl (.lst (a0g rows)),nv most,.ow [],.un,.un]) (fun M hM=>⟨by simp,hM _ rfl⟩) ?_
   rintro _ rfl
   refine cutS (fun ρ=>∃ ks ps s4 s5,BOk rows m ks ps∧ks.length = m∧ρ = [nv m,.vl (.lst (a0g rows)),nv most,.ow (a0g ks),s4,s5]) (fun M hM=>⟨⟨by omega,by omega⟩,?_⟩) ?_
   ·rw [Int.toNat_natCast]
    refine e0w (fun k ρ=>∃ ks ps s4 s5,BOk rows k ks ps∧ks.length = k∧(∀ i,i < k→¬ Spn (rows.take i) (rows.getD i 0))∧ρ = [nv m,.vl (.lst (a0g rows)),nv most,.ow (a0g ks),s4,s5]) (fun _ _ _=>trivial) ?_ (fun ρ ⟨ks,ps,s4,s5,B,h1,_,e⟩=>hM ρ ⟨ks,ps,s4,s5,B,h1,e⟩) ⟨[],[],.un,.un,a1c rows,rfl,(fun i hi=>absurd hi (Nat.not_lt_zero _)),rfl⟩
    rintro k _ M1 hk ⟨ks,ps,s4,s5,B,hkl,hno,rfl⟩ hM1
    rw [Int.zero_add]
    refine cutS (fun ρ=>ρ = [nv m,.vl (.lst (a0g rows)),nv most,.ow (a0g ks),nv k,nv (lef (rows.getD k 0) ks)]) (fun M2 hM2=>i0u rfl (i0p (by omega)) ⟨rfl,rows.getD k 0,ks,_,rfl,.inl rfl,hM2 _ rfl⟩) ?_
    rintro _ rfl
    by_cases z:lef (rows.getD k 0) ks = 0
    ·have sp:Spn (rows.take k) (rows.getD k 0):=(l0u B (by omega) _).mp ((i0g B.ech).mp z)
     rw [z]
     show aIfS _ _ _ _ _
     refine c0y (fun k hk=>b0j rfl rfl (by simp [D.depth]) (b:=true) rfl hk) ?_
     exact ⟨by simp,hq (some 8) (some k) (.lean ⟨hne,hk,hno,sp⟩)⟩
    ·refine cutS (fun ρ=>ρ = [nv m,.vl (.lst (a0g rows)),nv most,.ow (a0g ks),nv k,nv (lef (rows.getD k 0) ks)]) (fun M2 hM2=>b0j rfl rfl (by simp [D.depth]) (b:=false) ((h0j _ 0).trans (decide_eq_false z)) (hM2 _ rfl)) ?_
     rintro _ rfl
     refine ⟨by rw [a0t]; omega,hM1 _ ⟨_,_,nv k,nv (lef (rows.getD k 0) ks),a1d B (by omega) z,by simp [hkl],fun i hi=>?_,?_⟩⟩
     ·by_cases e:i = k
      ·subst e
       exact fun sp=>z ((i0g B.ech).mpr ((l0u B (by omega) _).mpr sp))
      ·exact hno i (by omega)
     ·rw [i0t]; rfl
   rintro _ ⟨ks,ps,s4,s5,B,hkl,rfl⟩
   have hF:=u0b hne hlt B hkl
   by_cases hmm:most < m
   ·show aIfS _ _ _ _ _
    refine c0y (fun k hk=>?_) ⟨by simp,hq (some 1) none (.many hF hmm)⟩
    have e:decide ((most:Int) < (m:Int)) = true:=decide_eq_true (by omega)
    rw [← e] at hk; exact hk
   ·refine cutS (fun ρ=>ρ = [nv m,.vl (.lst (a0g rows)),nv most,.ow (a0g ks),s4,s5]) (fun M hM=>?_) ?_
    ·show if decide ((most:Int) < (m:Int)) = true then _ else _
     rw [if_neg (by simp; omega)]
     exact hM _ rfl
    rintro _ rfl
    exact ⟨by simp,hq none none (.no hF (by omega))⟩
  ·show aIfS _ _ _ _ _
   refine c0y (fun k hk=>b0j rfl rfl (by simp [D.depth]) (b:=false) ?_ hk) ⟨by simp,hq (some 0) none (.fit hne)⟩
   show eqD (.int (((a0g rows).length:Nat):Int)) (.int (m:Int)) = false
   rw [a0t]
   exact (h0j _ _).trans (decide_eq_false hne)
end
theorem gE0 {a:Nat} {b:Int} {c:Bool} {ρ:En} {q:Ko} (h:decide ((a:Int) = b) = c) (hq:q (.d (.bl c)) ρ):gEq false (.d (.int (a:Int))) (.d (.int b)) ρ q:=b0j rfl rfl (by simp [D.depth]) (b:=c) (by unfold eqD; exact h) (by exact hq)
def u0n (c0 c1 c8:Addr):ASp:=fun ss q=>∃ (C:Addr) (fs:Option (List (Str × D))) (n k:Nat),((C = c0∧k = 0) ∨ (C = c1∧k = 1) ∨ (C = c8∧k = 8))∧(n = 0 ∨ n = 1 ∨ n = 8)∧ss = [.ex C fs,nv n]∧q (.d (.bl (decide (n = k)))) [.ex C fs,nv n]
section
variable {P:Program} {w:World} {K:PySem.W.Frag} {mg:Str→Option Value} {base:Heap}
def XF (K:PySem.W.Frag) (mg:Str→Option Value):Prop:=∃ C_NoFit C_Leans C_JoinError C_TooMany C_NoWidth C_NoRow C_NoName C_Nought C_Bare C_Loose C_NoAnswer C_NoText f_Leans:Addr,mg "NoFit" = some (.ref C_NoFit)∧mg "Leans" = some (.ref C_Leans)∧mg "JoinError" = some (.ref C_JoinError)∧mg "TooMany" = some (.ref C_TooMany)∧mg "NoWidth" = some (.ref C_NoWidth)∧mg "NoRow" = some (.ref C_NoRow)∧mg "NoName" = some (.ref C_NoName)∧mg "Nought" = some (.ref C_Nought)∧mg "Bare" = some (.ref C_Bare)∧mg "Loose" = some (.ref C_Loose)∧mg "NoAnswer" = some (.ref C_NoAnswer)∧mg "NoText" = some (.ref C_NoText)∧mg "ValueError" = none∧PySem.W.excIn K C_NoFit bmV "ValueError.__new__" = true∧v0x K C_Leans f_Leans "place" "Leans.__init__" e0i ["self", "place"]∧v0y K C_JoinError∧PySem.W.excIn K C_TooMany bmV "ValueError.__new__" = true∧h0i K C_JoinError = true∧PySem.W.subIn K (.ref C_NoFit) (.ref C_JoinError) = some true∧PySem.W.subIn K (.ref C_TooMany) (.ref C_JoinError) = some true∧PySem.W.subIn K (.ref C_Leans) (.ref C_JoinError) = some true∧ExIs K C_NoFit∧PySem.W.kitOne K (.ref C_NoFit) (.ref C_NoFit) = some true∧PySem.W.kitOne K (.ref C_NoFit) (.ref C_TooMany) = some false∧PySem.W.kitOne K (.ref C_NoFit) (.ref C_NoWidth) = some false∧PySem.W.kitOne K (.ref C_NoFit) (.type "ValueError") = some true∧PySem.W.kitOne K (.ref C_NoFit) (.ref C_NoRow) = some false∧PySem.W.kitOne K (.ref C_NoFit) (.ref C_NoName) = some false∧PySem.W.kitOne K (.ref C_NoFit) (.ref C_Nought) = some false∧PySem.W.kitOne K (.ref C_NoFit) (.ref C_Bare) = some false∧PySem.W.kitOne K (.ref C_NoFit) (.ref C_Loose) = some false∧PySem.W.kitOne K (.ref C_NoFit) (.ref C_Leans) = some false∧PySem.W.kitOne K (.ref C_NoFit) (.ref C_NoAnswer) = some false∧PySem.W.kitOne K (.ref C_NoFit) (.ref C_NoText) = some false∧ExIs K C_TooMany∧PySem.W.kitOne K (.ref C_TooMany) (.ref C_NoFit) = some false∧PySem.W.kitOne K (.ref C_TooMany) (.ref C_TooMany) = some true∧PySem.W.kitOne K (.ref C_TooMany) (.ref C_NoWidth) = some false∧PySem.W.kitOne K (.ref C_TooMany) (.type "ValueError") = some true∧PySem.W.kitOne K (.ref C_TooMany) (.ref C_NoRow) = some false∧PySem.W.kitOne K (.ref C_TooMany) (.ref C_NoName) = some false∧PySem.W.kitOne K (.ref C_TooMany) (.ref C_Nought) = some false∧PySem.W.kitOne K (.ref C_TooMany) (.ref C_Bare) = some false∧PySem.W.kitOne K (.ref C_TooMany) (.ref C_Loose) = some false∧PySem.W.kitOne K (.ref C_TooMany) (.ref C_Leans) = some false∧PySem.W.kitOne K (.ref C_TooMany) (.ref C_NoAnswer) = some false∧PySem.W.kitOne K (.ref C_TooMany) (.ref C_NoText) = some false∧ExIs K C_Leans∧PySem.W.kitOne K (.ref C_Leans) (.ref C_NoFit) = some false∧PySem.W.kitOne K (.ref C_Leans) (.ref C_TooMany) = some false∧PySem.W.kitOne K (.ref C_Leans) (.ref C_NoWidth) = some false∧PySem.W.kitOne K (.ref C_Leans) (.type "ValueError") = some true∧PySem.W.kitOne K (.ref C_Leans) (.ref C_NoRow) = some false∧PySem.W.kitOne K (.ref C_Leans) (.ref C_NoName) = some false∧PySem.W.kitOne K (.ref C_Leans) (.ref C_Nought) = some false∧PySem.W.kitOne K (.ref C_Leans) (.ref C_Bare) = some false∧PySem.W.kitOne K (.ref C_Leans) (.ref C_Loose) = some false∧PySem.W.kitOne K (.ref C_Leans) (.ref C_Leans) = some true∧PySem.W.kitOne K (.ref C_Leans) (.ref C_NoAnswer) = some false∧PySem.W.kitOne K (.ref C_Leans) (.ref C_NoText) = some false∧ExG K C_Leans "place"
theorem XF.mk {K:PySem.W.Frag} {mg:Str→Option Value} {h:Heap} {C_NoFit C_Leans C_JoinError C_TooMany C_NoWidth C_NoRow C_NoName C_Nought C_Bare C_Loose C_NoAnswer C_NoText f_Leans:Addr} {oc_Leans kV_Leans doc_Leans pm_Leans cdv_Leans ct_Leans:Value} {od_Leans an_Leans:Option Addr} {osl_Leans:Array (Option Value)} (KX:K.In h) (G:h.Ns mainGlobals mg) (f0:PySem.W.nsIn K mainGlobals "NoFit" = some (some (.ref C_NoFit))) (f1:PySem.W.nsIn K mainGlobals "Leans" = some (some (.ref C_Leans))) (f2:PySem.W.nsIn K mainGlobals "JoinError" = some (some (.ref C_JoinError))) (f3:PySem.W.nsIn K mainGlobals "TooMany" = some (some (.ref C_TooMany))) (f4:PySem.W.nsIn K mainGlobals "NoWidth" = some (some (.ref C_NoWidth))) (f5:PySem.W.nsIn K mainGlobals "NoRow" = some (some (.ref C_NoRow))) (f6:PySem.W.nsIn K mainGlobals "NoName" = some (some (.ref C_NoName))) (f7:PySem.W.nsIn K mainGlobals "Nought" = some (some (.ref C_Nought))) (f8:PySem.W.nsIn K mainGlobals "Bare" = some (some (.ref C_Bare))) (f9:PySem.W.nsIn K mainGlobals "Loose" = some (some (.ref C_Loose))) (f10:PySem.W.nsIn K mainGlobals "NoAnswer" = some (some (.ref C_NoAnswer))) (f11:PySem.W.nsIn K mainGlobals "NoText" = some (some (.ref C_NoText))) (f12:PySem.W.nsIn K mainGlobals "ValueError" = some none) (f13:PySem.W.excIn K C_NoFit bmV "ValueError.__new__" = true) (f14_0:PySem.W.findIn K (.ref C_Leans) "__init__" = some (some (.ref f_Leans))) (f14_1:K.lookup f_Leans = some ⟨oc_Leans,od_Leans,.func (PySem.W.fnOf "__init__" "Leans.__init__" (f0v e0i) (d0k e0i) (a0j e0i) .none kV_Leans doc_Leans pm_Leans an_Leans cdv_Leans ct_Leans),osl_Leans⟩) (f14_2:PySem.W.codeIn K cdv_Leans "Leans.__init__" = true) (f14_3:PySem.W.keepIn K (.ref f_Leans) = true) (f14_4:l0m K C_Leans f_Leans = true) (f14_5:PySem.W.typeIn K (.ref f_Leans) = some (.type "function")) (f14_6:PySem.W.findIn K (.ref C_Leans) "__setattr__" = some (some (.builtin "object.__setattr__"))) (f14_7:PySem.W.findIn K (.ref C_Leans) "place" = some none) (f15_0:PySem.W.specialIn K (.ref C_JoinError) "__getattribute__" = some (some (.builtin "type.__getattribute__"))) (f15_1:PySem.W.readsIn K C_JoinError (.type "type") = true) (f15_2:PySem.W.findCls K (.ref C_JoinError) (.type "type") "__init__" = some (.val (.builtin "ValueError.__init__"))) (f16:PySem.W.excIn K C_TooMany bmV "ValueError.__new__" = true) (f17:PySem.W.excIn K C_JoinError bmV "ValueError.__new__" = true) (f18:PySem.W.subIn K (.ref C_NoFit) (.ref C_JoinError) = some true) (f19:PySem.W.subIn K (.ref C_TooMany) (.ref C_JoinError) = some true) (f20:PySem.W.subIn K (.ref C_Leans) (.ref C_JoinError) = some true) (f21_0:PySem.W.findIn K (.ref C_NoFit) "__getattribute__" = some (some (.builtin "BaseException.__getattribute__"))) (f21_1:PySem.W.findIn K (.ref C_NoFit) "__getattr__" = some none) (f21_2:PySem.W.hasDictIn K C_NoFit = true) (f21_3:PySem.W.findIn K (.ref C_NoFit) "__class__" = some (some (.builtin "object.__class__"))) (f21_4:PySem.W.specialIn K (.builtin "object.__class__") "__get__" = some (some (.builtin "getset_descriptor.__get__"))) (f21_5:PySem.W.takesIn K (.builtin "object.__class__") = some true) (f21_6:PySem.W.mroIn K C_NoFit (.type "object") = some true) (f21_7:PySem.W.subIn K (.ref C_NoFit) (.type "BaseException") = some true) (f22:PySem.W.kitOne K (.ref C_NoFit) (.ref C_NoFit) = some true) (f23:PySem.W.kitOne K (.ref C_NoFit) (.ref C_TooMany) = some false) (f24:PySem.W.kitOne K (.ref C_NoFit) (.ref C_NoWidth) = some false) (f25:PySem.W.kitOne K (.ref C_NoFit) (.type "ValueError") = some true) (f26:PySem.W.kitOne K (.ref C_NoFit) (.ref C_NoRow) = some false) (f27:PySem.W.kitOne K (.ref C_NoFit) (.ref C_NoName) = some false) (f28:PySem.W.kitOne K (.ref C_NoFit) (.ref C_Nought) = some false) (f29:PySem.W.kitOne K (.ref C_NoFit) (.ref C_Bare) = some false) (f30:PySem.W.kitOne K (.ref C_NoFit) (.ref C_Loose) = some false) (f31:PySem.W.kitOne K (.ref C_NoFit) (.ref C_Leans) = some false) (f32:PySem.W.kitOne K (.ref C_NoFit) (.ref C_NoAnswer) = some false) (f33:PySem.W.kitOne K (.ref C_NoFit) (.ref C_NoText) = some false) (f34_0:PySem.W.findIn K (.ref C_TooMany) "__getattribute__" = some (some (.builtin "BaseException.__getattribute__"))) (f34_1:PySem.W.findIn K (.ref C_TooMany) "__getattr__" = some none) (f34_2:PySem.W.hasDictIn K C_TooMany = true) (f34_3:PySem.W.findIn K (.ref C_TooMany) "__class__" = some (some (.builtin "object.__class__"))) (f34_4:PySem.W.specialIn K (.builtin "object.__class__") "__get__" = some (some (.builtin "getset_descriptor.__get__"))) (f34_5:PySem.W.takesIn K (.builtin "object.__class__") = some true) (f34_6:PySem.W.mroIn K C_TooMany (.type "object") = some true) (f34_7:PySem.W.subIn K (.ref C_TooMany) (.type "BaseException") = some true) (f35:PySem.W.kitOne K (.ref C_TooMany) (.ref C_NoFit) = some false) (f36:PySem.W.kitOne K (.ref C_TooMany) (.ref C_TooMany) = some true) (f37:PySem.W.kitOne K (.ref C_TooMany) (.ref C_NoWidth) = some false) (f38:PySem.W.kitOne K (.ref C_TooMany) (.type "ValueError") = some true) (f39:PySem.W.kitOne K (.ref C_TooMany) (.ref C_NoRow) = some false) (f40:PySem.W.kitOne K (.ref C_TooMany) (.ref C_NoName) = some false) (f41:PySem.W.kitOne K (.ref C_TooMany) (.ref C_Nought) = some false) (f42:PySem.W.kitOne K (.ref C_TooMany) (.ref C_Bare) = some false) (f43:PySem.W.kitOne K (.ref C_TooMany) (.ref C_Loose) = some false) (f44:PySem.W.kitOne K (.ref C_TooMany) (.ref C_Leans) = some false) (f45:PySem.W.kitOne K (.ref C_TooMany) (.ref C_NoAnswer) = some false) (f46:PySem.W.kitOne K (.ref C_TooMany) (.ref C_NoText) = some false) (f47_0:PySem.W.findIn K (.ref C_Leans) "__getattribute__" = some (some (.builtin "BaseException.__getattribute__"))) (f47_1:PySem.W.findIn K (.ref C_Leans) "__getattr__" = some none) (f47_2:PySem.W.hasDictIn K C_Leans = true) (f47_3:PySem.W.findIn K (.ref C_Leans) "__class__" = some (some (.builtin "object.__class__"))) (f47_4:PySem.W.specialIn K (.builtin "object.__class__") "__get__" = some (some (.builtin "getset_descriptor.__get__"))) (f47_5:PySem.W.takesIn K (.builtin "object.__class__") = some true) (f47_6:PySem.W.mroIn K C_Leans (.type "object") = some true) (f47_7:PySem.W.subIn K (.ref C_Leans) (.type "BaseException") = some true) (f48:PySem.W.kitOne K (.ref C_Leans) (.ref C_NoFit) = some false) (f49:PySem.W.kitOne K (.ref C_Leans) (.ref C_TooMany) = some false) (f50:PySem.W.kitOne K (.ref C_Leans) (.ref C_NoWidth) = some false) (f51:PySem.W.kitOne K (.ref C_Leans) (.type "ValueError") = some true) (f52:PySem.W.kitOne K (.ref C_Leans) (.ref C_NoRow) = some false) (f53:PySem.W.kitOne K (.ref C_Leans) (.ref C_NoName) = some false) (f54:PySem.W.kitOne K (.ref C_Leans) (.ref C_Nought) = some false) (f55:PySem.W.kitOne K (.ref C_Leans) (.ref C_Bare) = some false) (f56:PySem.W.kitOne K (.ref C_Leans) (.ref C_Loose) = some false) (f57:PySem.W.kitOne K (.ref C_Leans) (.ref C_Leans) = some true) (f58:PySem.W.kitOne K (.ref C_Leans) (.ref C_NoAnswer) = some false) (f59:PySem.W.kitOne K (.ref C_Leans) (.ref C_NoText) = some false) (f60_0:PySem.W.findIn K (.ref C_Leans) "__getattribute__" = some (some (.builtin "BaseException.__getattribute__"))) (f60_1:PySem.W.findIn K (.ref C_Leans) "__getattr__" = some none) (f60_2:PySem.W.hasDictIn K C_Leans = true) (f60_3:PySem.W.findIn K (.ref C_Leans) "__class__" = some (some (.builtin "object.__class__"))) (f60_4:PySem.W.specialIn K (.builtin "object.__class__") "__get__" = some (some (.builtin "getset_descriptor.__get__"))) (f60_5:PySem.W.takesIn K (.builtin "object.__class__") = some true) (f60_6:PySem.W.mroIn K C_Leans (.type "object") = some true) (f60_7:PySem.W.subIn K (.ref C_Leans) (.type "BaseException") = some true) (f60_8:PySem.W.findIn K (.ref C_Leans) "place" = some none) (f60_9:PySem.W.hasDictIn K C_Leans = true):XF K mg:=⟨C_NoFit,C_Leans,C_JoinError,C_TooMany,C_NoWidth,C_NoRow,C_NoName,C_Nought,C_Bare,C_Loose,C_NoAnswer,C_NoText,f_Leans,PySem.W.mg_of KX G f0,PySem.W.mg_of KX G f1,PySem.W.mg_of KX G f2,PySem.W.mg_of KX G f3,PySem.W.mg_of KX G f4,PySem.W.mg_of KX G f5,PySem.W.mg_of KX G f6,PySem.W.mg_of KX G f7,PySem.W.mg_of KX G f8,PySem.W.mg_of KX G f9,PySem.W.mg_of KX G f10,PySem.W.mg_of KX G f11,PySem.W.mg_none_of KX G f12,f13,b1y f14_0 f14_1 f14_2 f14_3 f14_4 f14_5 f14_6 f14_7 (fun _ _ _ _ _ _ us hl=>match us,hl with | [_,_],_=>rfl),⟨f15_0,f15_1,f15_2⟩,f16,z0o f17,f18,f19,f20,ExIs.of f21_0 f21_1 f21_2 f21_3 f21_4 f21_5 f21_6 f21_7,f22,f23,f24,f25,f26,f27,f28,f29,f30,f31,f32,f33,ExIs.of f34_0 f34_1 f34_2 f34_3 f34_4 f34_5 f34_6 f34_7,f35,f36,f37,f38,f39,f40,f41,f42,f43,f44,f45,f46,ExIs.of f47_0 f47_1 f47_2 f47_3 f47_4 f47_5 f47_6 f47_7,f48,f49,f50,f51,f52,f53,f54,f55,f56,f57,f58,f59,{ toExIs:=ExIs.of f60_0 f60_1 f60_2 f60_3 f60_4 f60_5 f60_6 f60_7,na:=f60_8,hd:=f60_9 }⟩
theorem p0h {C_NoFit C_Leans C_TooMany C_NoWidth C_NoRow C_NoName C_Nought C_Bare C_Loose C_NoAnswer C_NoText:Addr} (m_NoFit:mg "NoFit" = some (.ref C_NoFit)) (m_TooMany:mg "TooMany" = some (.ref C_TooMany)) (m_NoWidth:mg "NoWidth" = some (.ref C_NoWidth)) (n_ValueError:mg "ValueError" = none) (m_NoRow:mg "NoRow" = some (.ref C_NoRow)) (m_NoName:mg "NoName" = some (.ref C_NoName)) (m_Nought:mg "Nought" = some (.ref C_Nought)) (m_Bare:mg "Bare" = some (.ref C_Bare)) (m_Loose:mg "Loose" = some (.ref C_Loose)) (m_Leans:mg "Leans" = some (.ref C_Leans)) (m_NoAnswer:mg "NoAnswer" = some (.ref C_NoAnswer)) (m_NoText:mg "NoText" = some (.ref C_NoText)) (i_NoFit:ExIs K C_NoFit) (k_NoFit_NoFit:PySem.W.kitOne K (.ref C_NoFit) (.ref C_NoFit) = some true) (k_NoFit_TooMany:PySem.W.kitOne K (.ref C_NoFit) (.ref C_TooMany) = some false) (k_NoFit_NoWidth:PySem.W.kitOne K (.ref C_NoFit) (.ref C_NoWidth) = some false) (k_NoFit_ValueError:PySem.W.kitOne K (.ref C_NoFit) (.type "ValueError") = some true) (k_NoFit_NoRow:PySem.W.kitOne K (.ref C_NoFit) (.ref C_NoRow) = some false) (k_NoFit_NoName:PySem.W.kitOne K (.ref C_NoFit) (.ref C_NoName) = some false) (k_NoFit_Nought:PySem.W.kitOne K (.ref C_NoFit) (.ref C_Nought) = some false) (k_NoFit_Bare:PySem.W.kitOne K (.ref C_NoFit) (.ref C_Bare) = some false) (k_NoFit_Loose:PySem.W.kitOne K (.ref C_NoFit) (.ref C_Loose) = some false) (k_NoFit_Leans:PySem.W.kitOne K (.ref C_NoFit) (.ref C_Leans) = some false) (k_NoFit_NoAnswer:PySem.W.kitOne K (.ref C_NoFit) (.ref C_NoAnswer) = some false) (k_NoFit_NoText:PySem.W.kitOne K (.ref C_NoFit) (.ref C_NoText) = some false) (i_TooMany:ExIs K C_TooMany) (k_TooMany_NoFit:PySem.W.kitOne K (.ref C_TooMany) (.ref C_NoFit) = some false) (k_TooMany_TooMany:PySem.W.kitOne K (.ref C_TooMany) (.ref C_TooMany) = some true) (k_TooMany_NoWidth:PySem.W.kitOne K (.ref C_TooMany) (.ref C_NoWidth) = some false) (k_TooMany_ValueError:PySem.W.kitOne K (.ref C_TooMany) (.type "ValueError") = some true) (k_TooMany_NoRow:PySem.W.kitOne K (.ref C_TooMany) (.ref C_NoRow) = some false) (k_TooMany_NoName:PySem.W.kitOne K (.ref C_TooMany) (.ref C_NoName) = some false) (k_TooMany_Nought:PySem.W.kitOne K (.ref C_TooMany) (.ref C_Nought) = some false) (k_TooMany_Bare:PySem.W.kitOne K (.ref C_TooMany) (.ref C_Bare) = some false) (k_TooMany_Loose:PySem.W.kitOne K (.ref C_TooMany) (.ref C_Loose) = some false) (k_TooMany_Leans:PySem.W.kitOne K (.ref C_TooMany) (.ref C_Leans) = some false) (k_TooMany_NoAnswer:PySem.W.kitOne K (.ref C_TooMany) (.ref C_NoAnswer) = some false) (k_TooMany_NoText:PySem.W.kitOne K (.ref C_TooMany) (.ref C_NoText) = some false) (i_Leans:ExIs K C_Leans) (k_Leans_NoFit:PySem.W.kitOne K (.ref C_Leans) (.ref C_NoFit) = some false) (k_Leans_TooMany:PySem.W.kitOne K (.ref C_Leans) (.ref C_TooMany) = some false) (k_Leans_NoWidth:PySem.W.kitOne K (.ref C_Leans) (.ref C_NoWidth) = some false) (k_Leans_ValueError:PySem.W.kitOne K (.ref C_Leans) (.type "ValueError") = some true) (k_Leans_NoRow:PySem.W.kitOne K (.ref C_Leans) (.ref C_NoRow) = some false) (k_Leans_NoName:PySem.W.kitOne K (.ref C_Leans) (.ref C_NoName) = some false) (k_Leans_Nought:PySem.W.kitOne K (.ref C_Leans) (.ref C_Nought) = some false) (k_Leans_Bare:PySem.W.kitOne K (.ref C_Leans) (.ref C_Bare) = some false) (k_Leans_Loose:PySem.W.kitOne K (.ref C_Leans) (.ref C_Loose) = some false) (k_Leans_Leans:PySem.W.kitOne K (.ref C_Leans) (.ref C_Leans) = some true) (k_Leans_NoAnswer:PySem.W.kitOne K (.ref C_Leans) (.ref C_NoAnswer) = some false) (k_Leans_NoText:PySem.W.kitOne K (.ref C_Leans) (.ref C_NoText) = some false) (dn:DefN K mg "_law_alone" f0p ["_law_error", "_law_place"]) (B:BI mg):OkN P w K mg base 1 "_law_alone" ["_law_error", "_law_place"] (spA K (u0n C_NoFit C_TooMany C_Leans)):=by
 refine dn.aok2 (k:=0) d0w (fun j=>j == 0 || j == 1) [.un] (u0n C_NoFit C_TooMany C_Leans) rfl (fun f cdv A outer s H E hr=>have hu:=d0l hr; ⟨_,(a0f (b0f (i:=2) d0w.nd rfl (by first | exact Or.inl rfl | exact Or.inr rfl) (e0g (a0c (b0d (c0o K (c:=.ref C_NoFit) (u:=.ref C_NoFit) (fun _ h=>h)) rfl B.isinstance_ b0b (a0c (pv 0) (a0c (e0b (v:=.ref C_NoFit) rfl m_NoFit rfl) a0e))) (a0c (b0d (c0o K (c:=.ref C_TooMany) (u:=.ref C_TooMany) (fun _ h=>h)) rfl B.isinstance_ b0b (a0c (pv 0) (a0c (e0b (v:=.ref C_TooMany) rfl m_TooMany rfl) a0e))) (a0c (b0d (c0o K (c:=.ref C_NoWidth) (u:=.ref C_NoWidth) (fun _ h=>h)) rfl B.isinstance_ b0b (a0c (pv 0) (a0c (e0b (v:=.ref C_NoWidth) rfl m_NoWidth rfl) a0e))) a0e)))))
  (a0f (b0f (i:=2) d0w.nd rfl (by first | exact Or.inl rfl | exact Or.inr rfl) (b0o (n0n K) (pv 2) (e0g (a0c (b0d (c0o K (c:=.ref C_NoRow) (u:=.ref C_NoRow) (fun _ h=>h)) rfl B.isinstance_ b0b (a0c (pv 0) (a0c (e0b (v:=.ref C_NoRow) rfl m_NoRow rfl) a0e))) (a0c (b0d (c0o K (c:=.ref C_NoName) (u:=.ref C_NoName) (fun _ h=>h)) rfl B.isinstance_ b0b (a0c (pv 0) (a0c (e0b (v:=.ref C_NoName) rfl m_NoName rfl) a0e))) (a0c (b0d (c0o K (c:=.ref C_Nought) (u:=.ref C_Nought) (fun _ h=>h)) rfl B.isinstance_ b0b (a0c (pv 0) (a0c (e0b (v:=.ref C_Nought) rfl m_Nought rfl) a0e))) a0e))))))
  (a0f (b0f (i:=2) d0w.nd rfl (by first | exact Or.inl rfl | exact Or.inr rfl) (b0o (n0n K) (pv 2) (e0g (a0c (b0d (c0o K (c:=.ref C_Bare) (u:=.ref C_Bare) (fun _ h=>h)) rfl B.isinstance_ b0b (a0c (pv 0) (a0c (e0b (v:=.ref C_Bare) rfl m_Bare rfl) a0e))) (a0c (b0d (c0o K (c:=.ref C_Loose) (u:=.ref C_Loose) (fun _ h=>h)) rfl B.isinstance_ b0b (a0c (pv 0) (a0c (e0b (v:=.ref C_Loose) rfl m_Loose rfl) a0e))) (a0c (b0d (c0o K (c:=.ref C_Leans) (u:=.ref C_Leans) (fun _ h=>h)) rfl B.isinstance_ b0b (a0c (pv 0) (a0c (e0b (v:=.ref C_Leans) rfl m_Leans rfl) a0e))) a0e))))))
  (a0f (b0f (i:=2) d0w.nd rfl (by first | exact Or.inl rfl | exact Or.inr rfl) (b0o (n0n K) (pv 2) (e0g (a0c (b0d (c0o K (c:=.ref C_NoAnswer) (u:=.ref C_NoAnswer) (fun _ h=>h)) rfl B.isinstance_ b0b (a0c (pv 0) (a0c (e0b (v:=.ref C_NoAnswer) rfl m_NoAnswer rfl) a0e))) (a0c (b0d (c0o K (c:=.ref C_NoText) (u:=.ref C_NoText) (fun _ h=>h)) rfl B.isinstance_ b0b (a0c (pv 0) (a0c (e0b (v:=.ref C_NoText) rfl m_NoText rfl) a0e))) a0e)))))
  (a0k (b0s (m0k (b0d (c0o K (c:=.ty "ValueError") (u:=.type "ValueError") (fun _ h=>h)) rfl B.isinstance_ b0b (a0c (pv 0) (a0c (b1i (T := "ValueError") rfl n_ValueError (by decide +kernel)) a0e))) (m0k (k0n (j0e K hr.units) (k0o K PySem.F.plainAttrs_list PySem.F.slot_list_count PySem.F.type_list_count (y0m K) (pv 2) (a0c m0c a0e)) a0q (c0a _)) (t0k (i0a (d0h K) (pv 2) (pv 1) (fun _ _=>rfl))))))))))),(a0h (b0a (c0w (a0a d0z (a0a d0z (a0a d0z a0d)))) rfl)
  (a0h (b0a (a0s n0o a0b (c0w (a0a d0z (a0a d0z (a0a d0z a0d))))) rfl)
  (a0h (b0a (a0s n0o a0b (c0w (a0a d0z (a0a d0z (a0a d0z a0d))))) rfl)
  (a0h (b0a (a0s n0o a0b (c0w (a0a d0z (a0a d0z a0d)))) rfl)
  (b0e (g0u d0z (g0u (a0s j0f (e1m a0b (a0a h0d a0d)) a0o) (a0s f0f a0b a0b))))))))⟩) ?_
 rintro ss q ⟨C,fs,n,k,hC,hn,rfl,hq⟩
 refine ⟨rfl,rfl,?_⟩
 rcases hC with ⟨rfl,rfl⟩ | ⟨rfl,rfl⟩ | ⟨rfl,rfl⟩
 ·refine cutS (fun ρ=>ρ = [.ex C fs,nv n,.ow (([true,false,false]).map D.bl)]) (fun M hM=>⟨true,i_NoFit,k_NoFit_NoFit,false,i_NoFit,k_NoFit_TooMany,false,i_NoFit,k_NoFit_NoWidth,by simp,hM _ rfl⟩) ?_
  rintro _ rfl
  refine cutS (fun ρ=>ρ = [.ex C fs,nv n,.ow (([true,false,false,false,false,false]).map D.bl)]) (fun M hM=>⟨false,i_NoFit,k_NoFit_NoRow,false,i_NoFit,k_NoFit_NoName,false,i_NoFit,k_NoFit_Nought,by simp,by simp,hM _ rfl⟩) ?_
  rintro _ rfl
  refine cutS (fun ρ=>ρ = [.ex C fs,nv n,.ow (([true,false,false,false,false,false,false,false,false]).map D.bl)]) (fun M hM=>⟨false,i_NoFit,k_NoFit_Bare,false,i_NoFit,k_NoFit_Loose,false,i_NoFit,k_NoFit_Leans,by simp,by simp,hM _ rfl⟩) ?_
  rintro _ rfl
  refine cutS (fun ρ=>ρ = [.ex C fs,nv n,.ow (([true,false,false,false,false,false,false,false,false,false,false]).map D.bl)]) (fun M hM=>⟨false,i_NoFit,k_NoFit_NoAnswer,false,i_NoFit,k_NoFit_NoText,by simp,by simp,hM _ rfl⟩) ?_
  rintro _ rfl
  rcases hn with rfl | rfl | rfl
  all_goals exact ⟨true,i_NoFit,k_NoFit_ValueError,s0b ⟨rfl,gE0 (c:=true) rfl (i0u rfl rfl hq)⟩⟩
 ·refine cutS (fun ρ=>ρ = [.ex C fs,nv n,.ow (([false,true,false]).map D.bl)]) (fun M hM=>⟨false,i_TooMany,k_TooMany_NoFit,true,i_TooMany,k_TooMany_TooMany,false,i_TooMany,k_TooMany_NoWidth,by simp,hM _ rfl⟩) ?_
  rintro _ rfl
  refine cutS (fun ρ=>ρ = [.ex C fs,nv n,.ow (([false,true,false,false,false,false]).map D.bl)]) (fun M hM=>⟨false,i_TooMany,k_TooMany_NoRow,false,i_TooMany,k_TooMany_NoName,false,i_TooMany,k_TooMany_Nought,by simp,by simp,hM _ rfl⟩) ?_
  rintro _ rfl
  refine cutS (fun ρ=>ρ = [.ex C fs,nv n,.ow (([false,true,false,false,false,false,false,false,false]).map D.bl)]) (fun M hM=>⟨false,i_TooMany,k_TooMany_Bare,false,i_TooMany,k_TooMany_Loose,false,i_TooMany,k_TooMany_Leans,by simp,by simp,hM _ rfl⟩) ?_
  rintro _ rfl
  refine cutS (fun ρ=>ρ = [.ex C fs,nv n,.ow (([false,true,false,false,false,false,false,false,false,false,false]).map D.bl)]) (fun M hM=>⟨false,i_TooMany,k_TooMany_NoAnswer,false,i_TooMany,k_TooMany_NoText,by simp,by simp,hM _ rfl⟩) ?_
  rintro _ rfl
  rcases hn with rfl | rfl | rfl
  all_goals exact ⟨true,i_TooMany,k_TooMany_ValueError,s0b ⟨rfl,gE0 (c:=true) rfl (i0u rfl rfl hq)⟩⟩
 ·refine cutS (fun ρ=>ρ = [.ex C fs,nv n,.ow (([false,false,false]).map D.bl)]) (fun M hM=>⟨false,i_Leans,k_Leans_NoFit,false,i_Leans,k_Leans_TooMany,false,i_Leans,k_Leans_NoWidth,by simp,hM _ rfl⟩) ?_
  rintro _ rfl
  refine cutS (fun ρ=>ρ = [.ex C fs,nv n,.ow (([false,false,false,false,false,false]).map D.bl)]) (fun M hM=>⟨false,i_Leans,k_Leans_NoRow,false,i_Leans,k_Leans_NoName,false,i_Leans,k_Leans_Nought,by simp,by simp,hM _ rfl⟩) ?_
  rintro _ rfl
  refine cutS (fun ρ=>ρ = [.ex C fs,nv n,.ow (([false,false,false,false,false,false,false,false,true]).map D.bl)]) (fun M hM=>⟨false,i_Leans,k_Leans_Bare,false,i_Leans,k_Leans_Loose,true,i_Leans,k_Leans_Leans,by simp,by simp,hM _ rfl⟩) ?_
  rintro _ rfl
  refine cutS (fun ρ=>ρ = [.ex C fs,nv n,.ow (([false,false,false,false,false,false,false,false,true,false,false]).map D.bl)]) (fun M hM=>⟨false,i_Leans,k_Leans_NoAnswer,false,i_Leans,k_Leans_NoText,by simp,by simp,hM _ rfl⟩) ?_
  rintro _ rfl
  rcases hn with rfl | rfl | rfl
  all_goals exact ⟨true,i_Leans,k_Leans_ValueError,s0b ⟨rfl,gE0 (c:=true) rfl (i0u rfl rfl hq)⟩⟩
end
def g1w (c0 c1 c8:Addr):ASp:=fun ss q=>∃ (m:Nat) (rows:List Nat) (few:Bool),ss = [.vl (b0l m rows),.vl (.bl few)]∧1 ≤ m∧m ≤ 12∧rows.length ≤ 14∧(∀ p,rows.getD p 0 < 2 ^ m) ∧
 ((rows.length ≠ m∧q (.x (.px (nD 0) c0 none)) [.vl (b0l m rows),.vl (.bl few)]) ∨
  (∃ p,h1e m rows p∧q (.x (.px (nD 8) c8 (some [("place",nD p)]))) [.vl (b0l m rows),.vl (.bl few)]) ∨
  (Full m rows∧few = true∧3 < m∧q (.x (.px (nD 1) c1 none)) [.vl (b0l m rows),.vl (.bl few)]) ∨
  (Full m rows∧few = true∧m ≤ 3∧∀ ds,q (.d (.tup [.non,.lst ds])) [.vl (b0l m rows),.vl (.bl few)]) ∨
  (Full m rows∧few = false∧∀ ds cs,cs.length = m→q (.d (.tup [.non,.tup [.lst ds,.lst (a0g cs)]])) [.vl (b0l m rows),.vl (.bl few)]))
theorem a1k {tt:AT} {A B:AS} {e:AEnds} {ρ:En} (h:∀ k:Bool→En→Prop,k false ρ→tt ρ k) (hb:B e ρ):aIfS tt A B e ρ:=by
 unfold aIfS
 exact h _ (by simpa using hb)
section
variable {P:Program} {w:World} {K:PySem.W.Frag} {mg:Str→Option Value} {base:Heap}
theorem r0k {C_NoFit C_Leans C_JoinError C_TooMany:Addr} (m_NoFit:mg "NoFit" = some (.ref C_NoFit)) (m_TooMany:mg "TooMany" = some (.ref C_TooMany)) (m_Leans:mg "Leans" = some (.ref C_Leans)) (m_JoinError:mg "JoinError" = some (.ref C_JoinError)) (ea_JoinError:h0i K C_JoinError = true) (s_NoFit_JoinError:PySem.W.subIn K (.ref C_NoFit) (.ref C_JoinError) = some true) (s_TooMany_JoinError:PySem.W.subIn K (.ref C_TooMany) (.ref C_JoinError) = some true) (s_Leans_JoinError:PySem.W.subIn K (.ref C_Leans) (.ref C_JoinError) = some true) (i_NoFit:ExIs K C_NoFit) (i_TooMany:ExIs K C_TooMany) (i_Leans:ExIs K C_Leans) (dn:DefN K mg "_law_told" g0x ["_law_wish", "_law_few"]) (B:BI mg) (g_law_alone:OkN P w K mg base 1 "_law_alone" ["_law_error", "_law_place"] (spA K (u0n C_NoFit C_TooMany C_Leans))) (g_fewest_steps:OkN P w K mg base 5 "fewest_steps" ["wish"] (spA K SFew)) (g_placed:OkN P w K mg base 5 "placed" ["wish"] (spA K s0p)) (x_fewest_steps_NoFit:OkX P w K mg base 5 "fewest_steps" ["wish"] C_NoFit none (spA K SUnF)) (x_placed_NoFit:OkX P w K mg base 5 "placed" ["wish"] C_NoFit none (spA K SUnF)) (x_fewest_steps_TooMany:OkX P w K mg base 5 "fewest_steps" ["wish"] C_TooMany none (spA K h1b)) (x_fewest_steps_Leans:OkX P w K mg base 5 "fewest_steps" ["wish"] C_Leans (some "place") (spA K SUnL)) (x_placed_Leans:OkX P w K mg base 5 "placed" ["wish"] C_Leans (some "place") (spA K SUnL)):OkN P w K mg base 6 "_law_told" ["_law_wish", "_law_few"] (spA K (g1w C_NoFit C_TooMany C_Leans)):=by
 refine dn.aok2 (k:=5) b0h (fun j=>j == 0 || j == 1) [.un,.un,.un,.un] (g1w C_NoFit C_TooMany C_Leans) rfl (fun f cdv A outer s H E hr=>have hu:=d0l hr; ⟨_,(a0f (b0f (i:=2) b0h.nd rfl (by first | exact Or.inl rfl | exact Or.inr rfl) h0g)
  (a0f (b0f (i:=3) b0h.nd rfl (by first | exact Or.inl rfl | exact Or.inr rfl) h0g)
  (a0f (x0w (x0w (x0w (x0w (x0w (f1c (a0k (b0f (i:=2) b0h.nd rfl (by first | exact Or.inl rfl | exact Or.inr rfl) (t0l (h0y K (pv 1) (fun _=>rfl)) (b0y g_fewest_steps (hr.mono (by decide)) (a0c (pv 0) a0e)) (b0y g_placed (hr.mono (by decide)) (a0c (pv 0) a0e))))))
  (k0m x_fewest_steps_NoFit (hr.mono (by decide)) rfl rfl rfl rfl (a0c (pv 0) a0e) (k0s (i:=1) (b:=true) rfl (by first | exact Or.inl rfl | exact Or.inr (Or.inl rfl) | exact Or.inr (Or.inr rfl)) rfl) (fun od=>(p0z (i:=4) rfl m_JoinError ea_JoinError s_NoFit_JoinError b0h.nd rfl rfl (fun a =>
  (a0k (b0f (i:=3) b0h.nd rfl (by first | exact Or.inl rfl | exact Or.inr rfl) (pv 4))))))))
  (k0m x_placed_NoFit (hr.mono (by decide)) rfl rfl rfl rfl (a0c (pv 0) a0e) (k0s (i:=1) (b:=false) rfl (by first | exact Or.inl rfl | exact Or.inr (Or.inl rfl) | exact Or.inr (Or.inr rfl)) rfl) (fun od=>(p0z (i:=4) rfl m_JoinError ea_JoinError s_NoFit_JoinError b0h.nd rfl rfl (fun a =>
  (a0k (b0f (i:=3) b0h.nd rfl (by first | exact Or.inl rfl | exact Or.inr rfl) (pv 4))))))))
  (k0m x_fewest_steps_TooMany (hr.mono (by decide)) rfl rfl rfl rfl (a0c (pv 0) a0e) (k0s (i:=1) (b:=true) rfl (by first | exact Or.inl rfl | exact Or.inr (Or.inl rfl) | exact Or.inr (Or.inr rfl)) rfl) (fun od=>(p0z (i:=4) rfl m_JoinError ea_JoinError s_TooMany_JoinError b0h.nd rfl rfl (fun a =>
  (a0k (b0f (i:=3) b0h.nd rfl (by first | exact Or.inl rfl | exact Or.inr rfl) (pv 4))))))))
  (k0m x_fewest_steps_Leans (hr.mono (by decide)) rfl rfl rfl rfl (a0c (pv 0) a0e) (k0s (i:=1) (b:=true) rfl (by first | exact Or.inl rfl | exact Or.inr (Or.inl rfl) | exact Or.inr (Or.inr rfl)) rfl) (fun od=>(p0z (i:=4) rfl m_JoinError ea_JoinError s_Leans_JoinError b0h.nd rfl rfl (fun a =>
  (a0k (b0f (i:=3) b0h.nd rfl (by first | exact Or.inl rfl | exact Or.inr rfl) (pv 4))))))))
  (k0m x_placed_Leans (hr.mono (by decide)) rfl rfl rfl rfl (a0c (pv 0) a0e) (k0s (i:=1) (b:=false) rfl (by first | exact Or.inl rfl | exact Or.inr (Or.inl rfl) | exact Or.inr (Or.inr rfl)) rfl) (fun od=>(p0z (i:=4) rfl m_JoinError ea_JoinError s_Leans_JoinError b0h.nd rfl rfl (fun a =>
  (a0k (b0f (i:=3) b0h.nd rfl (by first | exact Or.inl rfl | exact Or.inr rfl) (pv 4))))))))
  (a0f (e0s (b0n d1j (pv 3) h0g (c0a _))
  (a0k (b0s (e0e (a0c h0g (a0c (pv 2) a0e)))))
  b0x)
  (a0f (e0v PassesOwn.never rfl (g0i K (e0e (a0c a0q (a0c a0q (a0c a0q a0e))))) (a0r (i:=5) b0h.nd rfl (by first | exact Or.inl rfl | exact Or.inr rfl))
  (a0k (e0s (t0e (b0y g_law_alone (hr.mono (by decide)) (a0c (pv 3) (a0c (pv 5) a0e))))
  (a0k (b0s (e0e (a0c (pv 5) (a0c (pv 3) a0e)))))
  b0x)))
  (a0k (b0s (e0e (a0c a0q (a0c h0g a0e)))))))))),(a0h (b0a e0l rfl)
  (a0h (b0a e0l rfl)
  (a0h (k0i (k0i (k0i (k0i (k0i (b0a (c1w (j0q a0b) (a0m (a0a a0b a0d)) (a0m (a0a a0b a0d))) rfl)
  (h0t (i:=1) (b:=true) (h0u (a0a a0b a0d)
  (i0n rfl (b0a a0b rfl)))))
  (h0t (i:=1) (b:=false) (h0u (a0a a0b a0d)
  (i0n rfl (b0a a0b rfl)))))
  (h0t (i:=1) (b:=true) (h0u (a0a a0b a0d)
  (i0n rfl (b0a a0b rfl)))))
  (h0t (i:=1) (b:=true) (h0u (a0a a0b a0d)
  (i0n rfl (b0a a0b rfl)))))
  (h0t (i:=1) (b:=false) (h0u (a0a a0b a0d)
  (i0n rfl (b0a a0b rfl)))))
  (a0h (c0h (a0z (a0s y0h a0b e0l))
  (b0e (d0d (a0a e0l (a0a a0b a0d))))
  a0w)
  (a0h (c0x (pin:=(fun _=>false)) (e0t (d0d (a0a a0o (a0a a0o (a0a a0o a0d))))) (a0i rfl)
  (c0h (o0q (a0m (a0a a0b (a0a a0b a0d))))
  (b0e (a1s a0b))
  a0w))
  (b0e (d0d (a0a a0o (a0a e0l a0d)))))))))⟩) ?_
 rintro ss q ⟨m,rows,few,rfl,h1,hm,hl,hlt,hq⟩
 refine ⟨rfl,rfl,?_⟩
 refine cutS (fun ρ=>ρ = [.vl (b0l m rows),.vl (.bl few),.vl .non,.un,.un,.un]) (fun M hM=>hM _ rfl) ?_
 rintro _ rfl
 refine cutS (fun ρ=>ρ = [.vl (b0l m rows),.vl (.bl few),.vl .non,.vl .non,.un,.un]) (fun M hM=>hM _ rfl) ?_
 rintro _ rfl
 refine cutS (fun ρ=>(∃ d,q (.d (.tup [.non,d])) [.vl (b0l m rows),.vl (.bl few)]∧ρ = [.vl (b0l m rows),.vl (.bl few),.vl d,.vl .non,.un,.un]) ∨ (∃ C fs k,((C = C_NoFit∧k = 0) ∨ (C = C_TooMany∧k = 1) ∨ (C = C_Leans∧k = 8))∧q (.x (.px (nD k) C fs)) [.vl (b0l m rows),.vl (.bl few)]∧ρ = [.vl (b0l m rows),.vl (.bl few),.vl .non,.ex C fs,.un,.un])) (fun M hM=>?_) ?_
 ·rcases hq with ⟨hne,hq⟩ | ⟨p,L,hq⟩ | ⟨hF,rfl,h3,hq⟩ | ⟨hF,rfl,h3,hq⟩ | ⟨hF,rfl,hq⟩
  ·cases few with
   | true=>exact .inl (.inl (.inl (.inl (.inr ⟨rfl,rfl,m,rows,rfl,hne,hM _ (.inr ⟨_,_,0,.inl ⟨rfl,rfl⟩,hq,rfl⟩)⟩))))
   | false=>exact .inl (.inl (.inl (.inr ⟨rfl,rfl,m,rows,rfl,hne,hM _ (.inr ⟨_,_,0,.inl ⟨rfl,rfl⟩,hq,rfl⟩)⟩)))
  ·cases few with
   | true=>exact .inl (.inr ⟨rfl,rfl,m,rows,p,rfl,hm,L,hM _ (.inr ⟨_,_,8,.inr (.inr ⟨rfl,rfl⟩),hq,rfl⟩)⟩)
   | false=>exact .inr ⟨rfl,rfl,m,rows,p,rfl,hm,L,hM _ (.inr ⟨_,_,8,.inr (.inr ⟨rfl,rfl⟩),hq,rfl⟩)⟩
  ·exact .inl (.inl (.inr ⟨rfl,rfl,m,rows,rfl,hm,h3,hF,hM _ (.inr ⟨_,_,1,.inr (.inl ⟨rfl,rfl⟩),hq,rfl⟩)⟩))
  ·obtain ⟨wy,hw⟩:=g1c h1 h3 hF hlt
   exact .inl (.inl (.inl (.inl (.inl ⟨rfl,m,rows,wy,h1,h3,hw,rfl,hM _ (.inl ⟨_,hq _,rfl⟩)⟩))))
  ·exact .inl (.inl (.inl (.inl (.inl ⟨rfl,m,rows,rfl,hm,hF,hlt,fun held ps und G=>hM _ (.inl ⟨_,hq _ _ (by simp),rfl⟩)⟩))))
 rintro _ (⟨d,hd,rfl⟩ | ⟨C,fs,k,hC,hd,rfl⟩)
 ·show aIfS _ _ _ _ _
  exact c0y (fun k hk=>hk) ⟨by simp,hd⟩
 ·refine cutS (fun ρ=>ρ = [.vl (b0l m rows),.vl (.bl few),.vl .non,.ex C fs,.un,.un]) (fun M hM=>⟨rfl,hM _ rfl⟩) ?_
  rintro _ rfl
  refine ⟨by simp,trivial,?_⟩
  have step:∀ n,(n = 0 ∨ n = 1 ∨ n = 8)→∀ kk:Bool→En→Prop,kk (decide (n = k)) [.vl (b0l m rows),.vl (.bl few),.vl .non,.ex C fs,.un,nv n]→aB (g1u (u0n C_NoFit C_TooMany C_Leans) (g1t (aVar 3) (g1t (aVar 5) aNil))) [.vl (b0l m rows),.vl (.bl few),.vl .non,.ex C fs,.un,nv n] kk:=fun n hn kk hk=>⟨rfl,C,fs,n,k,hC,hn,rfl,hk⟩
  rcases hC with ⟨e,rfl⟩ | ⟨e,rfl⟩ | ⟨e,rfl⟩
  ·exact c0y (fun kk hk=>step 0 (.inl rfl) kk hk) hd
  ·exact a1k (fun kk hk=>step 0 (.inl rfl) kk hk) ⟨trivial,c0y (fun kk hk=>step 1 (.inr (.inl rfl)) kk hk) hd⟩
  ·exact a1k (fun kk hk=>step 0 (.inl rfl) kk hk) ⟨trivial,a1k (fun kk hk=>step 1 (.inr (.inl rfl)) kk hk) ⟨trivial,c0y (fun kk hk=>step 8 (.inr (.inr rfl)) kk hk) hd⟩⟩
end
def a1l:ASp:=fun ss q=>∃ (m:Nat) (rows:List Nat) (few:Bool) (s1:Sv),ss = [nv m,s1,.vl (.bl few)]∧f1w s1 (a0g rows)∧1 ≤ m∧m ≤ 12∧rows.length ≤ 14∧(∀ r ∈ rows,r < 2 ^ m)∧q (.d (.bl true)) [nv m,s1,.vl (.bl few)]
section
variable {P:Program} {w:World} {K:PySem.W.Frag} {mg:Str→Option Value} {base:Heap}
theorem p0g {C_NoFit C_Leans C_TooMany:Addr} (g_Leans:ExG K C_Leans "place") (i_NoFit:ExIs K C_NoFit) (i_TooMany:ExIs K C_TooMany) (i_Leans:ExIs K C_Leans) (dn:DefN K mg "_law_right" f0o ["_law_many", "_law_rows", "_law_few"]) (B:BI mg) (g_law_due:OkN P w K mg base 2 "_law_due" ["_law_many", "_law_rows", "_law_most"] (spA K SDue)) (g_law_told:OkN P w K mg base 6 "_law_told" ["_law_wish", "_law_few"] (spA K (g1w C_NoFit C_TooMany C_Leans))) (g_law_whole:OkN P w K mg base 1 "_law_whole" ["_law_found"] (spA K l0x)):OkN P w K mg base 7 "_law_right" ["_law_many", "_law_rows", "_law_few"] (spA K a1l):=by
 refine dn.aok2 (k:=6) d0v (fun j=>j == 0 || j == 1 || j == 2) [.un,.un,.un,.un] a1l rfl (fun f cdv A outer s H E hr=>have hu:=d0l hr; ⟨_,(a0f (e0d (b0y g_law_due (hr.mono (by decide)) (a0c (pv 0) (a0c (pv 1) (a0c (i0a (d0h K) (e0g (a0c a0q (a0c a0q a0e))) (d0x q0m rfl B.int_ a1b (a0c (pv 2) a0e)) (fun _ _=>rfl)) a0e)))) (c0u K (n:=2) rfl (a0x (a0r (i:=3) d0v.nd rfl (by first | exact Or.inl rfl | exact Or.inr rfl)) (a0x (a0r (i:=4) d0v.nd rfl (by first | exact Or.inl rfl | exact Or.inr rfl)) c0t))))
  (a0f (e0d (b0y g_law_told (hr.mono (by decide)) (a0c (e0e (a0c (pv 0) (a0c (d0x (h0p K) rfl B.tuple_ o0i (a0c (pv 1) a0e)) a0e))) (a0c (pv 2) a0e))) (c0u K (n:=2) rfl (a0x (a0r (i:=5) d0v.nd rfl (by first | exact Or.inl rfl | exact Or.inr rfl)) (a0x (a0r (i:=6) d0v.nd rfl (by first | exact Or.inl rfl | exact Or.inr rfl)) c0t))))
  (a0f (e0s (b0n (k0q K hr.units) (pv 5) (pv 3) (c0a _))
  (a0k (b0s m0c))
  b0x)
  (a0f (e0s (b0n (j0e K hr.units) (pv 3) a0q (c0a _))
  (a0k (b0s (m0k (b0y g_law_whole (hr.mono (by decide)) (a0c (y0a (pv 6)) a0e)) (t0k (k0n (j0e K hr.units) (y0a (pv 6)) (pv 4) (c0a _))))))
  b0x)
  (a0f (e0s (b0n d1j (pv 3) h0g (c0a _))
  (a0k (b0s (t0l (h0y K (pv 2) (fun _=>rfl)) (b0d (l0s K) rfl B.isinstance_ b0b (a0c (pv 6) (a0c (b1i rfl B.list_ o0j) a0e))) (k0n (j0e K hr.units) (b0d (c0n K) rfl B.len_ g0a (a0c (i0a (d0h K) (pv 6) a0q (fun _ _=>rfl)) a0e)) (pv 0) (c0a _)))))
  b0x)
  (a0k (b0s m0c))))))),(a0h (e0n (a0m (a0a a0b (a0a a0b (a0a (a0s f0f (c0w (a0a a0o (a0a a0o a0d))) (c0z u0i (a0a a0b a0d))) a0d)))) (c0c (a0n (a0i rfl) (a0n (a0i rfl) b0r (fun _ _ _=>b0g)) (fun _ _ _=>b0g))))
  (a0h (x0h (a0m (a0a (d0d (a0a a0b (a0a (c0z i0x (a0a a0b a0d)) a0d))) (a0a a0b a0d))) rfl rfl)
  (a0h (c0h (a0z (a0s k0r a0b a0b))
  (b0e h0d)
  a0w)
  (a0h (c0h (a0z (a0s j0f a0b a0o))
  (b0e (g0u (a0m (a0a s0w a0d)) (a0s j0f s0w a0b)))
  a0w)
  (a0h (c0h (a0z (a0s y0h a0b e0l))
  (b0e (c1w (j0q a0b) (c0z o0g (a0a a0b (a0a w0k a0d))) (a0s j0f (c0z e0j (a0a (a0s f0f a0b a0o) a0d)) a0b)))
  a0w)
  (b0e h0d))))))⟩) ?_
 rintro ss q ⟨m,rows,few,s1,rfl,hs1,h1,hm,hl,hlt,hq⟩
 have hlt':∀ p,rows.getD p 0 < 2 ^ m:=y0o (Nat.two_pow_pos m) hlt
 rcases hs1 with rfl | rfl
 ·refine ⟨rfl,rfl,?_⟩
  refine cutS (fun ρ=>∃ a b,Due m rows (if few then 3 else 12) a b∧ρ = [nv m,.ow (a0g rows),.vl (.bl few),.vl (m0l a),.vl (m0l b),.un,.un]) (fun M hM=>?_) ?_
  ·cases few with
   | true=>exact ⟨by simp,i0u (i:=1) (ds:=[.int 12,.int 3]) (d:=.int 3) rfl rfl ⟨rfl,m,3,rows,_,rfl,.inl rfl,hm,hl,hlt,fun a b W=>hM _ ⟨a,b,W,rfl⟩⟩⟩
   | false=>exact ⟨by simp,i0u (i:=0) (ds:=[.int 12,.int 3]) (d:=.int 12) rfl rfl ⟨rfl,m,12,rows,_,rfl,.inl rfl,hm,hl,hlt,fun a b W=>hM _ ⟨a,b,W,rfl⟩⟩⟩
  rintro _ ⟨a,b,W,rfl⟩
  cases W with
  | fit hne =>
   refine cutS (fun ρ=>ρ = [nv m,.ow (a0g rows),.vl (.bl few),.vl (nD 0),.vl .non,.vl (nD 0),.ex C_NoFit none]) (fun M hM=>⟨by simp,rfl,m,rows,few,rfl,h1,hm,hl,hlt',.inl ⟨hne,hM _ rfl⟩⟩) ?_
   rintro _ rfl
   refine cutS (fun ρ=>ρ = [nv m,.ow (a0g rows),.vl (.bl few),.vl (nD 0),.vl .non,.vl (nD 0),.ex C_NoFit none]) (fun M hM=>b0j rfl rfl (by simp [L2.D.depth]) (b:=true) rfl (hM _ rfl)) ?_
   rintro _ rfl
   refine cutS (fun ρ=>ρ = [nv m,.ow (a0g rows),.vl (.bl few),.vl (nD 0),.vl .non,.vl (nD 0),.ex C_NoFit none]) (fun M hM=>b0j rfl rfl (by simp [L2.D.depth]) (b:=false) rfl (hM _ rfl)) ?_
   rintro _ rfl
   exact hq
  | @lean p L =>
   refine cutS (fun ρ=>ρ = [nv m,.ow (a0g rows),.vl (.bl few),.vl (nD 8),.vl (nD p),.vl (nD 8),.ex C_Leans (some [("place",nD p)])]) (fun M hM=>⟨by simp,rfl,m,rows,few,rfl,h1,hm,hl,hlt',.inr (.inl ⟨p,L,hM _ rfl⟩)⟩) ?_
   rintro _ rfl
   refine cutS (fun ρ=>ρ = [nv m,.ow (a0g rows),.vl (.bl few),.vl (nD 8),.vl (nD p),.vl (nD 8),.ex C_Leans (some [("place",nD p)])]) (fun M hM=>b0j rfl rfl (by simp [L2.D.depth]) (b:=true) rfl (hM _ rfl)) ?_
   rintro _ rfl
   show aIfS _ _ _ _ _
   refine c0y (fun k hk=>b0j rfl rfl (by simp [L2.D.depth]) (b:=true) rfl hk) ?_
   exact ⟨_,rfl,g_Leans,rfl,_,rfl,_,rfl,g_Leans,b0j rfl rfl (by simp [L2.D.depth]) (d0j _) hq⟩
  | many hF hmm =>
   have hfew:few = true:=by
    cases few with
    | true=>rfl
    | false=>have:12 < m:=hmm; omega
   subst hfew
   have h3:3 < m:=hmm
   refine cutS (fun ρ=>ρ = [nv m,.ow (a0g rows),.vl (.bl true),.vl (nD 1),.vl .non,.vl (nD 1),.ex C_TooMany none]) (fun M hM=>⟨by simp,rfl,m,rows,true,rfl,h1,hm,hl,hlt',.inr (.inr (.inl ⟨hF,rfl,h3,hM _ rfl⟩))⟩) ?_
   rintro _ rfl
   refine cutS (fun ρ=>ρ = [nv m,.ow (a0g rows),.vl (.bl true),.vl (nD 1),.vl .non,.vl (nD 1),.ex C_TooMany none]) (fun M hM=>b0j rfl rfl (by simp [L2.D.depth]) (b:=true) rfl (hM _ rfl)) ?_
   rintro _ rfl
   refine cutS (fun ρ=>ρ = [nv m,.ow (a0g rows),.vl (.bl true),.vl (nD 1),.vl .non,.vl (nD 1),.ex C_TooMany none]) (fun M hM=>b0j rfl rfl (by simp [L2.D.depth]) (b:=false) rfl (hM _ rfl)) ?_
   rintro _ rfl
   exact hq
  | no hF hmm =>
   cases few with
   | true =>
    refine cutS (fun ρ=>∃ ds,ρ = [nv m,.ow (a0g rows),.vl (.bl true),.vl .non,.vl .non,.vl .non,.vl (.lst ds)]) (fun M hM=>⟨by simp,rfl,m,rows,true,rfl,h1,hm,hl,hlt',.inr (.inr (.inr (.inl ⟨hF,rfl,hmm,fun ds=>hM _ ⟨ds,rfl⟩⟩)))⟩) ?_
    rintro _ ⟨ds,rfl⟩
    refine cutS (fun ρ=>ρ = [nv m,.ow (a0g rows),.vl (.bl true),.vl .non,.vl .non,.vl .non,.vl (.lst ds)]) (fun M hM=>b0j rfl rfl (by simp [L2.D.depth]) (b:=true) rfl (hM _ rfl)) ?_
    rintro _ rfl
    refine cutS (fun ρ=>ρ = [nv m,.ow (a0g rows),.vl (.bl true),.vl .non,.vl .non,.vl .non,.vl (.lst ds)]) (fun M hM=>b0j rfl rfl (by simp [L2.D.depth]) (b:=false) rfl (hM _ rfl)) ?_
    rintro _ rfl
    show aIfS _ _ _ _ _
    refine c0y (fun k hk=>hk) ?_
    exact f0b rfl h0h hq
   | false =>
    refine cutS (fun ρ=>∃ ds cs,cs.length = m∧ρ = [nv m,.ow (a0g rows),.vl (.bl false),.vl .non,.vl .non,.vl .non,.vl (.tup [.lst ds,.lst (a0g cs)])]) (fun M hM=>⟨by simp,rfl,m,rows,false,rfl,h1,hm,hl,hlt',.inr (.inr (.inr (.inr ⟨hF,rfl,fun ds cs hc=>hM _ ⟨ds,cs,hc,rfl⟩⟩)))⟩) ?_
    rintro _ ⟨ds,cs,hc,rfl⟩
    refine cutS (fun ρ=>ρ = [nv m,.ow (a0g rows),.vl (.bl false),.vl .non,.vl .non,.vl .non,.vl (.tup [.lst ds,.lst (a0g cs)])]) (fun M hM=>b0j rfl rfl (by simp [L2.D.depth]) (b:=true) rfl (hM _ rfl)) ?_
    rintro _ rfl
    refine cutS (fun ρ=>ρ = [nv m,.ow (a0g rows),.vl (.bl false),.vl .non,.vl .non,.vl .non,.vl (.tup [.lst ds,.lst (a0g cs)])]) (fun M hM=>b0j rfl rfl (by simp [L2.D.depth]) (b:=false) rfl (hM _ rfl)) ?_
    rintro _ rfl
    show aIfS _ _ _ _ _
    refine c0y (fun k hk=>hk) ?_
    refine c1e (i:=1) (ds:=[.lst ds,.lst (a0g cs)]) (d:=.lst (a0g cs)) rfl rfl ?_
    refine b0j rfl rfl (by simp [L2.D.depth]) (b:=true) ?_ hq
    show eqD (.int (((a0g cs).length:Nat):Int)) (.int (m:Int)) = true
    rw [a0t,hc]; exact d0j _
 ·refine ⟨rfl,rfl,?_⟩
  refine cutS (fun ρ=>∃ a b,Due m rows (if few then 3 else 12) a b∧ρ = [nv m,.vl (.lst (a0g rows)),.vl (.bl few),.vl (m0l a),.vl (m0l b),.un,.un]) (fun M hM=>?_) ?_
  ·cases few with
   | true=>exact ⟨by simp,i0u (i:=1) (ds:=[.int 12,.int 3]) (d:=.int 3) rfl rfl ⟨rfl,m,3,rows,_,rfl,.inr rfl,hm,hl,hlt,fun a b W=>hM _ ⟨a,b,W,rfl⟩⟩⟩
   | false=>exact ⟨by simp,i0u (i:=0) (ds:=[.int 12,.int 3]) (d:=.int 12) rfl rfl ⟨rfl,m,12,rows,_,rfl,.inr rfl,hm,hl,hlt,fun a b W=>hM _ ⟨a,b,W,rfl⟩⟩⟩
  rintro _ ⟨a,b,W,rfl⟩
  cases W with
  | fit hne =>
   refine cutS (fun ρ=>ρ = [nv m,.vl (.lst (a0g rows)),.vl (.bl few),.vl (nD 0),.vl .non,.vl (nD 0),.ex C_NoFit none]) (fun M hM=>⟨by simp,rfl,m,rows,few,rfl,h1,hm,hl,hlt',.inl ⟨hne,hM _ rfl⟩⟩) ?_
   rintro _ rfl
   refine cutS (fun ρ=>ρ = [nv m,.vl (.lst (a0g rows)),.vl (.bl few),.vl (nD 0),.vl .non,.vl (nD 0),.ex C_NoFit none]) (fun M hM=>b0j rfl rfl (by simp [L2.D.depth]) (b:=true) rfl (hM _ rfl)) ?_
   rintro _ rfl
   refine cutS (fun ρ=>ρ = [nv m,.vl (.lst (a0g rows)),.vl (.bl few),.vl (nD 0),.vl .non,.vl (nD 0),.ex C_NoFit none]) (fun M hM=>b0j rfl rfl (by simp [L2.D.depth]) (b:=false) rfl (hM _ rfl)) ?_
   rintro _ rfl
   exact hq
  | @lean p L =>
   refine cutS (fun ρ=>ρ = [nv m,.vl (.lst (a0g rows)),.vl (.bl few),.vl (nD 8),.vl (nD p),.vl (nD 8),.ex C_Leans (some [("place",nD p)])]) (fun M hM=>⟨by simp,rfl,m,rows,few,rfl,h1,hm,hl,hlt',.inr (.inl ⟨p,L,hM _ rfl⟩)⟩) ?_
   rintro _ rfl
   refine cutS (fun ρ=>ρ = [nv m,.vl (.lst (a0g rows)),.vl (.bl few),.vl (nD 8),.vl (nD p),.vl (nD 8),.ex C_Leans (some [("place",nD p)])]) (fun M hM=>b0j rfl rfl (by simp [L2.D.depth]) (b:=true) rfl (hM _ rfl)) ?_
   rintro _ rfl
   show aIfS _ _ _ _ _
   refine c0y (fun k hk=>b0j rfl rfl (by simp [L2.D.depth]) (b:=true) rfl hk) ?_
   exact ⟨_,rfl,g_Leans,rfl,_,rfl,_,rfl,g_Leans,b0j rfl rfl (by simp [L2.D.depth]) (d0j _) hq⟩
  | many hF hmm =>
   have hfew:few = true:=by
    cases few with
    | true=>rfl
    | false=>have:12 < m:=hmm; omega
   subst hfew
   have h3:3 < m:=hmm
   refine cutS (fun ρ=>ρ = [nv m,.vl (.lst (a0g rows)),.vl (.bl true),.vl (nD 1),.vl .non,.vl (nD 1),.ex C_TooMany none]) (fun M hM=>⟨by simp,rfl,m,rows,true,rfl,h1,hm,hl,hlt',.inr (.inr (.inl ⟨hF,rfl,h3,hM _ rfl⟩))⟩) ?_
   rintro _ rfl
   refine cutS (fun ρ=>ρ = [nv m,.vl (.lst (a0g rows)),.vl (.bl true),.vl (nD 1),.vl .non,.vl (nD 1),.ex C_TooMany none]) (fun M hM=>b0j rfl rfl (by simp [L2.D.depth]) (b:=true) rfl (hM _ rfl)) ?_
   rintro _ rfl
   refine cutS (fun ρ=>ρ = [nv m,.vl (.lst (a0g rows)),.vl (.bl true),.vl (nD 1),.vl .non,.vl (nD 1),.ex C_TooMany none]) (fun M hM=>b0j rfl rfl (by simp [L2.D.depth]) (b:=false) rfl (hM _ rfl)) ?_
   rintro _ rfl
   exact hq
  | no hF hmm =>
   cases few with
   | true =>
    refine cutS (fun ρ=>∃ ds,ρ = [nv m,.vl (.lst (a0g rows)),.vl (.bl true),.vl .non,.vl .non,.vl .non,.vl (.lst ds)]) (fun M hM=>⟨by simp,rfl,m,rows,true,rfl,h1,hm,hl,hlt',.inr (.inr (.inr (.inl ⟨hF,rfl,hmm,fun ds=>hM _ ⟨ds,rfl⟩⟩)))⟩) ?_
    rintro _ ⟨ds,rfl⟩
    refine cutS (fun ρ=>ρ = [nv m,.vl (.lst (a0g rows)),.vl (.bl true),.vl .non,.vl .non,.vl .non,.vl (.lst ds)]) (fun M hM=>b0j rfl rfl (by simp [L2.D.depth]) (b:=true) rfl (hM _ rfl)) ?_
    rintro _ rfl
    refine cutS (fun ρ=>ρ = [nv m,.vl (.lst (a0g rows)),.vl (.bl true),.vl .non,.vl .non,.vl .non,.vl (.lst ds)]) (fun M hM=>b0j rfl rfl (by simp [L2.D.depth]) (b:=false) rfl (hM _ rfl)) ?_
    rintro _ rfl
    show aIfS _ _ _ _ _
    refine c0y (fun k hk=>hk) ?_
    exact f0b rfl h0h hq
   | false =>
    refine cutS (fun ρ=>∃ ds cs,cs.length = m∧ρ = [nv m,.vl (.lst (a0g rows)),.vl (.bl false),.vl .non,.vl .non,.vl .non,.vl (.tup [.lst ds,.lst (a0g cs)])]) (fun M hM=>⟨by simp,rfl,m,rows,false,rfl,h1,hm,hl,hlt',.inr (.inr (.inr (.inr ⟨hF,rfl,fun ds cs hc=>hM _ ⟨ds,cs,hc,rfl⟩⟩)))⟩) ?_
    rintro _ ⟨ds,cs,hc,rfl⟩
    refine cutS (fun ρ=>ρ = [nv m,.vl (.lst (a0g rows)),.vl (.bl false),.vl .non,.vl .non,.vl .non,.vl (.tup [.lst ds,.lst (a0g cs)])]) (fun M hM=>b0j rfl rfl (by simp [L2.D.depth]) (b:=true) rfl (hM _ rfl)) ?_
    rintro _ rfl
    refine cutS (fun ρ=>ρ = [nv m,.vl (.lst (a0g rows)),.vl (.bl false),.vl .non,.vl .non,.vl .non,.vl (.tup [.lst ds,.lst (a0g cs)])]) (fun M hM=>b0j rfl rfl (by simp [L2.D.depth]) (b:=false) rfl (hM _ rfl)) ?_
    rintro _ rfl
    show aIfS _ _ _ _ _
    refine c0y (fun k hk=>hk) ?_
    refine c1e (i:=1) (ds:=[.lst ds,.lst (a0g cs)]) (d:=.lst (a0g cs)) rfl rfl ?_
    refine b0j rfl rfl (by simp [L2.D.depth]) (b:=true) ?_ hq
    show eqD (.int (((a0g cs).length:Nat):Int)) (.int (m:Int)) = true
    rw [a0t,hc]; exact d0j _
end
def s0o:ASp:=fun ss q=>∃ (n m:Nat) (rows:List Nat),ss = [.tp n,nv m,.vl (.lst (a0g rows))]∧n ≤ 1000000∧1 ≤ m∧m ≤ 12∧rows.length = m∧(∀ r ∈ rows,r < 2 ^ m)∧∀ (rows':List Nat) (n':Nat),rows'.length ≤ 13→(∀ r ∈ rows',r < 2 ^ m)→n' ≤ n + 100→q (.f (a0g rows')) [.tp n',nv m,.vl (.lst (a0g rows))]
section
variable {P:Program} {w:World} {K:PySem.W.Frag} {mg:Str→Option Value} {base:Heap}
theorem n0p (dn:DefN K mg "_law_spoilt" e0u ["_law_tape_here", "_law_many", "_law_rows"]) (B:BI mg) (g_law_draw:OkN P w K mg base 1 "_law_draw" ["_law_tape_here", "_law_many"] (spA K a1m)):OkN P w K mg base 2 "_law_spoilt" ["_law_tape_here", "_law_many", "_law_rows"] (spA K s0o):=by
 refine dn.aok2 (k:=1) b0z (fun j=>j == 0 || j == 1) [.un,.un,.un,.un,.un] s0o rfl (fun f cdv A outer s H E hr=>have hu:=d0l hr; ⟨_,(a0f (b0f (i:=2) b0z.nd rfl (by first | exact Or.inl rfl | exact Or.inr rfl) (d0x (i0y K) rfl B.list_ o0j (a0c (pv 2) a0e)))
  (a0f (e0v PassesOwn.never rfl (c0g rfl B.range_ (a0c (b0y g_law_draw (hr.mono (by decide)) (a0c (pv 0) (a0c a0q a0e))) a0e)) (a0r (i:=3) b0z.nd rfl (by first | exact Or.inl rfl | exact Or.inr rfl))
  (a0f (b0f (i:=4) b0z.nd rfl (by first | exact Or.inl rfl | exact Or.inr rfl) (b0y g_law_draw (hr.mono (by decide)) (a0c (pv 0) (a0c (b0d (c0n K) rfl B.len_ g0a (a0c (pv 2) a0e)) a0e))))
  (a0f (b0f (i:=5) b0z.nd rfl (by first | exact Or.inl rfl | exact Or.inr rfl) a0q)
  (a0f (e0v PassesOwn.never rfl (g0i K (t0j (t0a K) (pv 2) x0z (x0y (pv 4)))) (a0r (i:=6) b0z.nd rfl (by first | exact Or.inl rfl | exact Or.inr rfl))
  (a0k (b0f (i:=5) b0z.nd rfl (by first | exact Or.inl rfl | exact Or.inr rfl) (b0o p0c (pv 5) (b0o j0c (pv 6) (b0y g_law_draw (hr.mono (by decide)) (a0c (pv 0) (a0c a0q a0e))))))))
  (a0k (e0s (b0n m0d (pv 5) a0q (c0a _))
  (a0k (e0d (pv 5) (t0i (pv 2) (pv 4) j0t)))
  b0x))))))
  (a0f (b0f (i:=7) b0z.nd rfl (by first | exact Or.inl rfl | exact Or.inr rfl) (b0y g_law_draw (hr.mono (by decide)) (a0c (pv 0) (a0c a0q a0e))))
  (a0f (e0s (b0n (j0e K hr.units) (pv 7) a0q (c0a _))
  (a0k (e0a (k0o K PySem.F.plainAttrs_list PySem.F.slot_list_insert PySem.F.type_list_insert p0q (pv 2) (a0c (b0y g_law_draw (hr.mono (by decide)) (a0c (pv 0) (a0c (b0o g0j (b0d (c0n K) rfl B.len_ g0a (a0c (pv 2) a0e)) a0q) a0e))) (a0c (b0o g0j a0q (b0y g_law_draw (hr.mono (by decide)) (a0c (pv 0) (a0c (b0o t0p (b0o t0q a0q (pv 1)) a0q) a0e)))) a0e)))))
  b0x)
  (a0f (e0s (PW.pt (d1e (b0n (j0e K hr.units) (pv 7) a0q (c0a _)) (x0q (b0n m0d (pv 1) a0q (c0a _)))))
  (a0k (e0a (k0o K PySem.F.plainAttrs_list PySem.F.slot_list_pop PySem.F.type_list_pop b1q (pv 2) (a0c (b0y g_law_draw (hr.mono (by decide)) (a0c (pv 0) (a0c (b0d (c0n K) rfl B.len_ g0a (a0c (pv 2) a0e)) a0e))) a0e))))
  b0x)
  (a0k (b0s (pv 2)))))))),(a0h (b0a (c0z l0r (a0a a0b a0d)) rfl)
  (a0h (c0x (pin:=(fun _=>false)) (c0d (a0a (a0m (a0a a0b (a0a a0o a0d))) a0d)) (a0i rfl)
  (a0h (b0a (a0m (a0a a0b (a0a (c0z e0j (a0a a0b a0d)) a0d))) rfl)
  (a0h (b0a a0o rfl)
  (a0h (c0x (pin:=(fun _=>false)) (e0t (e1j a0b e1i (w0j a0b))) (a0i rfl)
  (b0a (a0s c0q a0b (a0s f0r a0b (a0m (a0a a0b (a0a a0o a0d))))) rfl))
  (c0h (a0z (a0s g0k a0b a0o))
  (j0s a0b a0b a0b)
  a0w)))))
  (a0h (b0a (a0m (a0a a0b (a0a a0o a0d))) rfl)
  (a0h (c0h (a0z (a0s j0f a0b a0o))
  (d0g (w0n a0b (a0a (a0m (a0a a0b (a0a (a0s c0q (c0z e0j (a0a a0b a0d)) a0o) a0d))) (a0a (a0s c0q a0o (a0m (a0a a0b (a0a (a0s c0q (a0s f0r a0o a0b) a0o) a0d)))) a0d))))
  a0w)
  (a0h (c0h (a1r (a0z (a0s j0f a0b a0o)) (a0z (a0s g0k a0b a0o)))
  (d0g (w0m a0b (a0a (a0m (a0a a0b (a0a (c0z e0j (a0a a0b a0d)) a0d))) a0d)))
  a0w)
  (b0e a0b))))))⟩) ?_
 rintro ss q ⟨n,m,rows,rfl,hn,h1,hm,hl,hlt,hq⟩
 refine ⟨rfl,rfl,?_⟩
 refine cutS (fun ρ=>ρ = [.tp n,nv m,.ow (a0g rows),.un,.un,.un,.un,.un]) (fun M hM=>hM _ rfl) ?_
 rintro _ rfl
 have pm:2 ≤ 2 ^ m∧2 ^ m ≤ 4096:=⟨Nat.pow_le_pow_right (n:=2) (by decide) h1,Nat.pow_le_pow_right (n:=2) (by decide) hm⟩
 have ep:(1:Int) * (2:Int) ^ ((m:Int).toNat) = ((2 ^ m:Nat):Int):=by rw [n0g,Nat.one_shiftLeft]
 refine cutS (fun ρ=>∃ rows n1 s3 s4 s5 s6,rows.length = m∧(∀ r ∈ rows,r < 2 ^ m)∧n1 ≤ n + 50∧ρ = [.tp n1,nv m,.ow (a0g rows),s3,s4,s5,s6,.un]) (fun M hM=>⟨rfl,n,3,rfl,by omega,Dv.small (by decide) (by decide),fun r hr=>⟨⟨by omega,by omega⟩,?_⟩⟩) ?_
 ·rw [Int.toNat_natCast]
  refine e0w (fun k ρ=>∃ rows n1 s3 s4 s5 s6,rows.length = m∧(∀ r ∈ rows,r < 2 ^ m)∧n1 ≤ n + 1 + 14 * k∧ρ = [.tp n1,nv m,.ow (a0g rows),s3,s4,s5,s6,.un]) (fun _ _ _=>trivial) ?_ (fun ρ ⟨rows,n1,s3,s4,s5,s6,a,b,c,e⟩=>hM ρ ⟨rows,n1,s3,s4,s5,s6,a,b,by omega,e⟩) ⟨rows,n + 1,.un,.un,.un,.un,hl,hlt,by omega,rfl⟩
  rintro k _ M1 hk ⟨rows,n1,s3,s4,s5,s6,hl,hlt,hn1,rfl⟩ hM1
  rw [Int.zero_add]
  have hk3:k < 3:=by omega
  refine cutS (fun ρ=>∃ a,a < m∧ρ = [.tp (n1 + 1),nv m,.ow (a0g rows),nv k,nv a,s5,s6,.un]) (fun M2 hM2=>⟨rfl,n1,_,rfl,by omega,by rw [a0t]; exact Dv.small (by omega) (by omega),fun r hr=>hM2 _ ⟨r,by rw [a0t] at hr; omega,rfl⟩⟩) ?_
  rintro _ ⟨a,ha,rfl⟩
  refine cutS (fun ρ=>ρ = [.tp (n1 + 1),nv m,.ow (a0g rows),nv k,nv a,nv 0,s6,.un]) (fun M2 hM2=>hM2 _ rfl) ?_
  rintro _ rfl
  refine cutS (fun ρ=>∃ x n2 s6,x < 2 ^ m∧n2 ≤ n1 + 13∧ρ = [.tp n2,nv m,.ow (a0g rows),nv k,nv a,nv x,s6,.un]) (fun M2 hM2=>?_) ?_
  ·show forA _ _ _ _ (L2.cutD (a0g rows) none (some ((a:Nat):Int))) _
   rw [z0t]
   have et:(a0g rows).take a = (rows.take a).map nD:=by unfold a0g; rw [List.map_take] <;> rfl
   rw [et]
   refine f0t nD (fun j ρ=>∃ x s6,x < 2 ^ m∧ρ = [.tp (n1 + 1 + j),nv m,.ow (a0g rows),nv k,nv a,nv x,s6,.un]) (fun _ _ _=>trivial) ?_ ?_ ⟨0,s6,by omega,rfl⟩
   ·rintro j y _ M3 hj ⟨x,s6,hx,rfl⟩ hM3
    have hjl:=(List.getElem?_eq_some_iff.mp hj).1
    rw [List.length_take] at hjl
    have hy:=hlt y (List.mem_of_mem_take (List.mem_of_getElem? hj))
    refine ⟨rfl,n1 + 1 + j,2,rfl,by omega,Dv.small (by decide) (by decide),fun b hb=>⟨.inl ⟨by omega,by omega⟩,hM3 _ ⟨x ^^^ (y * b),nv y,?_,?_⟩⟩⟩
    ·refine Nat.xor_lt_two_pow hx ?_
     have hb2:b = 0 ∨ b = 1:=by omega
     rcases hb2 with rfl | rfl
     ·rw [Nat.mul_zero]; omega
     ·rw [Nat.mul_one]; exact hy
    ·have e:((y:Int) * (b:Int)) = ((y * b:Nat):Int):=by rw [Int.natCast_mul]
     show [_,_,_,_,_,Sv.vl (.int (Builtin.bitXor ((x:Nat):Int) ((y:Int) * (b:Int)))),_,_] = _
     rw [e,g0e]; rfl
   ·rintro _ ⟨x,s6,hx,rfl⟩
    have:(rows.take a).length ≤ 12:=by rw [List.length_take]; omega
    exact hM2 _ ⟨x,_,s6,hx,by omega,rfl⟩
  rintro _ ⟨x,n2,s6,hx,hn2,rfl⟩
  by_cases hx0:0 < x
  ·have e:decide ((0:Int) < (x:Int)) = true:=decide_eq_true (by omega)
   show if decide ((0:Int) < (x:Int)) = true then _ else _
   rw [if_pos e]
   refine j0u (by rw [a0t]; omega) (hM1 _ ⟨rows.set a x,n2,nv k,nv a,nv x,s6,by rw [List.length_set]; exact hl,fun r hr=>?_,by omega,?_⟩)
   ·rcases List.mem_or_eq_of_mem_set hr with h | h
    ·exact hlt r h
    ·rw [h]; exact hx
   ·rw [← i0e]; rfl
  ·have e:¬ decide ((0:Int) < (x:Int)) = true:=by rw [decide_eq_true_eq]; omega
   show if decide ((0:Int) < (x:Int)) = true then _ else _
   rw [if_neg e]
   exact hM1 _ ⟨rows,n2,nv k,nv a,nv x,s6,hl,hlt,by omega,rfl⟩
 rintro _ ⟨rows2,n1,s3,s4,s5,s6,hl2,hlt2,hn1,rfl⟩
 refine cutS (fun ρ=>∃ y:Nat,ρ = [.tp (n1 + 1),nv m,.ow (a0g rows2),s3,s4,s5,s6,nv y]) (fun M hM=>⟨rfl,n1,8,rfl,by omega,Dv.small (by decide) (by decide),fun r hr=>hM _ ⟨r,rfl⟩⟩) ?_
 rintro _ ⟨y,rfl⟩
 refine cutS (fun ρ=>∃ rows3 n2,1 ≤ rows3.length∧rows3.length ≤ 13∧(∀ r ∈ rows3,r < 2 ^ m)∧n2 ≤ n1 + 3∧ρ = [.tp n2,nv m,.ow (a0g rows3),s3,s4,s5,s6,nv y]) (fun M hM=>?_) ?_
 ·refine b0j rfl rfl (by simp [D.depth]) (h0j y 0) ?_
  by_cases hy:y = 0
  ·rw [decide_eq_true hy]
   refine ⟨rfl,n1 + 1,(((a0g rows2).length:Nat):Int) + 1,rfl,by omega,by rw [a0t]; exact Dv.small (by omega) (by omega),fun r hr=>⟨⟨by omega,by omega,by decide⟩,rfl,n1 + 2,_,rfl,by omega,by rw [ep]; exact Dv.small (by omega) (by omega),fun x hx=>?_⟩⟩
   rw [ep] at hx
   rw [a0t] at hr
   refine ⟨r,rfl,by rw [a0t]; omega,by rw [a0t]; omega,hM _ ⟨rows2.take r ++ (1 + x) :: rows2.drop r,n1 + 3,?_,?_,fun z hz=>?_,by omega,?_⟩⟩
   ·rw [List.length_append,List.length_cons]; omega
   ·rw [List.length_append,List.length_take,List.length_cons,List.length_drop]; omega
   ·rcases List.mem_append.mp hz with z' | z'
    ·exact hlt2 z (List.mem_of_mem_take z')
    ·rcases List.mem_cons.mp z' with z' | z'
     ·rw [z']; omega
     ·exact hlt2 z (List.mem_of_mem_drop z')
   ·unfold a0g; rw [List.map_append,List.map_cons,List.map_take,List.map_drop]
    show [_,_,Sv.ow (_ ++ (.int (1 + (x:Int))) :: _),_,_,_,_,_] = [_,_,Sv.ow (_ ++ (.int ((1 + x:Nat):Int)) :: _),_,_,_,_,_]
    rw [show (1:Int) + (x:Int) = ((1 + x:Nat):Int) by omega]
  ·rw [decide_eq_false hy]
   exact hM _ ⟨rows2,n1 + 1,by omega,by omega,hlt2,by omega,rfl⟩
 rintro _ ⟨rows3,n2,hl3,hl3',hlt3,hn2,rfl⟩
 refine cutS (fun ρ=>∃ rows4 n3,rows4.length ≤ 13∧(∀ r ∈ rows4,r < 2 ^ m)∧n3 ≤ n2 + 1∧ρ = [.tp n3,nv m,.ow (a0g rows4),s3,s4,s5,s6,nv y]) (fun M hM=>?_) ?_
 ·refine b0j rfl rfl (by simp [D.depth]) (h0j y 1) ?_
  by_cases hy:y = 1
  ·rw [decide_eq_true hy]
   show if decide ((1:Int) < (m:Int)) = true then _ else _
   by_cases hm1:1 < m
   ·rw [if_pos (decide_eq_true (by omega))]
    refine ⟨rfl,n2,_,rfl,by omega,by rw [a0t]; exact Dv.small (by omega) (by omega),fun r hr=>?_⟩
    rw [a0t] at hr
    have hr':r < rows3.length:=by omega
    refine ⟨r,nD (rows3.getD r 0),rfl,?_,by omega,hM _ ⟨rows3.eraseIdx r,n2 + 1,?_,fun z hz=>hlt3 z (List.mem_of_mem_eraseIdx hz),by omega,?_⟩⟩
    ·unfold a0g
     rw [List.getElem?_map,List.getElem?_eq_getElem hr',List.getD_eq_getElem?_getD,List.getElem?_eq_getElem hr']; rfl
    ·have:=List.length_eraseIdx_le rows3 r; omega
    ·show [_,_,Sv.ow ((a0g rows3).eraseIdx r),_,_,_,_,_] = _
     unfold a0g
     rw [List.eraseIdx_eq_take_drop_succ,List.eraseIdx_eq_take_drop_succ,List.map_append,List.map_take,List.map_drop]
   ·rw [if_neg (by rw [decide_eq_true_eq]; omega)]
    exact hM _ ⟨rows3,n2,hl3',hlt3,by omega,rfl⟩
  ·rw [decide_eq_false hy]
   exact hM _ ⟨rows3,n2,hl3',hlt3,by omega,rfl⟩
 rintro _ ⟨rows4,n3,hl4,hlt4,hn3,rfl⟩
 exact hq rows4 n3 hl4 hlt4 (by omega)
end
theorem r0w {xs:List Nat} {b:Nat} (h:∀ p,xs.getD p 0 < b):∀ x ∈ xs,x < b:=by
 intro x hx
 obtain ⟨i,hi,e⟩:=List.mem_iff_getElem.mp hx
 have:=h i
 rw [List.getD_eq_getElem?_getD,List.getElem?_eq_getElem hi] at this
 rw [← e]; exact this
section
variable {P:Program} {w:World} {K:PySem.W.Frag} {mg:Str→Option Value} {base:Heap}
theorem i1r (dn:DefN K mg "law" b1d ["_law_script"]) (B:BI mg) (g_law_tape:OkN P w K mg base 1 "_law_tape" ["_law_script"] (spA K g1x)) (g_law_spoilt:OkN P w K mg base 2 "_law_spoilt" ["_law_tape_here", "_law_many", "_law_rows"] (spA K s0o)) (g_law_right:OkN P w K mg base 7 "_law_right" ["_law_many", "_law_rows", "_law_few"] (spA K a1l)) (g_law_draw:OkN P w K mg base 1 "_law_draw" ["_law_tape_here", "_law_many"] (spA K a1m)) (g_law_free_rows:OkN P w K mg base 2 "_law_free_rows" ["_law_tape_here", "_law_many"] (spA K h1a)):OkN P w K mg base 8 "law" ["_law_script"] (spA K SLaw):=by
 refine dn.aok2 (k:=7) o0y (fun j=>j == 0) [.un,.un,.un,.un] SLaw rfl (fun f cdv A outer s H E hr=>have hu:=d0l hr; ⟨_,(a0f (b0f (i:=1) o0y.nd rfl (by first | exact Or.inl rfl | exact Or.inr rfl) (b0y g_law_tape (hr.mono (by decide)) (a0c (pv 0) a0e)))
  (a0f (e0v PassesOwn.never rfl (c0g rfl B.range_ (a0c a0q a0e)) (a0r (i:=2) o0y.nd rfl (by first | exact Or.inl rfl | exact Or.inr rfl))
  (a0f (b0f (i:=3) o0y.nd rfl (by first | exact Or.inl rfl | exact Or.inr rfl) (b0o g0j a0q (b0y g_law_draw (hr.mono (by decide)) (a0c (pv 1) (a0c (i0a (d0h K) (e0g (a0c a0q (a0c a0q (a0c a0q a0e)))) (pv 2) (fun _ _=>rfl)) a0e)))))
  (a0f (b0f (i:=4) o0y.nd rfl (by first | exact Or.inl rfl | exact Or.inr rfl) (b0y g_law_spoilt (hr.mono (by decide)) (a0c (pv 1) (a0c (pv 3) (a0c (b0y g_law_free_rows (hr.mono (by decide)) (a0c (pv 1) (a0c (pv 3) a0e))) a0e)))))
  (a0f (e0s (PW.pt (k1m (x0s (t0e (b0y g_law_right (hr.mono (by decide)) (a0c (pv 3) (a0c (pv 4) (a0c m0c a0e)))))) (i1f (x0s (t0e (b0y g_law_right (hr.mono (by decide)) (a0c (pv 3) (a0c (pv 4) (a0c m0c a0e)))))))))
  (a0k (b0s m0c))
  b0x)
  (a0k (e0s (x0s (t0e (b0y g_law_right (hr.mono (by decide)) (a0c (pv 3) (a0c (pv 4) (a0c (k0n (j0e K hr.units) (b0y g_law_draw (hr.mono (by decide)) (a0c (pv 1) (a0c a0q a0e))) a0q (c0a _)) a0e))))))
  (a0k (b0s m0c))
  b0x))))))
  (a0k (b0s (m0k (b0y g_law_right (hr.mono (by decide)) (a0c a0q (a0c (e0g (a0c a0q (a0c a0q a0e))) (a0c m0c a0e)))) (m0k (b0y g_law_right (hr.mono (by decide)) (a0c a0q (a0c (e0g (a0c a0q (a0c a0q (a0c a0q (a0c a0q a0e))))) (a0c m0c a0e)))) (t0k (b0y g_law_right (hr.mono (by decide)) (a0c a0q (a0c (e0g (a0c a0q (a0c a0q a0e))) (a0c m0c a0e))))))))))),(a0h (b0a (a0m (a0a a0b a0d)) rfl)
  (a0h (c0x (pin:=(fun _=>false)) (c0d (a0a a0o a0d)) (a0i rfl)
  (a0h (b0a (a0s c0q a0o (a0m (a0a a0b (a0a (a0s f0f (c0w (a0a a0o (a0a a0o (a0a a0o a0d)))) a0b) a0d)))) rfl)
  (a0h (b0a (a0m (a0a a0b (a0a a0b (a0a (a0m (a0a a0b (a0a a0b a0d))) a0d)))) rfl)
  (a0h (c0h (e1h (n0b (o0q (a0m (a0a a0b (a0a a0b (a0a h0d a0d)))))) (n0b (o0q (a0m (a0a a0b (a0a a0b (a0a h0d a0d)))))))
  (b0e h0d)
  a0w)
  (c0h (n0b (o0q (a0m (a0a a0b (a0a a0b (a0a (a0s j0f (a0m (a0a a0b (a0a a0o a0d))) a0o) a0d))))))
  (b0e h0d)
  a0w)))))
  (b0e (g0u (a0m (a0a a0o (a0a (c0w (a0a a0o (a0a a0o a0d))) (a0a h0d a0d)))) (g0u (a0m (a0a a0o (a0a (c0w (a0a a0o (a0a a0o (a0a a0o (a0a a0o a0d))))) (a0a h0d a0d)))) (a0m (a0a a0o (a0a (c0w (a0a a0o (a0a a0o a0d))) (a0a h0d a0d)))))))))⟩) ?_
 rintro ss q ⟨ns,hl,rfl,hq⟩
 refine ⟨rfl,rfl,rfl,ns,rfl,?_⟩
 dsimp only [stS,pt,back,R.frz]
 refine cutS (fun ρ=>∃ n s2 s3 s4,n ≤ 10000∧ρ = [.sc ns,.tp n,s2,s3,s4]) (fun M hM=>⟨by decide,e0w (fun k ρ=>∃ n s2 s3 s4,n ≤ 2000 * k∧ρ = [.sc ns,.tp n,s2,s3,s4]) (fun _ _ _=>trivial) ?_ (fun ρ ⟨n,s2,s3,s4,h,e⟩=>hM ρ ⟨n,s2,s3,s4,by omega,e⟩) ⟨0,.un,.un,.un,by omega,rfl⟩⟩) ?_
 ·rintro k _ M1 hk ⟨n,s2,s3,s4,hn,rfl⟩ hM1
  rw [Int.zero_add]
  have hk3:k < 3:=by omega
  refine cutS (fun ρ=>∃ m:Nat,1 ≤ m∧m ≤ 12∧ρ = [.sc ns,.tp (n + 1),nv k,nv m,s4]) (fun M hM=>?_) ?_
  ·have e:∀ r:Nat,r < 12→M [.sc ns,.tp (n + 1),nv k,.vl (.int ((1:Int) + (r:Int))),s4]:=fun r hr=>hM _ ⟨1 + r,by omega,by omega,by rw [← v0d (show (1:Int) + (r:Int) = ((1 + r:Nat):Int) by omega)]⟩
   have hc:k = 0 ∨ k = 1 ∨ k = 2:=by omega
   rcases hc with rfl | rfl | rfl
   ·exact ⟨by simp,i0u (i:=0) (ds:=[.int 12,.int 12,.int 4]) (d:=.int 12) rfl rfl ⟨rfl,n,12,rfl,by omega,Dv.small (by decide) (by decide),fun r hr=>e r (by omega)⟩⟩
   ·exact ⟨by simp,i0u (i:=1) (ds:=[.int 12,.int 12,.int 4]) (d:=.int 12) rfl rfl ⟨rfl,n,12,rfl,by omega,Dv.small (by decide) (by decide),fun r hr=>e r (by omega)⟩⟩
   ·exact ⟨by simp,i0u (i:=2) (ds:=[.int 12,.int 12,.int 4]) (d:=.int 4) rfl rfl ⟨rfl,n,4,rfl,by omega,Dv.small (by decide) (by decide),fun r hr=>e r (by omega)⟩⟩
  rintro _ ⟨m,h1,hm,rfl⟩
  refine cutS (fun ρ=>∃ rows n1,rows.length ≤ 13∧(∀ r ∈ rows,r < 2 ^ m)∧n1 ≤ n + 1101∧ρ = [.sc ns,.tp n1,nv k,nv m,.ow (a0g rows)]) (fun M hM=>?_) ?_
  ·refine ⟨rfl,n + 1,m,rfl,by omega,h1,hm,fun rows n' hF hlt hn'=>?_⟩
   refine ⟨rfl,n',m,rows,rfl,by omega,h1,hm,hF.len,r0w hlt,fun rows' n2 hl2 hlt2 hn2=>hM _ ⟨rows',n2,hl2,hlt2,by omega,rfl⟩⟩
  rintro _ ⟨rows,n1,hr,hlt,hn1,rfl⟩
  refine cutS (fun ρ=>ρ = [.sc ns,.tp n1,nv k,nv m,.ow (a0g rows)]) (fun M hM=>?_) ?_
  ·refine ⟨rfl,m,rows,false,_,rfl,.inl rfl,h1,hm,by omega,hlt,?_⟩
   refine ⟨rfl,m,rows,true,_,rfl,.inl rfl,h1,hm,by omega,hlt,?_⟩
   exact hM _ rfl
  rintro _ rfl
  refine ⟨rfl,n1,2,rfl,by omega,Dv.small (by decide) (by decide),fun r hr2=>?_⟩
  refine b0j rfl rfl (by simp [D.depth]) (h0j r 0) ?_
  refine ⟨rfl,m,rows,_,_,rfl,.inl rfl,h1,hm,by omega,hlt,?_⟩
  exact hM1 _ ⟨n1 + 1,_,_,_,by omega,rfl⟩
 rintro _ ⟨n,s2,s3,s4,hn,rfl⟩
 refine ⟨by simp,rfl,2,[1,1],false,_,rfl,.inr rfl,by omega,by omega,by simp,by decide,?_⟩
 refine ⟨by simp,rfl,4,[1,2,3,8],true,_,rfl,.inr rfl,by omega,by omega,by simp,by decide,?_⟩
 refine ⟨by simp,rfl,1,[1,1],true,_,rfl,.inr rfl,by omega,by omega,by simp,by decide,?_⟩
 exact hq _
theorem fin (d_joined:DefN K mg "joined" j0v ["one", "other"]) (d_own_rows:DefN K mg "own_rows" f0d ["many"]) (d_basis:DefN K mg "basis" k0j ["rows"]) (d_leads_of:DefN K mg "leads_of" g0w ["rows"]) (d_reduced:DefN K mg "reduced" h0w ["leads", "row"]) (d_placed:DefN K mg "placed" d0q ["wish"]) (d_refuse_unplaced:DefN K mg "refuse_unplaced" b0v ["wish"]) (d_fewest_steps:DefN K mg "fewest_steps" c0b ["wish"]) (d_reached_next:DefN K mg "reached_next" d0p ["many", "reached", "ways"]) (d_all_steps:DefN K mg "all_steps" e0o ["many"]) (d_with_step:DefN K mg "with_step" f0m ["cells", "a", "b"]) (d_law_tape:DefN K mg "_law_tape" g0y ["_law_script"]) (d_law_draw:DefN K mg "_law_draw" h0a ["_law_tape_here", "_law_many"]) (d_law_whole:DefN K mg "_law_whole" f0n ["_law_found"]) (d_law_free_rows:DefN K mg "_law_free_rows" c0s ["_law_tape_here", "_law_many"]) (d_law_left:DefN K mg "_law_left" g0z ["_law_row", "_law_kept"]) (d_law_alone:DefN K mg "_law_alone" f0p ["_law_error", "_law_place"]) (d_law_spoilt:DefN K mg "_law_spoilt" e0u ["_law_tape_here", "_law_many", "_law_rows"]) (d_law_due:DefN K mg "_law_due" h0x ["_law_many", "_law_rows", "_law_most"]) (d_law_told:DefN K mg "_law_told" g0x ["_law_wish", "_law_few"]) (d_law_right:DefN K mg "_law_right" f0o ["_law_many", "_law_rows", "_law_few"]) (d_law:DefN K mg "law" b1d ["_law_script"]) (c_MOST_CELLS:∃ u,mg "MOST_CELLS" = some u∧RelV (.int 3) u) (xf:XF K mg) (B:BI mg):OkN P w K mg base 8 "law" ["_law_script"] (e1s K):=by
 obtain ⟨C_NoFit,C_Leans,C_JoinError,C_TooMany,C_NoWidth,C_NoRow,C_NoName,C_Nought,C_Bare,C_Loose,C_NoAnswer,C_NoText,f_Leans,m_NoFit,m_Leans,m_JoinError,m_TooMany,m_NoWidth,m_NoRow,m_NoName,m_Nought,m_Bare,m_Loose,m_NoAnswer,m_NoText,n_ValueError,e_NoFit,in_Leans,bs_JoinError,e_TooMany,ea_JoinError,s_NoFit_JoinError,s_TooMany_JoinError,s_Leans_JoinError,i_NoFit,k_NoFit_NoFit,k_NoFit_TooMany,k_NoFit_NoWidth,k_NoFit_ValueError,k_NoFit_NoRow,k_NoFit_NoName,k_NoFit_Nought,k_NoFit_Bare,k_NoFit_Loose,k_NoFit_Leans,k_NoFit_NoAnswer,k_NoFit_NoText,i_TooMany,k_TooMany_NoFit,k_TooMany_TooMany,k_TooMany_NoWidth,k_TooMany_ValueError,k_TooMany_NoRow,k_TooMany_NoName,k_TooMany_Nought,k_TooMany_Bare,k_TooMany_Loose,k_TooMany_Leans,k_TooMany_NoAnswer,k_TooMany_NoText,i_Leans,k_Leans_NoFit,k_Leans_TooMany,k_Leans_NoWidth,k_Leans_ValueError,k_Leans_NoRow,k_Leans_NoName,k_Leans_Nought,k_Leans_Bare,k_Leans_Loose,k_Leans_Leans,k_Leans_NoAnswer,k_Leans_NoText,g_Leans⟩:=xf
 exact
 have g_law_tape:=r0l d_law_tape B
 have g_law_draw:=r0n d_law_draw B
 have g_joined:=y0k d_joined B
 have g_own_rows:=r0i d_own_rows B
 have g_reduced:=v0b d_reduced B
 have g_leads_of:=r0j d_leads_of B g_reduced
 have g_basis:=b1n d_basis B g_leads_of
 have g_refuse_unplaced:=i0c d_refuse_unplaced B g_basis
 have x_refuse_unplaced_NoFit:=e0z m_NoFit e_NoFit d_refuse_unplaced B g_basis
 have x_refuse_unplaced_Leans:=f0a m_Leans m_JoinError in_Leans bs_JoinError d_refuse_unplaced B g_basis
 have g_placed:=y0j d_placed B g_refuse_unplaced g_joined
 have x_placed_NoFit:=j0i m_NoFit e_NoFit d_placed B x_refuse_unplaced_NoFit
 have x_placed_Leans:=j0j m_Leans m_JoinError in_Leans bs_JoinError d_placed B x_refuse_unplaced_Leans
 have g_law_free_rows:=j0k d_law_free_rows B g_law_draw
 have g_all_steps:=p0i d_all_steps B
 have g_with_step:=p0e d_with_step B g_joined
 have g_reached_next:=k0t d_reached_next B g_all_steps g_with_step
 have g_fewest_steps:=k0u d_fewest_steps B g_refuse_unplaced g_reached_next g_own_rows c_MOST_CELLS
 have x_fewest_steps_NoFit:=g0c m_NoFit e_NoFit d_fewest_steps B g_refuse_unplaced x_refuse_unplaced_NoFit c_MOST_CELLS
 have x_fewest_steps_Leans:=g0d m_Leans m_JoinError in_Leans bs_JoinError d_fewest_steps B g_refuse_unplaced x_refuse_unplaced_Leans c_MOST_CELLS
 have x_fewest_steps_TooMany:=f0g m_TooMany e_TooMany d_fewest_steps B g_refuse_unplaced c_MOST_CELLS
 have g_law_whole:=p0f d_law_whole B
 have g_law_left:=r0m d_law_left B
 have g_law_due:=v0c d_law_due B g_law_left
 have g_law_alone:=p0h m_NoFit m_TooMany m_NoWidth n_ValueError m_NoRow m_NoName m_Nought m_Bare m_Loose m_Leans m_NoAnswer m_NoText i_NoFit k_NoFit_NoFit k_NoFit_TooMany k_NoFit_NoWidth k_NoFit_ValueError k_NoFit_NoRow k_NoFit_NoName k_NoFit_Nought k_NoFit_Bare k_NoFit_Loose k_NoFit_Leans k_NoFit_NoAnswer k_NoFit_NoText i_TooMany k_TooMany_NoFit k_TooMany_TooMany k_TooMany_NoWidth k_TooMany_ValueError k_TooMany_NoRow k_TooMany_NoName k_TooMany_Nought k_TooMany_Bare k_TooMany_Loose k_TooMany_Leans k_TooMany_NoAnswer k_TooMany_NoText i_Leans k_Leans_NoFit k_Leans_TooMany k_Leans_NoWidth k_Leans_ValueError k_Leans_NoRow k_Leans_NoName k_Leans_Nought k_Leans_Bare k_Leans_Loose k_Leans_Leans k_Leans_NoAnswer k_Leans_NoText d_law_alone B
 have g_law_told:=r0k m_NoFit m_TooMany m_Leans m_JoinError ea_JoinError s_NoFit_JoinError s_TooMany_JoinError s_Leans_JoinError i_NoFit i_TooMany i_Leans d_law_told B g_law_alone g_fewest_steps g_placed x_fewest_steps_NoFit x_placed_NoFit x_fewest_steps_TooMany x_fewest_steps_Leans x_placed_Leans
 have g_law_right:=p0g g_Leans i_NoFit i_TooMany i_Leans d_law_right B g_law_due g_law_told g_law_whole
 have g_law_spoilt:=n0p d_law_spoilt B g_law_draw
 have g_law:=i1r d_law B g_law_tape g_law_spoilt g_law_right g_law_draw g_law_free_rows
 i1y g_law
end
end K62
namespace PySem.W.Fast
def tw1586462065631211597:=()
def tw8504221823898771332:=()
def tw1350176051049295727:=()
def tw2932436359334642432:=()
def tw10772221645422690490:=()
def tw14339016429409344523:=()
def tw11872111997858049532:=()
def tw5966954820400721231:=()
def tw9198296230270960263:=()
def tw6299984868530050788:=()
def tw11012053411957598722:=()
def tw8847204451895465096:=()
def tw7461744534021370642:=()
def tw1082451695933233751:=()
def tw32965888204616658:=()
def tw2410826580008596466:=()
def tw17115708518848443885:=()
def tw5625118673310356173:=()
def tw9674182127139027922:=()
def tw9037392757797187075:=()
def tw720169619014547936:=()
def tw3533671529249299745:=()
def tw16262819688700371986:=()
def tw16445172585930327948:=()
def tw1628982468461669007:=()
def tw8089593966976191022:=()
def tw2325855873884219932:=()
def tw824554672297235407:=()
def tw18310615134580054282:=()
def tw6139618386042676794:=()
def tw7003119510854446896:=()
def tw12030447855289773034:=()
def tw9079481586209167693:=()
def tw14375313578004323190:=()
def tw2184576033399068713:=()
def tw1712333534859740049:=()
def tw10511832644350071104:=()
def tw8839524755566467784:=()
def tw4428395174716921299:=()
def tw8736611992069867750:=()
def tw15551992464594166767:=()
def tw17150866534398709361:=()
def tw11643514460081454009:=()
def tw267095986229502116:=()
def tw8391366146002997304:=()
def tw17538511843720440838:=()
def tw12826788825874242854:=()
def tw6155435479086521514:=()
def tw7161147050079047351:=()
def tw11457939647011405649:=()
def tw7838388946786106591:=()
def tw7521889599109673175:=()
def tw5614841712241788259:=()
def tw2235152574645487059:=()
def tw735726381720280105:=()
def tw13593685957602826948:=()
def tw14279590649744588826:=()
def tw11682185372804001752:=()
def tw13823640910699232966:=()
def tw6693796100101531300:=()
def tw16405430405451348712:=()
def tw8273136511373583580:=()
def tw1772083486686329972:=()
def tw14102753794860278227:=()
def tw17498003493587924014:=()
def tw16588490679908855046:=()
def tw14555389046779933740:=()
def tw17936699695417150932:=()
def tw6765050789048270706:=()
def tw15191667627423395276:=()
def tw13198787105145092995:=()
def tw5391958066145812263:=()
def tw18184754680482815794:=()
def tw9950708592476361157:=()
def tw16667284196620009885:=()
def tw13073709320688228673:=()
def tw5514344320002307393:=()
def tw3301212664107984480:=()
def tw5258257755249275521:=()
def tw14857905915330163183:=()
def tw3808801232876759887:=()
def tw2925938599086846776:=()
def tw5001535494116034703:=()
def tw451868864862121838:=()
def tw17317243082277232583:=()
def tw10207329651666380971:=()
def tw15358914656584525500:=()
def tw15973356112634993096:=()
def tw8388688059909772226:=()
def tw2451924696022293715:=()
def tw12091358364559013193:=()
def tw12465242854877368327:=()
def tw11136977569134192176:=()
def tw236125097116150704:=()
def tw9700914219510261954:=()
def tw2033478831712919125:=()
def tw8703515713631671359:=()
def tw106148687510437512:=()
def tw1206272532839506075:=()
def tw14587455424403916765:=()
def tw16759803645201890057:=()
def tw5180005218828472169:=()
def tw8698998698785125287:=()
def tw12328211858971488265:=()
def tw2836435518543394999:=()
def tw4026592402085431015:=()
def tw16032131572256670941:=()
def tw566933740736396383:=()
def tw13301254040757333895:=()
def tw16677710464309481740:=()
def tw12000304753296819388:=()
def tw8627258002295816928:=()
def tw5908111915601745649:=()
def tw477171423408675928:=()
def tw14554191711313221554:=()
def tw13593434755930226503:=()
def tw15203726586739033490:=()
def tw3597427790867749580:=()
def tw3944995831418517409:=()
def tw16169339323220456252:=()
def tw9472362261702243371:=()
def tw2971061216488885272:=()
def tw10743553182117338658:=()
def tw12304519071102287371:=()
def tw424659018618806883:=()
def tw14412665737069466425:=()
def tw6773863140181867052:=()
def tw11107218455784346999:=()
def tw2166452066987141986:=()
def tw15173741443444297301:=()
def tw10587361296429699555:=()
def tw2225505165305519185:=()
def tw13751824262331017445:=()
def tw15558159563138055801:=()
def tw6247730122293413947:=()
def tw14435805311897157448:=()
def tw17056779586034845778:=()
def tw15338600217004013217:=()
def tw9476926603294789712:=()
def tw2357514165994478453:=()
def tw13963844782508867474:=()
def tw553977430993598572:=()
def tw2179496443360041046:=()
def tw1111320870633923993:=()
def tw11338848880589745322:=()
def tw16832024393838743552:=()
def tw17311032643866139918:=()
def tw1564572475680283184:=()
def tw14160142191332399189:=()
def tw17957093970599223400:=()
def tw15378361600369697809:=()
def tw14892975280624630806:=()
def tw12324851862610269724:=()
def tw13333018796600079102:=()
def tw2171517985656026343:=()
def tw7356817434891597803:=()
def tw4740288178451856689:=()
def tw17190215877132905935:=()
def tw17922773012948892854:=()
def tw9627263755417449546:=()
def tw14888064803495626649:=()
def tw16689450710616511915:=()
def tw12063531738246816633:=()
def tw9673027358664234324:=()
def tw1540898051827224050:=()
def tw4867215454409777788:=()
def tw4767734120873395163:=()
def tw10277953525412535436:=()
def tw14146476370368772483:=()
def tw2889583539839743926:=()
def tw794249247420361523:=()
def tw14052530844262662204:=()
def tw15296831035075841093:=()
def tw12696191621875484690:=()
def tw7295620674445611188:=()
def tw10969838248476478883:=()
def tw14853595805020973101:=()
def tw14720260606499903225:=()
def tw1309116189075078311:=()
def tw18137310831469254104:=()
def tw1839401816274358576:=()
def tw13937034189924534777:=()
def tw16829327959495184063:=()
def tw13786691327080391601:=()
def tw16948379480809980605:=()
def tw11871496456304234044:=()
def tw1171338931611158987:=()
def tw9196606751911517376:=()
def tw12930501428878769291:=()
def tw16509867724132771208:=()
def tw16456241875737060303:=()
def tw11493121704938366332:=()
def tw13599288773430554156:=()
def tw567760947371755064:=()
def tw6047245960961340670:=()
def tw8347179196529161834:=()
def tw9883692542248392182:=()
def tw13159299239996529640:=()
def tw13238979028470996144:=()
def tw11567398415563356547:=()
def tw13609943416093300057:=()
def tw1852121671649638633:=()
def tw6937419064835582785:=()
def tw15061419181462550567:=()
def tw5098543899598653060:=()
def tw13823594089301240041:=()
def tw18206374557094276537:=()
def tw15179452803837405646:=()
def tw12446718733922964122:=()
def tw5199211244967346913:=()
def tw9751479161264512278:=()
def tw4738228885851807571:=()
def tw6394758540133542321:=()
def tw2986028220865704896:=()
def tw1495296587240453115:=()
def tw5002648473555577867:=()
def tw14312804834438006176:=()
def tw7299914468116979469:=()
def tw13957239244152633908:=()
def tw2982472374518241438:=()
def tw14730162128239770460:=()
def tw12449420743149356830:=()
def tw8764792659499163920:=()
def tw11375593686927250621:=()
def tw10582200600664178651:=()
def tw15407443817485490542:=()
def tw5149132469216081475:=()
def tw16350776966678308536:=()
def tw7406448191767417172:=()
def tw9653359837052508318:=()
def tw13159499941105064833:=()
def tw7057694601657819511:=()
def tw10222319086005007944:=()
def tw14061962365557103954:=()
def tw11541193070345504328:=()
def tw1383351469835296225:=()
def tw3539560008603569881:=()
def tw987557681840465711:=()
def tw5920280871568447792:=()
def tw18358926424272945657:=()
def tw15149242230378894991:=()
def tw15870620584739581944:=()
def tw4432809206522619325:=()
def tw2267103699672015287:=()
def tw14688885961846995691:=()
def tw8610574996601515837:=()
def tw2113788160822345293:=()
def tw16055954357156345797:=()
def tw2874194241236452433:=()
def tw6970716110941539179:=()
def tw2727096534544869710:=()
def tw7742662503259991331:=()
def tw9379312120317067756:=()
def tw18187116896659543598:=()
def tw17054715547831687107:=()
def tw971695467003709693:=()
def tw7738299287434646730:=()
def tw16792745189314443756:=()
def tw16660965198176451797:=()
def tw708621531827261321:=()
def tw3748757640124018291:=()
def tw16599628918155417088:=()
def tw7980228046742614847:=()
def tw18355271961541421111:=()
def tw7043560265238045288:=()
def tw12137116355643803798:=()
def tw9210861951351769904:=()
def tw16526486503325797737:=()
def tw2705332929926364471:=()
def tw3519084266788436445:=()
def tw17109080141865718266:=()
def tw17757002330169538275:=()
def tw4445596558926241400:=()
def tw2261061703605210800:=()
def tw10136621991467346742:=()
def tw9740237443936430231:=()
def tw5438370012354489847:=()
def tw9079804276376557014:=()
def tw16396751064290269797:=()
def tw8134035725943548900:=()
def tw8582532151931619261:=()
def tw12041144693458407867:=()
def tw18336881973624297917:=()
def tw12351835350974216400:=()
def tw7047600843167903125:=()
def tw3623898566178109955:=()
def tw3665906711886975805:=()
def tw9891093762935730611:=()
def tw6132202882699197162:=()
def tw138717053718007012:=()
def tw2188960423286792520:=()
def tw18199341307517975985:=()
def tw8220736378461951810:=()
def tw5958042530804408899:=()
def tw13399436249525104820:=()
def tw7625248380358724919:=()
def tw11440288255928524718:=()
def tw17752898087948772325:=()
def tw6996788510175701815:=()
def tw6295075447026338929:=()
def tw7918066444685491466:=()
def tw15068583239359870187:=()
def tw12076736746637491395:=()
def tw6659287636090207180:=()
def tw14660376257134201983:=()
def tw4329359989696146769:=()
def tw4713110297317648940:=()
def tw15269559659584336287:=()
def tw14182619682528767666:=()
def tw13843925234515757169:=()
def tw16400270065694974998:=()
def tw16919996243934348081:=()
def tw3143930122433638647:=()
def tw18389428359270271901:=()
def tw4364175313123893447:=()
def tw5700847614223451063:=()
def tw9576786043016532221:=()
def tw12676389358640403856:=()
def tw17080465002583994025:=()
def tw504913640865652901:=()
def tw2249169661061300345:=()
def tw5146956178246575089:=()
def tw1749847507994277292:=()
def tw4021430777830727752:=()
def tw1236594761582276471:=()
def tw1955744889155107118:=()
def tw9875807939490218354:=()
def tw10568525521604873526:=()
def tw17416755723723166649:=()
def tw4330477724654946263:=()
def tw10106488719066396401:=()
def tw4828253613319446942:=()
def tw11297508558326506317:=()
def tw777957142723348032:=()
def tw16826997233247258137:=()
def tw1661556060179620628:=()
def tw2825412193037421200:=()
def tw18216986941614863354:=()
def tw765783443786872808:=()
def tw17064798782076551997:=()
def tw11517554385949671871:=()
def tw12894822574814153681:=()
def tw16475853834803375793:=()
def tw8915684469975067998:=()
def tw17411035117316861476:=()
def tw17208445459162499538:=()
def tw8644543996686202222:=()
def tw10498435035156674449:=()
def tw11895237045722559648:=()
def tw15031492809823155613:=()
def tw10640733802654997325:=()
def tw14275669707140615897:=()
def tw6789629976519811609:=()
def tw15677853375366972563:=()
def tw4964977695187313290:=()
end PySem.W.Fast
open PySem PySem.W PyProof.Rows
set_option maxRecDepth 100000 in
set_option maxHeartbeats 0 in
theorem PySem.Challenge.cw_fewjoins_k62_rows_that_lean_holds : PySem.Challenge.rw_fewjoins_k62_rows_that_lean.Holds := by
 w_on; o_law; k_head; (case hw=>w_witness2)
 k_fill
 refine L2.a1o (l:=PySem.Challenge.rw_fewjoins_k62_rows_that_lean) (n:=63) (k:=8) (x := "_law_script") (CX:=L2.CX0) (sp:=L2.e1s) rfl (by decide) rfl ⟨rfl,by decide,by decide⟩ (fun w h Y=>PySem.W.kIn_of Y) ?F ?S ?C
 case S=>exact fun K H a ns hl hO hS=>⟨a,ns,rfl,hS,hl,fun _=>rfl⟩
 case C=>exact fun H s e s' h=>h
 case F =>
  intro w mg fa h KX G hmg
  have d_joined:L2.DefN (L2.KOf KX) mg "joined" K62.j0v ["one", "other"]:=by
   dsimp only [L2.KOf]
   refine' L2.c0v KX G ?a ?l ?c ?k (fun _ _ _ _ _ _ us hl=>match us,hl with | [_,_],_=>rfl)
   (case a=>k_is); (case l=>k_is); (case c=>k_is); (case k=>k_is)
  have d_own_rows:L2.DefN (L2.KOf KX) mg "own_rows" K62.f0d ["many"]:=by
   dsimp only [L2.KOf]
   refine' L2.c0v KX G ?a ?l ?c ?k (fun _ _ _ _ _ _ us hl=>match us,hl with | [_],_=>rfl)
   (case a=>k_is); (case l=>k_is); (case c=>k_is); (case k=>k_is)
  have d_basis:L2.DefN (L2.KOf KX) mg "basis" K62.k0j ["rows"]:=by
   dsimp only [L2.KOf]
   refine' L2.c0v KX G ?a ?l ?c ?k (fun _ _ _ _ _ _ us hl=>match us,hl with | [_],_=>rfl)
   (case a=>k_is); (case l=>k_is); (case c=>k_is); (case k=>k_is)
  have d_leads_of:L2.DefN (L2.KOf KX) mg "leads_of" K62.g0w ["rows"]:=by
   dsimp only [L2.KOf]
   refine' L2.c0v KX G ?a ?l ?c ?k (fun _ _ _ _ _ _ us hl=>match us,hl with | [_],_=>rfl)
   (case a=>k_is); (case l=>k_is); (case c=>k_is); (case k=>k_is)
  have d_reduced:L2.DefN (L2.KOf KX) mg "reduced" K62.h0w ["leads", "row"]:=by
   dsimp only [L2.KOf]
   refine' L2.c0v KX G ?a ?l ?c ?k (fun _ _ _ _ _ _ us hl=>match us,hl with | [_,_],_=>rfl)
   (case a=>k_is); (case l=>k_is); (case c=>k_is); (case k=>k_is)
  have d_placed:L2.DefN (L2.KOf KX) mg "placed" K62.d0q ["wish"]:=by
   dsimp only [L2.KOf]
   refine' L2.c0v KX G ?a ?l ?c ?k (fun _ _ _ _ _ _ us hl=>match us,hl with | [_],_=>rfl)
   (case a=>k_is); (case l=>k_is); (case c=>k_is); (case k=>k_is)
  have d_refuse_unplaced:L2.DefN (L2.KOf KX) mg "refuse_unplaced" K62.b0v ["wish"]:=by
   dsimp only [L2.KOf]
   refine' L2.c0v KX G ?a ?l ?c ?k (fun _ _ _ _ _ _ us hl=>match us,hl with | [_],_=>rfl)
   (case a=>k_is); (case l=>k_is); (case c=>k_is); (case k=>k_is)
  have d_fewest_steps:L2.DefN (L2.KOf KX) mg "fewest_steps" K62.c0b ["wish"]:=by
   dsimp only [L2.KOf]
   refine' L2.c0v KX G ?a ?l ?c ?k (fun _ _ _ _ _ _ us hl=>match us,hl with | [_],_=>rfl)
   (case a=>k_is); (case l=>k_is); (case c=>k_is); (case k=>k_is)
  have d_reached_next:L2.DefN (L2.KOf KX) mg "reached_next" K62.d0p ["many", "reached", "ways"]:=by
   dsimp only [L2.KOf]
   refine' L2.c0v KX G ?a ?l ?c ?k (fun _ _ _ _ _ _ us hl=>match us,hl with | [_,_,_],_=>rfl)
   (case a=>k_is); (case l=>k_is); (case c=>k_is); (case k=>k_is)
  have d_all_steps:L2.DefN (L2.KOf KX) mg "all_steps" K62.e0o ["many"]:=by
   dsimp only [L2.KOf]
   refine' L2.c0v KX G ?a ?l ?c ?k (fun _ _ _ _ _ _ us hl=>match us,hl with | [_],_=>rfl)
   (case a=>k_is); (case l=>k_is); (case c=>k_is); (case k=>k_is)
  have d_with_step:L2.DefN (L2.KOf KX) mg "with_step" K62.f0m ["cells", "a", "b"]:=by
   dsimp only [L2.KOf]
   refine' L2.c0v KX G ?a ?l ?c ?k (fun _ _ _ _ _ _ us hl=>match us,hl with | [_,_,_],_=>rfl)
   (case a=>k_is); (case l=>k_is); (case c=>k_is); (case k=>k_is)
  have d_law_tape:L2.DefN (L2.KOf KX) mg "_law_tape" K62.g0y ["_law_script"]:=by
   dsimp only [L2.KOf]
   refine' L2.c0v KX G ?a ?l ?c ?k (fun _ _ _ _ _ _ us hl=>match us,hl with | [_],_=>rfl)
   (case a=>k_is); (case l=>k_is); (case c=>k_is); (case k=>k_is)
  have d_law_draw:L2.DefN (L2.KOf KX) mg "_law_draw" K62.h0a ["_law_tape_here", "_law_many"]:=by
   dsimp only [L2.KOf]
   refine' L2.c0v KX G ?a ?l ?c ?k (fun _ _ _ _ _ _ us hl=>match us,hl with | [_,_],_=>rfl)
   (case a=>k_is); (case l=>k_is); (case c=>k_is); (case k=>k_is)
  have d_law_whole:L2.DefN (L2.KOf KX) mg "_law_whole" K62.f0n ["_law_found"]:=by
   dsimp only [L2.KOf]
   refine' L2.c0v KX G ?a ?l ?c ?k (fun _ _ _ _ _ _ us hl=>match us,hl with | [_],_=>rfl)
   (case a=>k_is); (case l=>k_is); (case c=>k_is); (case k=>k_is)
  have d_law_free_rows:L2.DefN (L2.KOf KX) mg "_law_free_rows" K62.c0s ["_law_tape_here", "_law_many"]:=by
   dsimp only [L2.KOf]
   refine' L2.c0v KX G ?a ?l ?c ?k (fun _ _ _ _ _ _ us hl=>match us,hl with | [_,_],_=>rfl)
   (case a=>k_is); (case l=>k_is); (case c=>k_is); (case k=>k_is)
  have d_law_left:L2.DefN (L2.KOf KX) mg "_law_left" K62.g0z ["_law_row", "_law_kept"]:=by
   dsimp only [L2.KOf]
   refine' L2.c0v KX G ?a ?l ?c ?k (fun _ _ _ _ _ _ us hl=>match us,hl with | [_,_],_=>rfl)
   (case a=>k_is); (case l=>k_is); (case c=>k_is); (case k=>k_is)
  have d_law_alone:L2.DefN (L2.KOf KX) mg "_law_alone" K62.f0p ["_law_error", "_law_place"]:=by
   dsimp only [L2.KOf]
   refine' L2.c0v KX G ?a ?l ?c ?k (fun _ _ _ _ _ _ us hl=>match us,hl with | [_,_],_=>rfl)
   (case a=>k_is); (case l=>k_is); (case c=>k_is); (case k=>k_is)
  have d_law_spoilt:L2.DefN (L2.KOf KX) mg "_law_spoilt" K62.e0u ["_law_tape_here", "_law_many", "_law_rows"]:=by
   dsimp only [L2.KOf]
   refine' L2.c0v KX G ?a ?l ?c ?k (fun _ _ _ _ _ _ us hl=>match us,hl with | [_,_,_],_=>rfl)
   (case a=>k_is); (case l=>k_is); (case c=>k_is); (case k=>k_is)
  have d_law_due:L2.DefN (L2.KOf KX) mg "_law_due" K62.h0x ["_law_many", "_law_rows", "_law_most"]:=by
   dsimp only [L2.KOf]
   refine' L2.c0v KX G ?a ?l ?c ?k (fun _ _ _ _ _ _ us hl=>match us,hl with | [_,_,_],_=>rfl)
   (case a=>k_is); (case l=>k_is); (case c=>k_is); (case k=>k_is)
  have d_law_told:L2.DefN (L2.KOf KX) mg "_law_told" K62.g0x ["_law_wish", "_law_few"]:=by
   dsimp only [L2.KOf]
   refine' L2.c0v KX G ?a ?l ?c ?k (fun _ _ _ _ _ _ us hl=>match us,hl with | [_,_],_=>rfl)
   (case a=>k_is); (case l=>k_is); (case c=>k_is); (case k=>k_is)
  have d_law_right:L2.DefN (L2.KOf KX) mg "_law_right" K62.f0o ["_law_many", "_law_rows", "_law_few"]:=by
   dsimp only [L2.KOf]
   refine' L2.c0v KX G ?a ?l ?c ?k (fun _ _ _ _ _ _ us hl=>match us,hl with | [_,_,_],_=>rfl)
   (case a=>k_is); (case l=>k_is); (case c=>k_is); (case k=>k_is)
  have d_law:L2.DefN (L2.KOf KX) mg "law" K62.b1d ["_law_script"]:=by
   dsimp only [L2.KOf]
   refine' L2.c0v KX G ?a ?l ?c ?k (fun _ _ _ _ _ _ us hl=>match us,hl with | [_],_=>rfl)
   (case a=>k_is); (case l=>k_is); (case c=>k_is); (case k=>k_is)
  have B:L2.BI mg:=by
   refine' L2.k1y KX G ?z_len ?z_range ?z_isinstance ?z_int ?z_bool ?z_list ?z_tuple ?z_str ?z_sum ?z_all ?z_max ?z_min ?z_sorted ?z_set ?z_zip ?z_enumerate ?z_reversed ?z_dict ?z_any ?z_abs
   (case z_len=>k_is); (case z_range=>k_is); (case z_isinstance=>k_is); (case z_int=>k_is); (case z_bool=>k_is); (case z_list=>k_is); (case z_tuple=>k_is); (case z_str=>k_is); (case z_sum=>k_is); (case z_all=>k_is); (case z_max=>k_is); (case z_min=>k_is); (case z_sorted=>k_is); (case z_set=>k_is); (case z_zip=>k_is); (case z_enumerate=>k_is); (case z_reversed=>k_is); (case z_dict=>k_is); (case z_any=>k_is); (case z_abs=>k_is)
  have c_MOST_CELLS:∃ u,mg "MOST_CELLS" = some u∧L2.RelV (.int 3) u:=by
   refine' ⟨_,PySem.W.mg_of KX G ?a,?b⟩
   (case a=>k_is)
   (case b=>exact ⟨_,rfl⟩)
  have xf:K62.XF (L2.KOf KX) mg:=by
   dsimp only [L2.KOf]
   refine' K62.XF.mk KX G ?f0 ?f1 ?f2 ?f3 ?f4 ?f5 ?f6 ?f7 ?f8 ?f9 ?f10 ?f11 ?f12 ?f13 ?f14_0 ?f14_1 ?f14_2 ?f14_3 ?f14_4 ?f14_5 ?f14_6 ?f14_7 ?f15_0 ?f15_1 ?f15_2 ?f16 ?f17 ?f18 ?f19 ?f20 ?f21_0 ?f21_1 ?f21_2 ?f21_3 ?f21_4 ?f21_5 ?f21_6 ?f21_7 ?f22 ?f23 ?f24 ?f25 ?f26 ?f27 ?f28 ?f29 ?f30 ?f31 ?f32 ?f33 ?f34_0 ?f34_1 ?f34_2 ?f34_3 ?f34_4 ?f34_5 ?f34_6 ?f34_7 ?f35 ?f36 ?f37 ?f38 ?f39 ?f40 ?f41 ?f42 ?f43 ?f44 ?f45 ?f46 ?f47_0 ?f47_1 ?f47_2 ?f47_3 ?f47_4 ?f47_5 ?f47_6 ?f47_7 ?f48 ?f49 ?f50 ?f51 ?f52 ?f53 ?f54 ?f55 ?f56 ?f57 ?f58 ?f59 ?f60_0 ?f60_1 ?f60_2 ?f60_3 ?f60_4 ?f60_5 ?f60_6 ?f60_7 ?f60_8 ?f60_9
   (case f0=>k_is); (case f1=>k_is); (case f2=>k_is); (case f3=>k_is); (case f4=>k_is); (case f5=>k_is); (case f6=>k_is); (case f7=>k_is); (case f8=>k_is); (case f9=>k_is); (case f10=>k_is); (case f11=>k_is); (case f12=>k_is); (case f13=>k_exc); (case f14_0=>k_is); (case f14_1=>k_is); (case f14_2=>k_is); (case f14_3=>k_is); (case f14_4=>kernel_rfl); (case f14_5=>k_is); (case f14_6=>k_is); (case f14_7=>k_is); (case f15_0=>k_is); (case f15_1=>k_is); (case f15_2=>k_is); (case f16=>k_exc); (case f17=>k_exc); (case f18=>k_is); (case f19=>k_is); (case f20=>k_is); (case f21_0=>k_is); (case f21_1=>k_is); (case f21_2=>k_is); (case f21_3=>k_is); (case f21_4=>k_is); (case f21_5=>k_is); (case f21_6=>k_is); (case f21_7=>k_is); (case f22=>kit_is); (case f23=>kit_is); (case f24=>kit_is); (case f25=>kit_is); (case f26=>kit_is); (case f27=>kit_is); (case f28=>kit_is); (case f29=>kit_is); (case f30=>kit_is); (case f31=>kit_is); (case f32=>kit_is); (case f33=>kit_is); (case f34_0=>k_is); (case f34_1=>k_is); (case f34_2=>k_is); (case f34_3=>k_is); (case f34_4=>k_is); (case f34_5=>k_is); (case f34_6=>k_is); (case f34_7=>k_is); (case f35=>kit_is); (case f36=>kit_is); (case f37=>kit_is); (case f38=>kit_is); (case f39=>kit_is); (case f40=>kit_is); (case f41=>kit_is); (case f42=>kit_is); (case f43=>kit_is); (case f44=>kit_is); (case f45=>kit_is); (case f46=>kit_is); (case f47_0=>k_is); (case f47_1=>k_is); (case f47_2=>k_is); (case f47_3=>k_is); (case f47_4=>k_is); (case f47_5=>k_is); (case f47_6=>k_is); (case f47_7=>k_is); (case f48=>kit_is); (case f49=>kit_is); (case f50=>kit_is); (case f51=>kit_is); (case f52=>kit_is); (case f53=>kit_is); (case f54=>kit_is); (case f55=>kit_is); (case f56=>kit_is); (case f57=>kit_is); (case f58=>kit_is); (case f59=>kit_is); (case f60_0=>k_is); (case f60_1=>k_is); (case f60_2=>k_is); (case f60_3=>k_is); (case f60_4=>k_is); (case f60_5=>k_is); (case f60_6=>k_is); (case f60_7=>k_is); (case f60_8=>k_is); (case f60_9=>k_is)
  refine L2.f1s d_law hmg fun base=>?_
  exact K62.fin d_joined d_own_rows d_basis d_leads_of d_reduced d_placed d_refuse_unplaced d_fewest_steps d_reached_next d_all_steps d_with_step d_law_tape d_law_draw d_law_whole d_law_free_rows d_law_left d_law_alone d_law_spoilt d_law_due d_law_told d_law_right d_law c_MOST_CELLS xf B
#print axioms PySem.Challenge.cw_fewjoins_k62_rows_that_lean_holds

