import PyProof.Rows.All
import Wide.All
import OpenK.AllK
import Wide.FinOn
import Lean
import PyProof.EqAt
import PyProof.EqKinds
import PyProof.TupleCall
import PyProof.NeKinds
import PyProof.ListMulAny
import PyProof.Rows.CallKwBuiltin
import PyProof.MinMaxWalk
import PyProof.SeqI3
import PyProof.Rows.TupAdd
import PyProof.MeetsDict
import PyProof.DictList
import PyProof.ZipIter
import PyProof.Rows.ZipGen
import PyProof.ListRange
import PyProof.TupleOfStr
import PyProof.Rows.FStr
import PyProof.Rows.StrJoin2
import PyProof.Rows.Range3
import PyProof.EnumMake
import PyProof.EnumFor
import PyProof.EnumStmt
import KE.KUnpackStar
import KE.KDictList
import PyProof.Rows.SortWalk
import KE.RegKIsAll
import PyProof.NsDelKeeps
import PyProof.Rows.CountFlat
import KE.KRevIter
import PyProof.Draws
import PyProof.ExcInit
import PyProof.InstStoreFacts
import PyProof.DictCompW
import PyProof.DictIter
import PyProof.DictWalks
import PyProof.Rows.SetFrom
import PyProof.SetRoads
import PySem.Challenge.RW_fewjoins_k75_texts_of_no_wish
set_option Elab.async false
set_option linter.all false
set_option maxRecDepth 100000
namespace L2
open PySem PySem.Spec PyProof.Rows
abbrev Key:=Sum Int Str
def y0b:Key→Value→Bool
 | .inl k,v=>Value.isInt k v
 | .inr x,v=>Value.isStrOf x v
def keyH (w:World):Key→Int
 | .inl k=>hashInt k
 | .inr x=>hashStr w x
theorem c0i:∀ {k:Key} {v:Value},y0b k v = true→(∃ i t,k = Sum.inl i∧v = Value.int i t) ∨ (∃ x t,k = Sum.inr x∧v = Value.str x t)
 | .inl i,v,h=>by
  obtain ⟨t,e⟩:=Value.isInt_shape (k:=i) (v:=v) h
  exact .inl ⟨i,t,rfl,e⟩
 | .inr x,v,h=>by
  obtain ⟨t,e⟩:=Value.isStrOf_shape (x:=x) (v:=v) h
  exact .inr ⟨x,t,rfl,e⟩
theorem b1i (i:Int) (t:Tok):y0b (.inl i) (.int i t) = true:=by simp [y0b,Value.isInt]
theorem b1h (x:Str) (t:Tok):y0b (.inr x) (.str x t) = true:=by simp [y0b,Value.isStrOf]
theorem n1m (a b:Int):decide ((Sum.inl a:Key) = Sum.inl b) = (a == b):=by
 by_cases e:a = b
 ·subst e; simp
 ·have h:¬ (Sum.inl a:Key) = Sum.inl b:=fun q=>e (Sum.inl.inj q)
  rw [decide_eq_false h]
  exact (beq_eq_false_iff_ne.mpr e).symm
theorem n1j (a b:Str):decide ((Sum.inr a:Key) = Sum.inr b) = decide (a = b):=by
 by_cases e:a = b
 ·subst e; simp
 ·have h:¬ (Sum.inr a:Key) = Sum.inr b:=fun q=>e (Sum.inr.inj q)
  rw [decide_eq_false h,decide_eq_false e]
theorem n1l (a:Int) (b:Str):decide ((Sum.inl a:Key) = Sum.inr b) = false:=decide_eq_false (fun q=>nomatch q)
theorem n1k (a:Str) (b:Int):decide ((Sum.inr a:Key) = Sum.inl b) = false:=decide_eq_false (fun q=>nomatch q)
def d0e (prog:Program) (w:World):PySem.KeyKind prog w Key where
 is:=y0b
 hash:=keyH w
 inj:=fun v a b ha hb=>by
  rcases c0i ha with ⟨i,t,rfl,rfl⟩ | ⟨x,t,rfl,rfl⟩
  ·rcases c0i hb with ⟨j,u,rfl,e⟩ | ⟨y,u,rfl,e⟩
   ·injection e with e1 _; rw [e1]
   ·exact nomatch e
  ·rcases c0i hb with ⟨j,u,rfl,e⟩ | ⟨y,u,rfl,e⟩
   ·exact nomatch e
   ·injection e with e1 _; rw [e1]
 byValue:=fun k v h=>by
  rcases c0i h with ⟨i,t,rfl,rfl⟩ | ⟨x,t,rfl,rfl⟩ <;> rfl
 pyHash:=fun hv h=>by
  rcases c0i hv with ⟨i,t,rfl,rfl⟩ | ⟨x,t,rfl,rfl⟩
  ·exact wpAny_pyHash_int h
  ·exact wpAny_pyHash_str h
 eqBool:=fun hu hv h=>by
  rcases c0i hu with ⟨i,t,rfl,rfl⟩ | ⟨x,t,rfl,rfl⟩
  ·rcases c0i hv with ⟨j,u,rfl,rfl⟩ | ⟨y,u,rfl,rfl⟩
   ·rw [n1m] at h; exact wpAny_eqBool_int h
   ·rw [n1l] at h; exact SeqAt.EqAt.int_str i t y u _ _ _ _ h
  ·rcases c0i hv with ⟨j,u,rfl,rfl⟩ | ⟨y,u,rfl,rfl⟩
   ·rw [n1k] at h; exact SeqAt.EqAt.str_int x t j u _ _ _ _ h
   ·rw [n1j] at h; exact wpAny_eqBool_str h
 «strs»:=fun k x t v h=>by
  rcases c0i h with ⟨i,u,rfl,e⟩ | ⟨y,u,rfl,e⟩
  ·exact nomatch e
  ·injection e with e1 _
   subst e1
   cases v <;> rfl
theorem u0l (prog:Program) (w:World) (i:Int) (t:Tok):(d0e prog w).is (.inl i) (.int i t) = true:=b1i i t
theorem u0k (prog:Program) (w:World) (x:Str) (t:Tok):(d0e prog w).is (.inr x) (.str x t) = true:=b1h x t
inductive V where
 | non | bl (b:Bool) | int (i:Int) | str (x:Str) | byt (b:Array UInt8) | flt (b:UInt64) | ref (a:Addr) | ty (n:String)
 deriving DecidableEq
def RelV:V→Value→Prop
 | .non,u=>u = Value.none
 | .bl b,u=>u = Value.bool b
 | .int i,u=>∃ t,u = Value.int i t
 | .str x,u=>∃ t,u = Value.str x t
 | .byt b,u=>∃ t,u = Value.bytes b t
 | .flt b,u=>∃ t,u = Value.float b t
 | .ref a,u=>u = Value.ref a
 | .ty n,u=>u = Value.type n
abbrev Vals:List V→List Value→Prop:=Paired RelV
theorem Vals.length {xs:List V} {us:List Value} (r:Vals xs us):xs.length = us.length:=Paired.length r
theorem Vals.get:∀ {xs:List V} {us:List Value} {i:Nat} {x:V},Vals xs us→xs[i]? = some x→∃ u,us[i]? = some u∧RelV x u
 | _,_,_,_,.nil,e=>by simp at e
 | _,_,0,_,.cons r _,e=>by simp at e; subst e; exact ⟨_,rfl,r⟩
 | _,_,i + 1,x,.cons _ t,e=>by
  obtain ⟨u,h1,h2⟩:=Vals.get (i:=i) (x:=x) t (by simpa using e)
  exact ⟨u,by simpa using h1,h2⟩
theorem Vals.set {x:V} {u:Value} (r:RelV x u):∀ {xs:List V} {us:List Value} (i:Nat),Vals xs us→Vals (xs.set i x) (us.set i u)
 | _,_,_,.nil=>.nil
 | _,_,0,.cons _ t=>.cons r t
 | _,_,i + 1,.cons q t=>.cons q (Vals.set r i t)
theorem Vals.append:∀ {xs ys:List V} {us ws:List Value},Vals xs us→Vals ys ws→Vals (xs ++ ys) (us ++ ws)
 | _,_,_,_,.nil,s=>s
 | _,_,_,_,.cons r t,s=>.cons r (Vals.append t s)
theorem Vals.take:∀ {xs:List V} {us:List Value} (n:Nat),Vals xs us→Vals (xs.take n) (us.take n)
 | _,_,0,_=>.nil
 | _,_,_ + 1,.nil=>.nil
 | _,_,n + 1,.cons r t=>.cons r (Vals.take n t)
theorem Vals.drop:∀ {xs:List V} {us:List Value} (n:Nat),Vals xs us→Vals (xs.drop n) (us.drop n)
 | _,_,0,r=>r
 | _,_,_ + 1,.nil=>.nil
 | _,_,n + 1,.cons _ t=>Vals.drop n t
def RelO:Option V→Option Value→Prop
 | some v,some u=>RelV v u
 | none,none=>True
 | _,_=>False
def KV {κ:Type}:List (κ × V)→List (κ × Value)→Prop:=Paired fun (p:κ × V) (q:κ × Value)=>p.1 = q.1∧RelV p.2 q.2
def kV:Key→V
 | .inl i=>.int i
 | .inr x=>.str x
inductive HO where
 | lst (xs:List V)
 | tup (xs:List V)
 | dK (kvs:List (Key × V)) | dT (kvs:List (List Key × V))
 | set (S:Int→Bool) (n:Nat)
 | ins (C dx:Addr) (fs:List (Str × V))
 | own (x:Addr)
 | xd (fs:List (Str × V))
 | met (f x:Addr)
 | rng (lo hi:Int)
 | frz (o:Obj) (u:HO)
 | tbl (ps:Array Value)
 | ext (φ:Heap→Prop)
abbrev Hp:=Addr→Option HO
def upd (H:Hp) (a:Addr) (o:HO):Hp:=fun b=>if b = a then some o else H b
theorem b0g {H:Hp} {a:Addr} {o:HO}:upd H a o a = some o:=by unfold upd; rw [if_pos rfl]
theorem a0o {H:Hp} {a b:Addr} {o:HO} (h:b ≠ a):upd H a o b = H b:=by unfold upd; rw [if_neg h]
theorem i1d {H:Hp} {a:Addr} {o u:HO}:upd (upd H a o) a u = upd H a u:=by
 funext b; unfold upd; split <;> rfl
theorem n0o {H:Hp} {a b:Addr} {o u:HO} (h:H a = some o) (h':H b = some u) (d:o ≠ u):a ≠ b:=by
 intro e; subst e; rw [h] at h'; exact d (Option.some.inj h')
theorem b0h {H:Hp} {a b:Addr} {o:HO} (h:H a = some o) (h':H b = none):a ≠ b:=by
 intro e; subst e; rw [h] at h'; cases h'
section
variable (P:Program) (w:World)
def d0x (H:Hp) (h:Heap) (a:Addr):HO→Prop
 | .lst xs=>xs.length ≤ sizeLine∧∃ (its:List Value) (n:Nat),Vals xs its∧h.get? a = some { cls:=.type "list",data:=.seq its.toArray n }
 | .tup xs=>xs.length ≤ sizeLine∧∃ its:List Value,Vals xs its∧IsTup h a its.toArray
 | .dK kvs=>kvs.length ≤ sizeLine∧(a == sysModules) = false∧∃ vs,KV kvs vs∧h.DictOf (d0e P w) a vs
 | .dT kvs=>kvs.length ≤ sizeLine∧(a == sysModules) = false∧∃ xs:List (List Key × Addr × Value),
   Paired (fun (p:List Key × V) (q:List Key × Addr × Value)=>p.1 = q.1∧H q.2.1 = some (.tup (p.1.map kV))∧RelV p.2 q.2.2) kvs xs ∧
   ∃ o es ep,h.get? a = some o∧o.ExactDict∧o.data = .dict es ep∧es.toList = xs.map (entryOfKey (tupleKind (d0e P w)))∧(xs.map (·.1)).Nodup
 | .set S n=>h.SetOf (intKind P w) a S n
 | .ins C dx fs=>H dx = some (.own a)∧fs.length ≤ 1000∧dx ≠ a∧h.get? a = some (PySem.W.instObj C dx) ∧
   ∃ mA,h.Ns1 dx mA∧(∀ f,RelO (fs.lookup f) (mA f))∧PySem.Within mA (fs.map (·.1))
 | .own _=>∃ o,h.get? a = some o
 | .xd fs=>∃ mA,h.Ns1 a mA∧∀ f,RelO (fs.lookup f) (mA f)
 | .rng lo hi=>∃ t u v,h.get? a = some { cls:=.type "range",data:=.fields #[.int lo t,.int hi u,.int 1 v] }
 | .frz o u=>h.get? a = some o∧d0x H h a u
 | .tbl ps=>h.get? a = some { cls:=.none,data:=.fields ps }
 | .met f x=>h.get? a = some (PySem.W.methodObj (.ref f) (.ref x))
 | .ext φ=>φ h∧(∃ o,h.get? a = some o)∧∀ h1 h2:Heap,φ h1→(∀ o,h1.get? a = some o→h2.get? a = some o)→φ h2
def HOk (H:Hp) (h:Heap):Prop:=∀ a o,H a = some o→d0x P w H h a o
end
section
variable {P:Program} {w:World} {H H':Hp} {h h':Heap} {a:Addr} {o:HO}
theorem d0x.lt (x:d0x P w H h a o):a < h.objs.size:=by
 cases o with
 | lst xs=>obtain ⟨_,_,_,_,e⟩:=x; exact Heap.lt_size e
 | tup xs=>obtain ⟨_,_,_,p⟩:=x; exact p.lt
 | dK kvs=>obtain ⟨_,_,_,_,o,_,_,e,_⟩:=x; exact Heap.lt_size e
 | dT kvs=>obtain ⟨_,_,_,_,o,_,_,e,_⟩:=x; exact Heap.lt_size e
 | set S n=>obtain ⟨o,_,_,_,e,_⟩:=x; exact Heap.lt_size e
 | ins C dx fs=>obtain ⟨_,_,_,e,_⟩:=x; exact Heap.lt_size e
 | own y=>obtain ⟨_,e⟩:=x; exact Heap.lt_size e
 | xd fs=>obtain ⟨_,⟨_,_,_,e,_⟩,_⟩:=x; exact Heap.lt_size e
 | rng lo hi=>obtain ⟨_,_,_,e⟩:=x; exact Heap.lt_size e
 | frz ob u=>obtain ⟨e,_⟩:=x; exact Heap.lt_size e
 | tbl ps=>exact Heap.lt_size (show h.get? a = some _ from x)
 | met f y=>exact Heap.lt_size (show h.get? a = some _ from x)
 | ext φ=>obtain ⟨_,⟨_,e⟩,_⟩:=x; exact Heap.lt_size e
theorem Paired.mapP {α β:Type} {F G:α→β→Prop}:∀ {l₁:List α} {l₂:List β},Paired F l₁ l₂→(∀ a b,F a b→G a b)→Paired G l₁ l₂
 | _,_,.nil,_=>.nil
 | _,_,.cons r t,f=>.cons (f _ _ r) (Paired.mapP t f)
theorem d0x.stay (x:d0x P w H h a o) (k:∀ b u,(b = a ∨ H b = some (.own a))→h.get? b = some u→h'.get? b = some u)
  (ho:∀ b,H b = some (.own a)→H' b = some (.own a)) (ht:∀ b xs,H b = some (.tup xs)→H' b = some (.tup xs)):d0x P w H' h' a o:=by
 induction o with
 | lst xs=>obtain ⟨z,its,n,r,e⟩:=x; exact ⟨z,its,n,r,k _ _ (.inl rfl) e⟩
 | tup xs=>obtain ⟨z,its,r,ob,e,c⟩:=x; exact ⟨z,its,r,ob,k _ _ (.inl rfl) e,c⟩
 | dK kvs=>obtain ⟨z,y,vs,r,ob,es,ep,e,c⟩:=x; exact ⟨z,y,vs,r,ob,es,ep,k _ _ (.inl rfl) e,c⟩
 | dT kvs =>
  obtain ⟨z,y,xs,r,ob,es,ep,e,c⟩:=x
  exact ⟨z,y,xs,Paired.mapP r fun p q z=>⟨z.1,ht _ _ z.2.1,z.2.2⟩,ob,es,ep,k _ _ (.inl rfl) e,c⟩
 | set S n=>obtain ⟨ob,es,ep,t,e,c⟩:=x; exact ⟨ob,es,ep,t,k _ _ (.inl rfl) e,c⟩
 | ins C dx fs =>
  obtain ⟨d,z,ne,e,mA,⟨od,es,ep,e2,c⟩,r⟩:=x
  exact ⟨ho _ d,z,ne,k _ _ (.inl rfl) e,mA,⟨od,es,ep,k _ _ (.inr d) e2,c⟩,r⟩
 | own y=>obtain ⟨ob,e⟩:=x; exact ⟨ob,k _ _ (.inl rfl) e⟩
 | xd fs=>obtain ⟨mA,⟨od,es,ep,e,c⟩,r⟩:=x; exact ⟨mA,⟨od,es,ep,k _ _ (.inl rfl) e,c⟩,r⟩
 | rng lo hi=>obtain ⟨t,u,v,e⟩:=x; exact ⟨t,u,v,k _ _ (.inl rfl) e⟩
 | frz ob u ih=>obtain ⟨e,q⟩:=x; exact ⟨k _ _ (.inl rfl) e,ih q⟩
 | tbl ps =>
  have e:h.get? a = some { cls:=.none,data:=.fields ps }:=x
  show h'.get? a = some { cls:=.none,data:=.fields ps }
  exact k a _ (.inl rfl) e
 | met f y =>
  have e:h.get? a = some (PySem.W.methodObj (.ref f) (.ref y)):=x
  show h'.get? a = some (PySem.W.methodObj (.ref f) (.ref y))
  exact k a _ (.inl rfl) e
 | ext φ=>obtain ⟨p,⟨o,e⟩,st⟩:=x; exact ⟨st _ _ p fun o q=>k _ _ (.inl rfl) q,⟨o,k _ _ (.inl rfl) e⟩,st⟩
theorem HOk.lt (x:HOk P w H h) (e:H a = some o):a < h.objs.size:=(x a o e).lt
theorem HOk.fresh (x:HOk P w H h) (e:h.objs.size ≤ a):H a = none:=by
 cases q:H a with
 | none=>rfl
 | some u=>exact absurd (Nat.lt_of_lt_of_le (x.lt q) e) (Nat.lt_irrefl _)
theorem HOk.kept (x:HOk P w H h) (k:∀ b u,h.get? b = some u→h'.get? b = some u):HOk P w H h':=fun a o e =>
 (x a o e).stay (fun b u _ q=>k b u q) (fun _ q=>q) fun _ _ q=>q
theorem HOk.laid (x:HOk P w H h) (k:∀ b u,h.get? b = some u→h'.get? b = some u) (hp:h.objs.size ≤ a) (new:d0x P w (upd H a o) h' a o):HOk P w (upd H a o) h':=fun b u e=>by
 have hn:=x.fresh hp
 by_cases hb:b = a
 ·subst hb; rw [b0g] at e; cases e; exact new
 ·rw [a0o hb] at e
  exact (x b u e).stay (fun c v _ q=>k c v q) (fun c q=>by rw [a0o (b0h q hn)]; exact q) fun c xs q=>by rw [a0o (b0h q hn)]; exact q
end
def Rd (H:Hp) (a:Addr) (u:HO):Prop:=H a = some u ∨ ∃ o,H a = some (.frz o u)
theorem Rd.of {H:Hp} {a:Addr} {u:HO} (h:H a = some u):Rd H a u:=.inl h
theorem Rd.ok {P:Program} {w:World} {H:Hp} {h:Heap} {a:Addr} {u:HO} (r:Rd H a u) (x:HOk P w H h):d0x P w H h a u:=by
 rcases r with r | ⟨o,r⟩
 ·exact x a u r
 ·obtain ⟨_,q⟩:=x a _ r
  exact q
def Mut:Option HO→Prop
 | some (.lst _)=>True
 | some (.dK _)=>True
 | some (.dT _)=>True
 | some (.set _ _)=>True
 | some (.ins _ _ _)=>True
 | some (.ext _)=>True
 | _=>False
section
variable {P:Program} {w:World} {H:Hp} {h h':Heap} {x e:Addr} {o':HO}
theorem HOk.write (ok:HOk P w H h) (mu:Mut (H x)) (he:e = x ∨ H e = some (.own x)) (k:∀ b u,b ≠ e→h.get? b = some u→h'.get? b = some u) (heo:∃ u,h'.get? e = some u)
  (new:d0x P w (upd H x o') h' x o'):HOk P w (upd H x o') h':=fun b u q=>by
 have nown:∀ c y,H c = some (.own y)→c ≠ x:=fun c y r z=>by subst z; rw [r] at mu; exact mu
 have ntup:∀ c xs,H c = some (.tup xs)→c ≠ x:=fun c xs r z=>by subst z; rw [r] at mu; exact mu
 by_cases hb:b = x
 ·subst hb; rw [b0g] at q; cases q; exact new
 ·rw [a0o hb] at q
  by_cases hbe:b = e
  ·have q':H b = some (.own x):=by
    rcases he with z | z
    ·exact absurd (hbe.trans z) hb
    ·rw [hbe]; exact z
   rw [q] at q'; cases q'
   obtain ⟨v,hv⟩:=heo
   exact ⟨v,by rw [hbe]; exact hv⟩
  ·refine (ok b u q).stay (fun c v hc r=>k c v ?_ r) (fun c r=>by rw [a0o (nown c b r)]; exact r) fun c xs r=>by rw [a0o (ntup c xs r)]; exact r
   rcases hc with rfl | hc
   ·exact hbe
   ·rintro rfl
    rcases he with z | z
    ·exact nown c b hc z
    ·rw [hc] at z; cases z; exact hb rfl
end
structure Un (fs ex:List Addr) (H H':Hp) (h h':Heap):Prop where
 keep:∀ b o,h.get? b = some o→H b = none→b ∉ fs→b ∉ ex→h'.get? b = some o
 slot:∀ b o,h.get? b = some o→H b = none→b ∈ fs→b ∉ ex→∃ sl,h'.get? b = some { o with slots:=sl }
 free:∀ b o,h.get? b = some o→H b = none→b ∉ ex→H' b = none
 there:∀ b o,h.get? b = some o→b ∉ ex→∃ o',h'.get? b = some o'
 tups:∀ b xs,H b = some (.tup xs)→H' b = some (.tup xs)
 frzs:∀ b o u,H b = some (.frz o u)→H' b = some (.frz o u)
 tbls:∀ b ps,H b = some (.tbl ps)→∃ more,H' b = some (.tbl (ps ++ more))
section
variable {fs fs' ex ex':List Addr} {H H1 H2:Hp} {h h1 h2 h':Heap} {a x e:Addr} {o:HO}
theorem Un.any (u:Un fs ex H H1 h h1) {b:Addr} {ob:Obj} (q:h.get? b = some ob) (n:H b = none) (hx:b ∉ ex):∃ sl,h1.get? b = some { ob with slots:=sl }:=by
 by_cases hb:b ∈ fs
 ·exact u.slot b ob q n hb hx
 ·exact ⟨ob.slots,u.keep b ob q n hb hx⟩
theorem Un.trans (a:Un fs ex H H1 h h1) (b:Un fs ex H1 H2 h1 h2):Un fs ex H H2 h h2 where
 keep:=fun c ob q n hc hx=>b.keep c ob (a.keep c ob q n hc hx) (a.free c ob q n hx) hc hx
 slot:=fun c ob q n hc hx=>by
  obtain ⟨sl,e1⟩:=a.slot c ob q n hc hx
  obtain ⟨sl',e2⟩:=b.slot c _ e1 (a.free c ob q n hx) hc hx
  exact ⟨sl',e2⟩
 free:=fun c ob q n hx=>by
  obtain ⟨o',e1⟩:=a.there c ob q hx
  exact b.free c o' e1 (a.free c ob q n hx) hx
 there:=fun c ob q hx=>by
  obtain ⟨o',e1⟩:=a.there c ob q hx
  exact b.there c o' e1 hx
 tups:=fun c xs q=>b.tups c xs (a.tups c xs q)
 frzs:=fun c ob xs q=>b.frzs c ob xs (a.frzs c ob xs q)
 tbls:=fun c ps q=>by
  obtain ⟨m1,e1⟩:=a.tbls c ps q
  obtain ⟨m2,e2⟩:=b.tbls c _ e1
  exact ⟨m1 ++ m2,by rw [e2,Array.append_assoc]⟩
theorem Un.kept (k:∀ b u,h.get? b = some u→h'.get? b = some u):Un fs ex H H h h' :=
 ⟨fun b ob q _ _ _=>k b ob q,fun b ob q _ _ _=>⟨ob.slots,k b ob q⟩,fun _ _ _ n _=>n,fun b ob q _=>⟨ob,k b ob q⟩,fun _ _ q=>q,fun _ _ _ q=>q,fun _ ps q=>⟨#[],by rw [q]; simp⟩⟩
theorem Un.refl:Un fs ex H H h h:=Un.kept fun _ _ q=>q
theorem Un.laid (k:∀ b u,h.get? b = some u→h'.get? b = some u) (hp:h.objs.size ≤ a) (hn:H a = none):Un fs ex H (upd H a o) h h' where
 keep:=fun b u q _ _ _=>k b u q
 slot:=fun b u q _ _ _=>⟨u.slots,k b u q⟩
 free:=fun b u q n _=>by rw [a0o (Nat.ne_of_lt (Nat.lt_of_lt_of_le (Heap.lt_size q) hp))]; exact n
 there:=fun b u q _=>⟨u,k b u q⟩
 tups:=fun b xs q=>by rw [a0o (b0h q hn)]; exact q
 frzs:=fun b u xs q=>by rw [a0o (b0h q hn)]; exact q
 tbls:=fun b ps q=>⟨#[],by rw [a0o (b0h q hn),q]; simp⟩
theorem Un.write (mu:Mut (H x)) (he:e = x ∨ H e = some (.own x)) (k:∀ b u,b ≠ e→h.get? b = some u→h'.get? b = some u) (heo:∃ u,h'.get? e = some u):Un fs ex H (upd H x o) h h':=by
 have hx:∀ b,H b = none→b ≠ x:=fun b n z=>by subst z; rw [n] at mu; exact mu
 have hb:∀ b,H b = none→b ≠ e:=fun b n z=>by
  subst z
  rcases he with r | r
  ·exact hx b n r
  ·rw [n] at r; cases r
 have hm:∀ b u,H b = some u→¬ Mut (some u)→b ≠ x:=fun b u q nm z=>by subst z; rw [q] at mu; exact nm mu
 refine ⟨fun b u q n _ _=>k b u (hb b n) q,fun b u q n _ _=>⟨u.slots,k b u (hb b n) q⟩,fun b u q n _=>by rw [a0o (hx b n)]; exact n,fun b u q _=>?_,
  fun b xs q=>by rw [a0o (hm b _ q fun z=>z)]; exact q,fun b u xs q=>by rw [a0o (hm b _ q fun z=>z)]; exact q,fun b ps q=>⟨#[],by rw [a0o (hm b _ q fun z=>z),q]; simp⟩⟩
 by_cases hbe:b = e
 ·subst hbe; exact heo
 ·exact ⟨u,k b u hbe q⟩
theorem Un.mono (u:Un fs ex H H1 h h1) (hs:∀ b ∈ fs,b ∈ fs') (hx:∀ b ∈ ex,b ∈ ex'):Un fs' ex' H H1 h h1 :=
 ⟨fun b ob q n hb he=>u.keep b ob q n (fun z=>hb (hs b z)) fun z=>he (hx b z),fun _ _ q n _ he=>u.any q n fun z=>he (hx _ z),fun b ob q n he=>u.free b ob q n fun z=>he (hx b z),fun b ob q he=>u.there b ob q fun z=>he (hx b z),u.tups,u.frzs,u.tbls⟩
end
def trk (h:Heap) (H:Hp):List Addr:=(List.range h.objs.size).filter fun a=>(H a).isSome
def hidT (h:Heap) (H:Hp):Heap:=PySem.W.hideAll h (trk h H)
theorem b1t (h:Heap) (H:Hp):(hidT h H).objs.size = h.objs.size:=PySem.W.hideAll_size _ _
theorem f1l {h:Heap} {H:Hp} {b:Addr} {o:Obj} (e:h.get? b = some o) (n:H b = none):(hidT h H).get? b = some o :=
 PySem.W.hideAll_get _ e fun hm=>by
  have q:(H b).isSome = true:=(List.mem_filter.mp hm).2
  rw [n] at q; simp at q
theorem j1r {h:Heap} {H:Hp} {b:Addr} {o:Obj} (e:(hidT h H).get? b = some o):h.get? b = some o∧H b = none:=by
 have e':h.get? b = some o:=PySem.W.of_hideAll (trk h H) e
 refine ⟨e',?_⟩
 cases q:H b with
 | none=>rfl
 | some x =>
  have hm:b ∈ trk h H:=List.mem_filter.mpr ⟨List.mem_range.mpr (Heap.lt_size e'),by simp [q]⟩
  have z:(hidT h H).get? b = none:=PySem.W.hideAll_none (trk h H) hm
  rw [z] at e; cases e
def l1f (g h:Heap) (L:Addr):List (Addr × Obj):=(List.range h.objs.size).filterMap fun a=>if a = L ∨ (g.get? a).isSome = true then none else (h.get? a).map fun o=>(a,o)
def rest (g h:Heap) (L d:Addr):List (Addr × Obj):=(l1f g h L).filter fun p=>decide (p.1 ≠ d)
structure Mod (K:PySem.W.Frag) (mg:Str→Option Value) (base:Heap):Prop where
 kin:K.In base
 glob:base.Ns mainGlobals mg
 blt:∃ mb,base.Ns builtinsNs mb∧∀ x:Str,x ≠ "__name__" → mb x = bootBuiltins x
 nolimit:base.NoLimit
structure Cx where
 prog:Program
 w:World
 K:PySem.W.Frag
 mg:Str→Option Value
 base:Heap
 A:Around
 N:List Str
 s₀:Shared
 H₀:Hp
 env:Env
 outer:List Env
 stack:List Env
 ex:List Addr
 fn:Str→Bool
 calm:Bool
 pn:List (Addr × Obj)
 xe:Value→Shared→Prop
def frs (l:List Env):List Addr:=l.filterMap (·.frame)
abbrev Cx.fs (X:Cx):List Addr:=frs X.outer
def Vis (sc:Scope) (x:Str):Prop:=sc.names.lookup x = some .local ∨ sc.names.lookup x = some .cell ∨ sc.names.lookup x = some .free
def Loc (sc:Scope) (x:Str):Prop:=sc.names.lookup x = some .local ∨ sc.names.lookup x = some .cell
def Look (env:Env) (h:Heap) (m:Str→Option Value) (x:Str) (u:Value):Prop :=
 (env.kindOf x = some .local∧m x = some u) ∨ ((env.kindOf x = some .cell ∨ env.kindOf x = some .free)∧∃ c,env.cells.lookup x = some c∧h.IsCell c (some u))
structure Cx.Ok (X:Cx):Prop where
 mod:Mod X.K X.mg X.base
 kind:X.env.scope.kind = .function
 glob:X.env.globals = mainGlobals
 blt:X.env.builtins = builtinsNs
 above:X.s₀.heap.objs.size ≤ X.env.locals
 inj:∀ x y c,X.env.cells.lookup x = some c→X.env.cells.lookup y = some c→x = y
 has:∀ x,(X.env.kindOf x = some .cell ∨ X.env.kindOf x = some .free)→∃ c,X.env.cells.lookup x = some c
 cab:∀ x c,X.fn x = true→X.env.cells.lookup x = some c→X.s₀.heap.objs.size ≤ c
 hd:X.calm = true→X.A.handled = none
 frames:X.A.frames = some X.stack
 stk:X.stack = X.outer ∨ (X.stack = X.env :: X.outer∧X.env.frame = some X.env.locals)
 exf:∀ b ∈ X.ex,b ≠ X.env.locals∧∀ x c,X.env.cells.lookup x = some c→c ≠ b
 bs:∀ b o,X.base.get? b = some o→X.s₀.heap.get? b = some o∧X.H₀ b = none
 bsz:X.base.objs.size ≤ X.s₀.heap.objs.size
 noex:∀ b o,X.base.get? b = some o→b ∉ X.ex
 exfs:∀ b ∈ X.ex,b ∉ X.fs
 funs:X.s₀.heap.FunFrames X.base X.outer
 frf:∀ b ∈ X.fs,X.H₀ b = none
structure Inv (X:Cx) (pins:List (Addr × Obj)) (σ:List (Option V)) (H:Hp) (s:Shared):Prop where
 ok:X.Ok
 os:s.os = X.s₀.os
 bare:AllBare s.gens
 base:Un X.fs X.ex X.H₀ H X.s₀.heap s.heap
 loc:∃ m,s.heap.Ns X.env.locals m∧∀ (i:Nat) (x:Str) (v:V),X.N[i]? = some x→σ[i]? = some (some v)→Vis X.env.scope x→∃ u,RelV v u∧Look X.env s.heap m x u
 cell:∀ x c,X.env.cells.lookup x = some c→∃ v,s.heap.IsCell c v
 free:H X.env.locals = none
 freeC:∀ x c,X.env.cells.lookup x = some c→H c = none
 pin:∀ p ∈ X.pn ++ pins,s.heap.get? p.1 = some p.2∧H p.1 = none∧p.1 ≠ X.env.locals∧p.1 ∉ X.fs∧∀ v,p.2.data ≠ .cell v
 hok:HOk X.prog X.w H s.heap
 len:σ.length = X.N.length
section
variable {X:Cx} {pins:List (Addr × Obj)} {σ:List (Option V)} {H H':Hp} {s:Shared} {h':Heap}
theorem Cx.Ok.nofr (ok:X.Ok) {b:Addr} {o:Obj} (e:X.base.get? b = some o):b ∉ X.fs:=fun hb=>by
 have:=(ok.funs.mem hb).1
 rw [e] at this; cases this
theorem Inv.bs (I:Inv X pins σ H s):∀ b o,X.base.get? b = some o→s.heap.get? b = some o∧H b = none:=fun b o e =>
 ⟨I.base.keep b o (I.ok.bs b o e).1 (I.ok.bs b o e).2 (I.ok.nofr e) (I.ok.noex b o e),I.base.free b o (I.ok.bs b o e).1 (I.ok.bs b o e).2 (I.ok.noex b o e)⟩
theorem Inv.bk (I:Inv X pins σ H s):∀ b o,X.base.get? b = some o→s.heap.get? b = some o:=fun b o e=>(I.bs b o e).1
theorem Inv.mod (I:Inv X pins σ H s):Mod X.K X.mg X.base:=I.ok.mod
theorem Inv.kIn (I:Inv X pins σ H s):X.K.In s.heap:=I.ok.mod.kin.keeps I.bk
theorem Inv.nolimit (I:Inv X pins σ H s):s.heap.NoLimit:=I.ok.mod.nolimit.keeps I.bk
theorem Inv.fr (I:Inv X pins σ H s):∃ m,Fr X.base X.env.locals s.heap m :=
 let ⟨m,hn,_⟩:=I.loc
 ⟨m,hn,I.bk,Nat.le_trans I.ok.bsz I.ok.above⟩
theorem Inv.lt (I:Inv X pins σ H s):X.env.locals < s.heap.objs.size:=let ⟨_,hn,_⟩:=I.loc; hn.lt
theorem Inv.sz (I:Inv X pins σ H s):X.s₀.heap.objs.size ≤ s.heap.objs.size:=Nat.le_trans I.ok.above (Nat.le_of_lt I.lt)
theorem Inv.nofs (I:Inv X pins σ H s) {a:Addr} (h:s.heap.objs.size ≤ a):a ∉ X.fs:=fun hb=>by
 obtain ⟨_,o,ho,_⟩:=I.ok.funs.mem hb
 exact absurd (Nat.lt_of_lt_of_le (Heap.lt_size ho) (Nat.le_trans I.sz h)) (Nat.lt_irrefl _)
theorem Inv.cne (I:Inv X pins σ H s):∀ x c,X.env.cells.lookup x = some c→c ≠ X.env.locals:=fun x c e z=>by
 obtain ⟨v,o,ho,hd⟩:=I.cell x c e
 obtain ⟨m,⟨o',es,ep,ho',hd',_⟩,_⟩:=I.loc
 rw [z,ho'] at ho; cases ho; rw [hd'] at hd; cases hd
theorem Inv.funs (I:Inv X pins σ H s):s.heap.FunFrames X.base X.outer:=by
 have all:∀ (l:List Env),(∀ b ∈ frs l,b ∈ X.fs)→X.s₀.heap.FunFrames X.base l→s.heap.FunFrames X.base l:=by
  intro l
  induction l with
  | nil=>intro _ _; trivial
  | cons env r ih =>
   intro hs hl
   obtain ⟨hk,⟨L,o,hf,hn,ho,hd⟩,hr⟩:=hl
   have hL:L ∈ X.fs:=hs L (by unfold frs; rw [List.filterMap_cons,hf]; exact List.mem_cons_self)
   obtain ⟨sl,e⟩:=I.base.slot L o ho (I.ok.frf L hL) hL fun z=>I.ok.exfs L z hL
   exact ⟨hk,⟨L,_,hf,hn,e,hd⟩,ih (fun b hb=>hs b (by unfold frs; rw [List.filterMap_cons,hf]; exact List.mem_cons_of_mem _ hb)) hr⟩
 exact all X.outer (fun _ hb=>hb) I.ok.funs
theorem Inv.stack (I:Inv X pins σ H s):s.heap.FunFrames X.base X.stack:=by
 rcases I.ok.stk with e | ⟨e,hf⟩
 ·rw [e]; exact I.funs
 ·rw [e]
  obtain ⟨m,hn,_⟩:=I.loc
  refine .cons (by rw [I.ok.kind]; decide) hf hn ?_ I.funs
  exact Heap.get?_none_of_le (Nat.le_trans I.ok.bsz I.ok.above)
theorem Inv.stkSub (I:Inv X pins σ H s):∀ b ∈ frs X.stack,b ∈ X.env.locals :: X.fs:=fun b hb=>by
 rcases I.ok.stk with e | ⟨e,hf⟩
 ·rw [e] at hb; exact List.mem_cons_of_mem _ hb
 ·rw [e] at hb
  unfold frs at hb
  rw [List.filterMap_cons,hf] at hb
  exact hb
theorem Inv.stkFree (I:Inv X pins σ H s):∀ b ∈ frs X.stack,H b = none:=fun b hb=>by
 rcases List.mem_cons.mp (I.stkSub b hb) with e | hb
 ·rw [e]; exact I.free
 ·obtain ⟨_,o,ho,_⟩:=I.ok.funs.mem hb
  exact I.base.free b o ho (I.ok.frf b hb) fun z=>I.ok.exfs b z hb
theorem Inv.step {g':Array GenState} {t':Nat} {d':Drawn} {ch:List Addr} (I:Inv X pins σ H s)
  (hch:∀ b ∈ ch,(b ∈ X.ex ∨ X.s₀.heap.objs.size ≤ b)∧b ≠ X.env.locals∧(∀ x c,X.env.cells.lookup x = some c→c ≠ b)∧∀ p ∈ X.pn ++ pins,p.1 ≠ b)
  (keep:∀ b o,b ≠ X.env.locals→b ∉ X.fs→b ∉ ch→s.heap.get? b = some o→H b = none→h'.get? b = some o)
  (slot:∀ b o,b ≠ X.env.locals→b ∈ X.fs→b ∉ ch→s.heap.get? b = some o→H b = none→∃ sl,h'.get? b = some { o with slots:=sl }) (free:∀ b o,b ∉ ch→s.heap.get? b = some o→H b = none→H' b = none)
  (there:∀ b o,b ∉ ch→s.heap.get? b = some o→∃ o',h'.get? b = some o')
  (tups:∀ b xs,H b = some (.tup xs)→H' b = some (.tup xs)) (frzs:∀ b o u,H b = some (.frz o u)→H' b = some (.frz o u)) (tbls:∀ b ps,H b = some (.tbl ps)→∃ more,H' b = some (.tbl (ps ++ more)))
  (ns:∀ m,s.heap.Ns X.env.locals m→h'.Ns X.env.locals m) (hok:HOk X.prog X.w H' h') (hg:AllBare g') :
  Inv X pins σ H' { s with heap:=h',gens:=g',drawn:=d',toks:=t' }:=by
 have neL:∀ b o,X.s₀.heap.get? b = some o→b ≠ X.env.locals:=fun b o e=>Nat.ne_of_lt (Nat.lt_of_lt_of_le (Heap.lt_size e) I.ok.above)
 have neC:∀ b o,X.s₀.heap.get? b = some o→b ∉ X.ex→b ∉ ch:=fun b o e hx hb=>by
  rcases (hch b hb).1 with z | z
  ·exact hx z
  ·exact absurd (Nat.lt_of_lt_of_le (Heap.lt_size e) z) (Nat.lt_irrefl _)
 have cellK:∀ x c,X.env.cells.lookup x = some c→∀ v,s.heap.IsCell c v→h'.IsCell c v:=fun x c e v ⟨o,ho,hd⟩=>by
  have nch:c ∉ ch:=fun z=>(hch c z).2.2.1 x c e rfl
  by_cases hc:c ∈ X.fs
  ·obtain ⟨sl,q⟩:=slot c o (I.cne x c e) hc nch ho (I.freeC x c e)
   exact ⟨_,q,hd⟩
  ·exact ⟨o,keep c o (I.cne x c e) hc nch ho (I.freeC x c e),hd⟩
 refine ⟨I.ok,I.os,hg,⟨fun b o e n hb hx=>?_,fun b o e n hb hx=>?_,fun b o e n hx=>?_,fun b o e hx=>?_,fun b xs e=>tups b xs (I.base.tups b xs e),fun b o xs e=>frzs b o xs (I.base.frzs b o xs e),fun b ps e=>?_⟩,?_,fun x c e=>?_,?_,fun x c e=>?_,fun p hp=>?_,hok,I.len⟩
 ·exact keep b o (neL b o e) hb (neC b o e hx) (I.base.keep b o e n hb hx) (I.base.free b o e n hx)
 ·obtain ⟨sl,e1⟩:=I.base.slot b o e n hb hx
  obtain ⟨sl',e2⟩:=slot b _ (neL b o e) hb (neC b o e hx) e1 (I.base.free b o e n hx)
  exact ⟨sl',e2⟩
 ·obtain ⟨o',e1⟩:=I.base.there b o e hx
  exact free b o' (neC b o e hx) e1 (I.base.free b o e n hx)
 ·obtain ⟨o',e1⟩:=I.base.there b o e hx
  exact there b o' (neC b o e hx) e1
 ·obtain ⟨m1,e1⟩:=I.base.tbls b ps e
  obtain ⟨m2,e2⟩:=tbls b _ e1
  exact ⟨m1 ++ m2,by rw [e2,Array.append_assoc]⟩
 ·obtain ⟨m,hn,hl⟩:=I.loc
  refine ⟨m,ns m hn,fun i x v e1 e2 e3=>?_⟩
  obtain ⟨u,r,l⟩:=hl i x v e1 e2 e3
  refine ⟨u,r,?_⟩
  rcases l with l | ⟨k,c,e,z⟩
  ·exact .inl l
  ·exact .inr ⟨k,c,e,cellK x c e _ z⟩
 ·obtain ⟨v,z⟩:=I.cell x c e
  exact ⟨v,cellK x c e v z⟩
 ·obtain ⟨m,⟨o,_,_,ho,_⟩,_⟩:=I.loc
  exact free _ o (fun z=>(hch _ z).2.1 rfl) ho I.free
 ·obtain ⟨v,o,ho,hd⟩:=I.cell x c e
  exact free c o (fun z=>(hch c z).2.2.1 x c e rfl) ho (I.freeC x c e)
 ·obtain ⟨e,n,ne,nf,d⟩:=I.pin p hp
  have nch:p.1 ∉ ch:=fun z=>(hch p.1 z).2.2.2 p hp rfl
  exact ⟨keep p.1 p.2 ne nf nch e n,free p.1 p.2 nch e n,ne,nf,d⟩
theorem Inv.un {t':Nat} (I:Inv X pins σ H s) (u:Un X.fs [] H H' s.heap h') (hok:HOk X.prog X.w H' h'):Inv X pins σ H' { s with heap:=h',toks:=t' }:=by
 obtain ⟨m,⟨o,es,ep,ho,r⟩,_⟩:=id I.loc
 obtain ⟨sl,hL⟩:=u.any ho I.free (by simp)
 exact I.step (g':=s.gens) (d':=s.drawn) (ch:=[]) (fun _ z=>nomatch z) (fun b o _ hb _ e n=>u.keep b o e n hb (by simp)) (fun b o _ hb _ e n=>u.slot b o e n hb (by simp)) (fun b o _ e n=>u.free b o e n (by simp)) (fun b o _ e=>u.there b o e (by simp)) u.tups u.frzs u.tbls (fun m' hm=>by
  obtain ⟨o',es',ep',ho',r'⟩:=hm
  rw [ho] at ho'; cases ho'
  exact ⟨_,es',ep',hL,r'⟩) hok I.bare
theorem Inv.call {g':Array GenState} {t':Nat} {d':Drawn} {ch:List Addr} (I:Inv X pins σ H s) (u:Un (frs X.stack) ch H H' s.heap h') (hok:HOk X.prog X.w H' h') (hg:AllBare g')
  (hch:∀ b ∈ ch,(b ∈ X.ex ∨ X.s₀.heap.objs.size ≤ b)∧b ≠ X.env.locals∧(∀ x c,X.env.cells.lookup x = some c→c ≠ b)∧∀ p ∈ X.pn ++ pins,p.1 ≠ b) :
  Inv X pins σ H' { s with heap:=h',gens:=g',drawn:=d',toks:=t' }:=by
 obtain ⟨m,⟨o,es,ep,ho,r⟩,_⟩:=id I.loc
 obtain ⟨sl,hL⟩:=u.any ho I.free fun z=>(hch _ z).2.1 rfl
 exact I.step (ch:=ch) hch (fun b o hL hb hc e n=>u.keep b o e n (fun z=>(List.mem_cons.mp (I.stkSub b z)).elim hL hb) hc) (fun b o _ _ hc e n=>u.any e n hc) (fun b o hc e n=>u.free b o e n hc) (fun b o hc e=>u.there b o e hc) u.tups u.frzs u.tbls (fun m' hm=>by
  obtain ⟨o',es',ep',ho',r'⟩:=hm
  rw [ho] at ho'; cases ho'
  exact ⟨_,es',ep',hL,r'⟩) hok hg
theorem Inv.turned {t':Nat} {it:Addr} (I:Inv X pins σ H s) (k:∀ b o,b ≠ it→s.heap.get? b = some o→h'.get? b = some o) (hn:H it = none) (hL:it ≠ X.env.locals)
  (h1:it ∈ X.ex ∨ X.s₀.heap.objs.size ≤ it) (h2:∀ x c,X.env.cells.lookup x = some c→c ≠ it) (h3:∀ p ∈ X.pn ++ pins,p.1 ≠ it):Inv X pins σ H { s with heap:=h',toks:=t' }:=by
 have nit:∀ b u,H b = some u→b ≠ it:=fun b u e z=>by rw [z,hn] at e; cases e
 refine I.step (g':=s.gens) (d':=s.drawn) (ch:=[it]) (fun b hb=>?_) (fun b o _ _ hc e _=>k b o (fun z=>hc (by simp [z])) e) (fun b o _ _ hc e _=>⟨o.slots,k b o (fun z=>hc (by simp [z])) e⟩) (fun _ _ _ _ n=>n)
  (fun b o hc e=>⟨o,k b o (fun z=>hc (by simp [z])) e⟩) (fun _ _ e=>e) (fun _ _ _ e=>e) (fun b ps e=>⟨#[],by rw [e]; simp⟩) (fun m hm=>?_) (fun b u e=>?_) I.bare
 ·have e:b = it:=by simpa using hb
  subst e
  exact ⟨h1,hL,h2,h3⟩
 ·obtain ⟨o,es,ep,ho,r⟩:=hm
  exact ⟨o,es,ep,k _ o (Ne.symm hL) ho,r⟩
 ·refine (I.hok b u e).stay (fun c v hc q=>k c v ?_ q) (fun _ q=>q) fun _ _ q=>q
  rcases hc with z | z
  ·rw [z]; exact nit b u e
  ·exact nit c _ z
theorem Inv.tok (I:Inv X pins σ H s) (t:Nat):Inv X pins σ H { s with toks:=t }:=I.un (h':=s.heap) (t':=t) Un.refl I.hok
theorem Inv.kept {t':Nat} (I:Inv X pins σ H s) (k:∀ b u,s.heap.get? b = some u→h'.get? b = some u):Inv X pins σ H { s with heap:=h',toks:=t' }:=I.un (Un.kept k) (I.hok.kept k)
theorem Inv.laid {a:Addr} {o:HO} {t':Nat} (I:Inv X pins σ H s) (k:∀ b u,s.heap.get? b = some u→h'.get? b = some u) (hp:s.heap.objs.size ≤ a) (new:d0x X.prog X.w (upd H a o) h' a o) :
  Inv X pins σ (upd H a o) { s with heap:=h',toks:=t' }:=I.un (Un.laid k hp (I.hok.fresh hp)) (I.hok.laid k hp new)
theorem Inv.write {x e:Addr} {o:HO} {t':Nat} (I:Inv X pins σ H s) (mu:Mut (H x)) (he:e = x ∨ H e = some (.own x)) (k:∀ b u,b ≠ e→s.heap.get? b = some u→h'.get? b = some u) (heo:∃ u,h'.get? e = some u)
  (new:d0x X.prog X.w (upd H x o) h' x o):Inv X pins σ (upd H x o) { s with heap:=h',toks:=t' }:=I.un (Un.write mu he k heo) (I.hok.write mu he k heo new)
theorem Inv.weak {σ':List (Option V)} (I:Inv X pins σ H s) (hl:σ'.length = σ.length) (w:∀ (i:Nat) v,σ'[i]? = some (some v)→σ[i]? = some (some v)):Inv X pins σ' H s :=
 ⟨I.ok,I.os,I.bare,I.base,let ⟨m,hn,hl'⟩:=I.loc; ⟨m,hn,fun i x v e1 e2 e3=>hl' i x v e1 (w i v e2) e3⟩,I.cell,I.free,I.freeC,I.pin,I.hok,hl.trans I.len⟩
theorem Inv.pins_of {pins':List (Addr × Obj)} (I:Inv X pins σ H s) (h:∀ p ∈ pins',s.heap.get? p.1 = some p.2∧H p.1 = none∧p.1 ≠ X.env.locals∧p.1 ∉ X.fs∧∀ v,p.2.data ≠ .cell v):Inv X pins' σ H s :=
 ⟨I.ok,I.os,I.bare,I.base,I.loc,I.cell,I.free,I.freeC,fun p hp=>(List.mem_append.mp hp).elim (fun z=>I.pin p (List.mem_append_left _ z)) (h p),I.hok,I.len⟩
theorem w0l {N:List Str} (hN:N.Nodup) {i j:Nat} {x:Str} (a:N[i]? = some x) (b:N[j]? = some x):i = j:=by
 obtain ⟨h1,e1⟩:=List.getElem?_eq_some_iff.mp a
 obtain ⟨h2,e2⟩:=List.getElem?_eq_some_iff.mp b
 exact (List.getElem_inj hN).mp (e1.trans e2.symm)
theorem m0g {M:Model} {A:Around} {E:Value→Shared→Prop} {i:Nat} {x:Str} {v:V} {u:Value} {Q:Unit→Shared→Prop} (I:Inv X pins σ H s) (hN:X.N.Nodup) (hi:X.N[i]? = some x) (hx:Loc X.env.scope x) (r:RelV v u)
  (h:∀ s',Inv X pins (σ.set i (some v)) H s'→(∃ a,Heap.SameBut a s.heap s'.heap∧(a = X.env.locals ∨ X.env.cells.lookup x = some a))→Q () s') (hf:X.fn x = true ∨ X.env.scope.names.lookup x = some .local:=by first | exact .inl rfl | exact .inr rfl | assumption):wpAny M A (storeName X.env x u) Q E s:=by
 obtain ⟨m,hn,hl⟩:=id I.loc
 have hcls:(X.env.scope.kind == .class || (X.env.scope.kind == .module && X.env.locals != X.env.globals)) = false:=by rw [I.ok.kind]; rfl
 have hiσ:i < σ.length:=by rw [I.len]; exact (List.getElem?_eq_some_iff.mp hi).1
 have cne:=I.cne
 have tracked:∀ {a:Addr} {h':Heap},(∃ o,s.heap.get? a = some o∧H a = none)→Heap.SameBut a s.heap h'→HOk X.prog X.w H h':=fun {a h'} ha hs b ob e=>by
  obtain ⟨_,_,hfree⟩:=ha
  refine (I.hok b ob e).stay (fun c w' hc q=>(hs.2 c ?_).trans q) (fun _ q=>q) fun _ _ q=>q
  rintro rfl
  rcases hc with rfl | hc
  ·rw [hfree] at e; cases e
  ·rw [hfree] at hc; cases hc
 rcases hx with hk | hk
 ·refine wpAny_storeName_local hk hn (fun h' hn' hs=>?_) hcls
  obtain ⟨oL,_,_,hoL,_⟩:=id hn
  refine h _ ⟨I.ok,I.os,I.bare,⟨fun b o e n hb hx=>?_,fun b o e n hb hx=>?_,I.base.free,fun b o e hx=>?_,I.base.tups,I.base.frzs,I.base.tbls⟩,⟨_,hn',fun j y v' e1 e2 e3=>?_⟩,fun y c e=>?_,I.free,I.freeC,fun p hp=>?_,tracked ⟨oL,hoL,I.free⟩ hs,by simpa using I.len⟩ ⟨_,hs,.inl rfl⟩
  ·exact (hs.2 b (Nat.ne_of_lt (Nat.lt_of_lt_of_le (Heap.lt_size e) I.ok.above))).trans (I.base.keep b o e n hb hx)
  ·obtain ⟨sl,e1⟩:=I.base.slot b o e n hb hx
   exact ⟨sl,(hs.2 b (Nat.ne_of_lt (Nat.lt_of_lt_of_le (Heap.lt_size e) I.ok.above))).trans e1⟩
  ·obtain ⟨o',e1⟩:=I.base.there b o e hx
   exact ⟨o',(hs.2 b (Nat.ne_of_lt (Nat.lt_of_lt_of_le (Heap.lt_size e) I.ok.above))).trans e1⟩
  ·by_cases hj:j = i
   ·subst hj
    rw [hi] at e1; cases e1
    rw [List.getElem?_set_self hiσ] at e2
    cases e2
    exact ⟨u,r,.inl ⟨hk,by simp⟩⟩
   ·rw [List.getElem?_set_ne (Ne.symm hj)] at e2
    obtain ⟨u',r',q⟩:=hl j y v' e1 e2 e3
    refine ⟨u',r',?_⟩
    rcases q with ⟨k,e⟩ | ⟨k,c,e,z⟩
    ·refine .inl ⟨k,?_⟩
     have:y ≠ x:=fun e=>hj (w0l hN e1 (e ▸ hi))
     simp [this,e]
    ·exact .inr ⟨k,c,e,z.sameBut hs (cne y c e)⟩
  ·obtain ⟨w',z⟩:=I.cell y c e
   exact ⟨w',z.sameBut hs (cne y c e)⟩
  ·obtain ⟨e,n,ne,nf,d⟩:=I.pin p hp
   exact ⟨(hs.2 p.1 ne).trans e,n,ne,nf,d⟩
 ·have hfn:X.fn x = true:=by
   rcases hf with z | z
   ·exact z
   ·rw [z] at hk; cases hk
  obtain ⟨c,hc⟩:=I.ok.has x (.inl hk)
  obtain ⟨w',z⟩:=I.cell x c hc
  refine wpAny_storeName_cell I.ok.kind hk hc z (fun h' hc' hs=>?_)
  obtain ⟨oc,hoc,hocd⟩:=id z
  refine h { s with heap:=h' } ⟨I.ok,I.os,I.bare,⟨fun b o e n hb hx=>?_,fun b o e n hb hx=>?_,I.base.free,fun b o e hx=>?_,I.base.tups,I.base.frzs,I.base.tbls⟩,⟨m,hn.sameBut hs (Ne.symm (cne x c hc)),fun j y v' e1 e2 e3=>?_⟩,fun y c' e=>?_,I.free,I.freeC,fun p hp=>?_,tracked ⟨oc,hoc,I.freeC x c hc⟩ hs,by simpa using I.len⟩ ⟨c,hs,.inr hc⟩
  ·exact (hs.2 b (Nat.ne_of_lt (Nat.lt_of_lt_of_le (Heap.lt_size e) (I.ok.cab x c hfn hc)))).trans (I.base.keep b o e n hb hx)
  ·obtain ⟨sl,e1⟩:=I.base.slot b o e n hb hx
   exact ⟨sl,(hs.2 b (Nat.ne_of_lt (Nat.lt_of_lt_of_le (Heap.lt_size e) (I.ok.cab x c hfn hc)))).trans e1⟩
  ·obtain ⟨o',e1⟩:=I.base.there b o e hx
   exact ⟨o',(hs.2 b (Nat.ne_of_lt (Nat.lt_of_lt_of_le (Heap.lt_size e) (I.ok.cab x c hfn hc)))).trans e1⟩
  ·by_cases hj:j = i
   ·subst hj
    rw [hi] at e1; cases e1
    rw [List.getElem?_set_self hiσ] at e2
    cases e2
    exact ⟨u,r,.inr ⟨.inl hk,c,hc,hc'⟩⟩
   ·rw [List.getElem?_set_ne (Ne.symm hj)] at e2
    obtain ⟨u',r',q⟩:=hl j y v' e1 e2 e3
    refine ⟨u',r',?_⟩
    rcases q with q | ⟨k,c',e,z'⟩
    ·exact .inl q
    ·refine .inr ⟨k,c',e,z'.sameBut hs ?_⟩
     rintro rfl
     exact hj (w0l hN e1 (I.ok.inj _ _ _ e hc ▸ hi))
  ·by_cases hcc:c' = c
   ·subst hcc; exact ⟨_,hc'⟩
   ·obtain ⟨w2,z2⟩:=I.cell y c' e
    exact ⟨w2,z2.sameBut hs hcc⟩
  ·obtain ⟨e,n,ne,nf,d⟩:=I.pin p hp
   refine ⟨(hs.2 p.1 ?_).trans e,n,ne,nf,d⟩
   intro q
   rw [q,hoc] at e
   have q':oc = p.2:=Option.some.inj e
   exact d w' (by rw [← q']; exact hocd)
theorem v0v {M:Model} {A:Around} {E:Value→Shared→Prop} {i:Nat} {x:Str} {v:V} {u:Value} {Q:Unit→Shared→Prop} (I:Inv X pins σ H s) (hN:X.N.Nodup) (hi:X.N[i]? = some x) (hx:Loc X.env.scope x) (r:RelV v u)
  (h:∀ s',Inv X pins (σ.set i (some v)) H s'→Q () s') (hf:X.fn x = true ∨ X.env.scope.names.lookup x = some .local:=by first | exact .inl rfl | exact .inr rfl | assumption):wpAny M A (storeName X.env x u) Q E s :=
 m0g I hN hi hx r (fun s' I' _=>h s' I') hf
theorem Inv.call' {s':Shared} {ch:List Addr} (I:Inv X pins σ H s) (ho:s'.os = s.os) (u:Un (frs X.stack) ch H H' s.heap s'.heap) (hok:HOk X.prog X.w H' s'.heap) (hg:AllBare s'.gens)
  (hch:∀ b ∈ ch,(b ∈ X.ex ∨ X.s₀.heap.objs.size ≤ b)∧b ≠ X.env.locals∧(∀ x c,X.env.cells.lookup x = some c→c ≠ b)∧∀ p ∈ X.pn ++ pins,p.1 ≠ b):Inv X pins σ H' s':=by
 obtain ⟨h',g',d',t',o'⟩:=s'
 have e:o' = s.os:=ho
 subst e
 exact I.call (g':=g') (t':=t') (d':=d') u hok hg hch
end
abbrev XK:=Value→Option Addr→Hp→Prop
abbrev St:=List (Option V)
abbrev VK:=V→Hp→Prop
abbrev TE:=St→Hp→VK→Prop
abbrev TT:=St→Hp→(Bool→Hp→Prop)→Prop
abbrev TA:=St→Hp→(List V→Hp→Prop)→Prop
structure Ends where
 nx:St→Hp→Prop
 rt:VK
 bk:St→Hp→Prop:=fun _ _=>False
 ct:St→Hp→Prop:=fun _ _=>False
abbrev TS:=Ends→St→Hp→Prop
def EP (X:Cx) (pins:List (Addr × Obj)) (σ:St) (Q:VK) (u:Value) (s':Shared):Prop:=∃ v H',Inv X pins σ H' s'∧RelV v u∧Q v H'
def TP (X:Cx) (pins:List (Addr × Obj)) (σ:St) (Q:Bool→Hp→Prop) (b:Bool) (s':Shared):Prop:=∃ H',Inv X pins σ H' s'∧Q b H'
def AP (X:Cx) (pins:List (Addr × Obj)) (σ:St) (Q:List V→Hp→Prop) (us:List Value) (s':Shared):Prop:=∃ vs H',Inv X pins σ H' s'∧Vals vs us∧Q vs H'
def SP (X:Cx) (pins:List (Addr × Obj)) (D:Ends) (f:Flow) (s':Shared):Prop :=
 match f with
 | .next=>∃ σ' H',Inv X pins σ' H' s'∧D.nx σ' H'
 | .brk=>∃ σ' H',Inv X pins σ' H' s'∧D.bk σ' H'
 | .cont=>∃ σ' H',Inv X pins σ' H' s'∧D.ct σ' H'
 | .ret u=>∃ v σ' H',Inv X pins σ' H' s'∧RelV v u∧D.rt v H'
def PE (X:Cx) (e:Expr) (t:TE):Prop :=
 ∀ (pins:List (Addr × Obj)) (s:Shared) (σ:St) (H:Hp) (Q:VK),Inv X pins σ H s→t σ H Q→wpAny (model X.prog X.w) X.A (eval e X.env) (EP X pins σ Q) X.xe s
def PT (X:Cx) (e:Expr) (t:TT):Prop :=
 ∀ (pins:List (Addr × Obj)) (s:Shared) (σ:St) (H:Hp) (Q:Bool→Hp→Prop),Inv X pins σ H s→t σ H Q→wpAny (model X.prog X.w) X.A (isTrue e X.env (eval e X.env)) (TP X pins σ Q) X.xe s
def PW (X:Cx) (e:Expr) (t:TT):Prop :=
 ∀ (whole:Sem Value) (pins:List (Addr × Obj)) (s:Shared) (σ:St) (H:Hp) (Q:Bool→Hp→Prop),Inv X pins σ H s→t σ H Q→wpAny (model X.prog X.w) X.A (isTrue e X.env whole) (TP X pins σ Q) X.xe s
theorem PW.pt {X:Cx} {e:Expr} {t:TT} (h:PW X e t):PT X e t:=h _
def PA (X:Cx) (es:List Expr) (t:TA):Prop :=
 ∀ (pos:Pos) (pins:List (Addr × Obj)) (s:Shared) (σ:St) (H:Hp) (Q:List V→Hp→Prop),Inv X pins σ H s→t σ H Q→wpAny (model X.prog X.w) X.A (spliced (backTo pos (starEach es X.env))) (AP X pins σ Q) X.xe s
def PS (X:Cx) (st:Stmt) (t:TS):Prop :=
 ∀ (pins:List (Addr × Obj)) (s:Shared) (σ:St) (H:Hp) (D:Ends),Inv X pins σ H s→t D σ H→wpAny (model X.prog X.w) X.A (exec st X.env) (SP X pins D) X.xe s
def PSs (X:Cx) (st:List Stmt) (t:TS):Prop :=
 ∀ (pins:List (Addr × Obj)) (s:Shared) (σ:St) (H:Hp) (D:Ends),Inv X pins σ H s→t D σ H→wpAny (model X.prog X.w) X.A (execs st X.env) (SP X pins D) X.xe s
theorem thn {α:Type} {t:Sem α} {Q Q':α→Shared→Prop} {M:Model} {A:Around} {E:Value→Shared→Prop} {s:Shared} (h:wpAny M A t Q E s) (hQ:∀ a s,Q a s→Q' a s):wpAny M A t Q' E s:=wpAny_mono h hQ fun _ _ x=>x
section
variable {X:Cx}
def tVar (i:Nat):TE:=fun σ H Q=>∃ v,σ[i]? = some (some v)∧Q v H
def tC (v:V):TE:=fun _ H Q=>Q v H
theorem m1p {i:Nat} {x:Str} {pos:Pos} (hN:X.N[i]? = some x) (hv:Vis X.env.scope x) (hd:(x == ("__debug__" : Str)) = false:=by decide) (hcd:(x == ("__classdict__" : Str)) = false:=by decide):PE X (.Name x pos) (tVar i):=by
 intro pins s σ H Q I h
 obtain ⟨v,e,h⟩:=h
 obtain ⟨m,hn,hl⟩:=I.loc
 obtain ⟨u,r,l⟩:=hl i x v hN e hv
 have fin:EP X pins σ Q u s:=⟨v,H,I,r,h⟩
 rcases l with ⟨hk,hm⟩ | ⟨hk,c,hc,hcell⟩
 ·exact wpAny_Name (wpAny_loadName_local I.ok.kind hk hn hm fin) hd
 ·rcases hk with hk | hk
  ·exact wpAny_Name (wpAny_loadName_cell I.ok.kind hk hc hcell fin) hd
  ·exact wpAny_Name (wpAny_loadName_free I.ok.kind hk hc hcell fin hcd) hd
theorem a0j {i j pos}:PE X (.Constant (.int i) j pos) (tC (.int i)):=fun _ _ _ H _ I h=>wpAny_Constant_int ⟨.int i,H,I.tok _,⟨_,rfl⟩,h⟩
theorem j1l {b j pos}:PE X (.Constant (.bool b) j pos) (tC (.bl b)):=fun _ _ _ H _ I h=>Constant_bool ⟨.bl b,H,I,rfl,h⟩
theorem h0b {j pos}:PE X (.Constant .none j pos) (tC .non):=fun _ _ _ H _ I h=>Constant_none ⟨.non,H,I,rfl,h⟩
theorem a0s {x j pos}:PE X (.Constant (.str x) j pos) (tC (.str x)):=fun _ _ _ H _ I h=>Calls.Constant_str ⟨.str x,H,I.tok _,⟨_,rfl⟩,h⟩
def Gl (X:Cx) (x:Str):Prop:=X.env.kindOf x = some .globalImplicit
theorem j0f {E:Value→Shared→Prop} {pins:List (Addr × Obj)} {s:Shared} {σ:St} {H:Hp} {x:Str} {u:Value} {pos:Pos} {Q:Value→Shared→Prop} (I:Inv X pins σ H s) (hg:Gl X x) (hm:X.mg x = some u) (h:Q u s)
  (hd:(x == ("__debug__" : Str)) = false:=by decide):wpAny (model X.prog X.w) X.A (eval (.Name x pos) X.env) Q E s :=
 Calls.Name_function_global I.ok.kind hg (Calls.loadGlobal_global (by rw [I.ok.glob]; exact I.mod.glob.keeps I.bk) hm h) hd
theorem l0g {E:Value→Shared→Prop} {pins:List (Addr × Obj)} {s:Shared} {σ:St} {H:Hp} {x:Str} {u:Value} {pos:Pos} {Q:Value→Shared→Prop} (I:Inv X pins σ H s) (hg:Gl X x) (hm:X.mg x = none) (hv:bootBuiltins x = some u) (h:Q u s)
  (hn:x ≠ "__name__" := by decide) (hd:(x == ("__debug__" : Str)) = false:=by decide):wpAny (model X.prog X.w) X.A (eval (.Name x pos) X.env) Q E s:=by
 obtain ⟨mb,h1,h2⟩:=I.mod.blt
 exact Calls.Name_function_global I.ok.kind hg (Calls.loadGlobal_builtin (by rw [I.ok.glob]; exact I.mod.glob.keeps I.bk) hm (by rw [I.ok.blt]; exact h1.keeps I.bk) ((h2 x hn).trans hv) h) hd
theorem e0t {x:Str} {v:V} {u:Value} {pos:Pos} (hg:Gl X x) (hm:X.mg x = some u) (r:RelV v u) (hd:(x == ("__debug__" : Str)) = false:=by decide):PE X (.Name x pos) (tC v) :=
 fun _ _ _ H _ I h=>j0f I hg hm ⟨v,H,I,r,h⟩ hd
theorem j1k {x:Str} {v:V} {u:Value} {pos:Pos} (hg:Gl X x) (hm:X.mg x = none) (hv:bootBuiltins x = some u) (r:RelV v u) (hn:x ≠ "__name__" := by decide) (hd:(x == ("__debug__" : Str)) = false:=by decide):PE X (.Name x pos) (tC v) :=
 fun _ _ _ H _ I h=>l0g I hg hm hv ⟨v,H,I,r,h⟩ hn hd
variable {a b:Expr} {ta tb:TE} {pos:Pos}
def tB (t:TE):TT:=fun σ H Q=>t σ H fun x H1=>∃ c,x = .bl c∧Q c H1
theorem i0r {e:Expr} {t:TE} (h:PE X e t) (he:∀ whole,isTrue e X.env whole = (do let v ← whole; standAt e.pos; holding [v] (truthy v)):=by intro _; rfl):PT X e (tB t):=by
 intro pins s σ H Q I hw
 refine isTrue_plain (thn (h pins s σ H _ I hw) fun v s1 ⟨x,H1,I1,r1,q1⟩=>?_) (he _)
 obtain ⟨d,rfl,q⟩:=q1
 cases r1
 exact wpAny_truthy_bool ⟨H1,I1,q⟩
variable {tA tB':TT} {rest:List Expr}
def tAnd (t u:TT):TT:=fun σ H Q=>t σ H fun c H1=>if c = true then u σ H1 Q else Q false H1
def tOr (t u:TT):TT:=fun σ H Q=>t σ H fun c H1=>if c = true then Q true H1 else u σ H1 Q
def tNot (t:TT):TT:=fun σ H Q=>t σ H fun c H1=>Q (!c) H1
theorem p0p (ha:PT X a tA):PW X (.BoolOp .And [a] pos) tA:=by
 intro wh pins s σ H Q I h
 refine isTrue_and (thn (ha pins s σ H Q I h) fun c s1 e=>?_)
 cases c with
 | true=>exact isTrue_and_nil e
 | false=>exact e
theorem h0m (ha:PT X a tA):PW X (.BoolOp .Or [a] pos) tA:=by
 intro wh pins s σ H Q I h
 refine isTrue_or (thn (ha pins s σ H Q I h) fun c s1 e=>?_)
 cases c with
 | false=>exact isTrue_or_nil e
 | true=>exact e
theorem w0f (ha:PT X a tA) (hb:PW X (.BoolOp .And (b :: rest) pos) tB'):PW X (.BoolOp .And (a :: b :: rest) pos) (tAnd tA tB'):=by
 intro wh pins s σ H Q I h
 refine isTrue_and (thn (ha pins s σ H _ I h) fun c s1 ⟨H1,I1,q1⟩=>?_)
 cases c with
 | true=>exact hb wh pins s1 σ H1 Q I1 q1
 | false=>exact ⟨H1,I1,q1⟩
theorem h0f (ha:PT X a tA) (hb:PW X (.BoolOp .Or (b :: rest) pos) tB'):PW X (.BoolOp .Or (a :: b :: rest) pos) (tOr tA tB'):=by
 intro wh pins s σ H Q I h
 refine isTrue_or (thn (ha pins s σ H _ I h) fun c s1 ⟨H1,I1,q1⟩=>?_)
 cases c with
 | true=>exact ⟨H1,I1,q1⟩
 | false=>exact hb wh pins s1 σ H1 Q I1 q1
theorem e0v (ha:PT X a tA):PT X (.UnaryOp .Not a pos) (tNot tA):=by
 intro pins s σ H Q I h
 exact isTrue_not (ha pins s σ H (fun c H1=>Q (!c) H1) I h)
def m1b (ta tb:TE):TE:=fun σ H Q=>ta σ H fun x H1=>∃ c,x = .bl c∧if c = true then tb σ H1 Q else Q (.bl false) H1
def l1z (ta:TE):TE:=fun σ H Q=>ta σ H fun x H1=>∃ c,x = .bl c∧Q (.bl (!c)) H1
theorem o0f {op} {t:TE} (h:PE X a t):PE X (.BoolOp op [a] pos) t:=fun pins s σ H Q I hw=>BoolOp_one (h pins s σ H Q I hw)
theorem i0t (ha:PE X a ta) (hb:PE X (.BoolOp .And (b :: rest) pos) tb):PE X (.BoolOp .And (a :: b :: rest) pos) (m1b ta tb):=by
 intro pins s σ H Q I h
 refine BoolOp_and (thn (ha pins s σ H _ I h) fun v s1 ⟨x,H1,I1,r1,q1⟩=>?_)
 obtain ⟨c,rfl,q1⟩:=q1
 cases r1
 refine wpAny_truthy_bool ?_
 cases c with
 | true=>exact hb pins s1 σ H1 Q I1 q1
 | false=>exact ⟨.bl false,H1,I1,rfl,q1⟩
theorem m1r (ha:PE X a ta):PE X (.UnaryOp .Not a pos) (l1z ta):=by
 intro pins s σ H Q I h
 refine UnaryOp_ (thn (ha pins s σ H _ I h) fun v s1 ⟨x,H1,I1,r1,q1⟩=>?_)
 obtain ⟨c,rfl,q1⟩:=q1
 cases r1
 exact not_of (wpAny_truthy_bool ⟨.bl (!c),H1,I1,rfl,q1⟩)
def tIf (t:TT) (ta tb:TE):TE:=fun σ H Q=>t σ H fun c H1=>if c = true then ta σ H1 Q else tb σ H1 Q
theorem w0i {c:Expr} (hc:PT X c tA) (ha:PE X a ta) (hb:PE X b tb):PE X (.IfExp c a b pos) (tIf tA ta tb):=by
 intro pins s σ H Q I h
 refine wpAny_IfExp (thn (hc pins s σ H _ I h) fun d s1 ⟨H1,I1,q1⟩=>?_)
 cases d with
 | true=>exact ha pins s1 σ H1 Q I1 q1
 | false=>exact hb pins s1 σ H1 Q I1 q1
end
def SqL (K:PySem.W.Frag) (H:Hp) (a:Addr) (xs:List V):Prop :=
 Rd H a (.lst xs) ∨
  ∃ (o:Obj) (its:Array Value) (n:Nat),K.lookup a = some o∧o.cls = .type "list" ∧ o.dict = none∧o.data = .seq its n∧its.size ≤ sizeLine∧Vals xs its.toList
def SqT (K:PySem.W.Frag) (H:Hp) (a:Addr) (xs:List V):Prop :=
 Rd H a (.tup xs) ∨
  ∃ (o:Obj) (its:Array Value) (n:Nat),K.lookup a = some o∧o.cls = .type "tuple" ∧ o.data = .seq its n∧its.size ≤ sizeLine∧Vals xs its.toList
def absV:Value→Option V
 | .none=>some .non
 | .bool b=>some (.bl b)
 | .int i _=>some (.int i)
 | .str x _=>some (.str x)
 | .bytes b _=>some (.byt b)
 | .float b _=>some (.flt b)
 | .ref a=>some (.ref a)
 | .type n=>some (.ty n)
 | _=>none
theorem RelV.abs {x:V} {u:Value} (r:RelV x u):absV u = some x:=by
 cases x with
 | non=>cases r; rfl
 | bl _=>cases r; rfl
 | int _=>obtain ⟨t,rfl⟩:=r; rfl
 | str _=>obtain ⟨t,rfl⟩:=r; rfl
 | byt _=>obtain ⟨t,rfl⟩:=r; rfl
 | flt _=>obtain ⟨t,rfl⟩:=r; rfl
 | ref _=>cases r; rfl
 | ty _=>cases r; rfl
theorem RelV.inj {x y:V} {u:Value} (r:RelV x u) (q:RelV y u):x = y:=Option.some.inj (r.abs.symm.trans q.abs)
theorem Vals.inj:∀ {xs ys:List V} {us:List Value},Vals xs us→Vals ys us→xs = ys
 | _,_,_,.nil,.nil=>rfl
 | _,_,_,.cons r t,.cons r' t'=>by rw [r.inj r',Vals.inj t t']
section
variable {X:Cx} {pins:List (Addr × Obj)} {σ:St} {H:Hp} {s:Shared} {a:Addr} {xs ys:List V}
theorem SqL.of {K:PySem.W.Frag} (h:H a = some (.lst xs)):SqL K H a xs:=.inl (.inl h)
theorem SqT.of {K:PySem.W.Frag} (h:H a = some (.tup xs)):SqT K H a xs:=.inl (.inl h)
theorem Inv.list (I:Inv X pins σ H s) (h:SqL X.K H a xs):∃ its:List Value,Vals xs its∧PlainL s.heap a its.toArray∧xs.length ≤ sizeLine:=by
 rcases h with h | ⟨o,its,n,hk,hc,hd,hs,hz,r⟩
 ·obtain ⟨z,its,n,r,e⟩:=h.ok I.hok
  exact ⟨its,r,⟨_,n,e,rfl,rfl,rfl⟩,z⟩
 ·refine ⟨its.toList,r,⟨o,n,I.kIn a o hk,hc,hd,by simpa using hs⟩,?_⟩
  have e:=r.length
  simp only [Array.length_toList] at e
  omega
theorem Inv.tuple (I:Inv X pins σ H s) (h:SqT X.K H a xs):∃ its:List Value,Vals xs its∧IsTup s.heap a its.toArray∧xs.length ≤ sizeLine:=by
 rcases h with h | ⟨o,its,n,hk,hc,hs,hz,r⟩
 ·obtain ⟨z,its,r,p⟩:=h.ok I.hok
  exact ⟨its,r,p,z⟩
 ·refine ⟨its.toList,r,⟨o,I.kIn a o hk,hc,n,by simpa using hs⟩,?_⟩
  have e:=r.length
  simp only [Array.length_toList] at e
  omega
theorem Inv.list_inj (I:Inv X pins σ H s) (h:SqL X.K H a xs) (h':SqL X.K H a ys):xs = ys:=by
 obtain ⟨its,r,⟨o,n,e,_,_,d⟩,_⟩:=I.list h
 obtain ⟨its',r',⟨o',n',e',_,_,d'⟩,_⟩:=I.list h'
 rw [e] at e'; cases e'
 rw [d] at d'
 injection d' with d1 _
 have:its = its':=by simpa using congrArg Array.toList d1
 subst this
 exact r.inj r'
theorem Inv.tuple_inj (I:Inv X pins σ H s) (h:SqT X.K H a xs) (h':SqT X.K H a ys):xs = ys:=by
 obtain ⟨its,r,⟨o,e,_,n,d⟩,_⟩:=I.tuple h
 obtain ⟨its',r',⟨o',e',_,n',d'⟩,_⟩:=I.tuple h'
 rw [e] at e'; cases e'
 rw [d] at d'
 injection d' with d1 _
 have:its = its':=by simpa using congrArg Array.toList d1
 subst this
 exact r.inj r'
end
abbrev Cx.wish (X:Cx) (E:Value→Shared→Prop):Cx:={ X with xe:=E }
abbrev Cx.nox (X:Cx):Cx:=X.wish fun _ _=>False
theorem Cx.Ok.wish {X:Cx} (ok:X.Ok) (E:Value→Shared→Prop):(X.wish E).Ok :=
 ⟨ok.mod,ok.kind,ok.glob,ok.blt,ok.above,ok.inj,ok.has,ok.cab,ok.hd,ok.frames,ok.stk,ok.exf,ok.bs,ok.bsz,ok.noex,ok.exfs,ok.funs,ok.frf⟩
theorem Cx.Ok.unwish {X:Cx} {E:Value→Shared→Prop} (ok:(X.wish E).Ok):X.Ok :=
 ⟨ok.mod,ok.kind,ok.glob,ok.blt,ok.above,ok.inj,ok.has,ok.cab,ok.hd,ok.frames,ok.stk,ok.exf,ok.bs,ok.bsz,ok.noex,ok.exfs,ok.funs,ok.frf⟩
section
variable {X:Cx} {pins:List (Addr × Obj)} {σ:St} {H:Hp} {s:Shared} {E:Value→Shared→Prop}
theorem Inv.wish (I:Inv X pins σ H s) (E:Value→Shared→Prop):Inv (X.wish E) pins σ H s:=⟨I.ok.wish E,I.os,I.bare,I.base,I.loc,I.cell,I.free,I.freeC,I.pin,I.hok,I.len⟩
theorem Inv.unwish (I:Inv (X.wish E) pins σ H s):Inv X pins σ H s:=⟨I.ok.unwish,I.os,I.bare,I.base,I.loc,I.cell,I.free,I.freeC,I.pin,I.hok,I.len⟩
theorem SP.unwish {D:Ends} {f:Flow} {s':Shared} (h:SP (X.wish E) pins D f s'):SP X pins D f s':=by
 cases f with
 | next=>obtain ⟨σ',H',I,q⟩:=h; exact ⟨σ',H',I.unwish,q⟩
 | brk=>obtain ⟨σ',H',I,q⟩:=h; exact ⟨σ',H',I.unwish,q⟩
 | cont=>obtain ⟨σ',H',I,q⟩:=h; exact ⟨σ',H',I.unwish,q⟩
 | ret u=>obtain ⟨v,σ',H',I,r,q⟩:=h; exact ⟨v,σ',H',I.unwish,r,q⟩
theorem PE.nox {e:Expr} {t:TE} (h:PE X.nox e t):PE X e t:=fun pins s σ H Q I hw =>
 wpAny_mono (h pins s σ H Q (I.wish _) hw) (fun _ _ ⟨v,H',I',r,q⟩=>⟨v,H',I'.unwish,r,q⟩) fun _ _ z=>False.elim z
theorem PT.nox {e:Expr} {t:TT} (h:PT X.nox e t):PT X e t:=fun pins s σ H Q I hw =>
 wpAny_mono (h pins s σ H Q (I.wish _) hw) (fun _ _ ⟨H',I',q⟩=>⟨H',I'.unwish,q⟩) fun _ _ z=>False.elim z
theorem PSs.nox {st:List Stmt} {t:TS} (h:PSs X.nox st t):PSs X st t:=fun pins s σ H D I hw =>
 wpAny_mono (h pins s σ H D (I.wish _) hw) (fun _ _ q=>q.unwish) fun _ _ z=>False.elim z
end
section
variable {X:Cx} {st:Stmt} {rest:List Stmt} {t u:TS} {e:Expr} {te:TE} {pos:Pos}
def tNext:TS:=fun D σ H=>D.nx σ H
def tSeq (t u:TS):TS:=fun D σ H=>t { D with nx:=u D } σ H
theorem b0m:PSs X [] tNext:=fun _ _ σ H _ I h=>wpAny_execs_nil ⟨σ,H,I,h⟩
theorem a0f (h1:PS X st t) (h2:PSs X rest u):PSs X (st :: rest) (tSeq t u):=by
 intro pins s σ H D I h
 refine wpAny_execs_cons (thn (h1 pins s σ H { D with nx:=u D } I h) fun f s1 q=>?_)
 cases f with
 | next =>
  obtain ⟨σ',H',I',q⟩:=q
  exact h2 pins s1 σ' H' D I' q
 | ret v=>exact q
 | brk=>exact q
 | cont=>exact q
theorem a0m (h1:PS X st t):PSs X [st] t:=by
 intro pins s σ H D I h
 refine wpAny_execs_cons (thn (h1 pins s σ H D I h) fun f s1 q=>?_)
 cases f with
 | next=>exact wpAny_execs_nil q
 | ret v=>exact q
 | brk=>exact q
 | cont=>exact q
theorem Inv.quiet {pins:List (Addr × Obj)} {σ:St} {H:Hp} {s:Shared} (I:Inv X pins σ H s):interactive X.env = false:=by simp [interactive,I.ok.kind]
def m1a (te:TE):TS:=fun D σ H=>te σ H fun _ H1=>D.nx σ H1
theorem h0n (he:PE X e te) (hs:swapsWith e none pos.line X.env = pure false:=by rfl):PS X (.Expr e pos) (m1a te):=by
 intro pins s σ H D I h
 exact wpAny_Expr_any (thn (he pins s σ H _ I h) fun v s1 ⟨x,H1,I1,r1,q1⟩=>⟨σ,H1,I1,q1⟩) I.quiet hs
def tRet (te:TE):TS:=fun D σ H=>te σ H D.rt
theorem b0c (he:PE X e te):PS X (.Return (some e) pos) (tRet te):=by
 intro pins s σ H D I h
 exact wpAny_Return_some (thn (he pins s σ H _ I h) fun v s1 ⟨x,H1,I1,r1,q1⟩=>⟨x,σ,H1,I1,r1,q1⟩)
def tIfS (c:TT) (t u:TS):TS:=fun D σ H=>c σ H fun b H1=>if b = true then t D σ H1 else u D σ H1
theorem d0q {c:Expr} {a b:List Stmt} {tc:TT} (hc:PT X c tc) (ha:PSs X a t) (hb:PSs X b u):PS X (.If c a b pos) (tIfS tc t u):=by
 intro pins s σ H D I h
 refine wpAny_If (thn (hc pins s σ H _ I h) fun d s1 ⟨H1,I1,q1⟩=>?_)
 cases d with
 | true=>exact ha pins s1 σ H1 D I1 q1
 | false=>exact hb pins s1 σ H1 D I1 q1
def tNever:TS:=fun _ _ _=>False
theorem l0w:PS X st tNever:=fun _ _ _ _ _ _ h=>h.elim
end
abbrev TG:=V→St→Hp→(St→Hp→Prop)→Prop
abbrev TGs:=List V→St→Hp→(St→Hp→Prop)→Prop
def PG (X:Cx) (target:Expr) (t:TG):Prop :=
 ∀ (pins:List (Addr × Obj)) (s:Shared) (σ:St) (H:Hp) (v:V) (u:Value) (Q:St→Hp→Prop),Inv X pins σ H s→RelV v u→t v σ H Q →
  wpAny (model X.prog X.w) X.A (assign target X.env u) (fun _ s'=>∃ σ' H',Inv X pins σ' H' s'∧Q σ' H') X.xe s
def PGs (X:Cx) (ts:List Expr) (t:TGs):Prop :=
 ∀ (pins:List (Addr × Obj)) (s:Shared) (σ:St) (H:Hp) (vs:List V) (us:List Value) (Q:St→Hp→Prop),Inv X pins σ H s→Vals vs us→t vs σ H Q →
  wpAny (model X.prog X.w) X.A (assignInOrder ((assignEach ts X.env).map (·.2)) us) (fun _ s'=>∃ σ' H',Inv X pins σ' H' s'∧Q σ' H') X.xe s
section
variable {X:Cx} {pos:Pos}
def u0v (i:Nat):TG:=fun v σ H Q=>Q (σ.set i (some v)) H
theorem b0s {i:Nat} {x:Str} (hN:X.N.Nodup) (hi:X.N[i]? = some x) (hx:Loc X.env.scope x) (hf:X.fn x = true ∨ X.env.scope.names.lookup x = some .local:=by first | exact .inl rfl | exact .inr rfl | assumption):PG X (.Name x pos) (u0v i):=by
 intro pins s σ H v u Q I r h
 exact wpAny_assign_Name (v0v I hN hi hx r (fun s' I'=>⟨_,H,I',h⟩) hf)
def gNil:TGs:=fun vs σ H Q=>vs = []∧Q σ H
def o1a (t:TG) (u:TGs):TGs:=fun vs σ H Q=>∃ v r,vs = v :: r∧t v σ H fun σ' H'=>u r σ' H' Q
theorem p0s:PGs X [] gNil:=by
 intro pins s σ H vs us Q I r h
 obtain ⟨e,h⟩:=h
 subst e
 cases r
 exact assignInOrder_nil ⟨σ,H,I,h⟩
theorem f0s {e:Expr} {es:List Expr} {t:TG} {u:TGs} (h1:PG X e t) (h2:PGs X es u)
  (hs:(assignEach (e :: es) X.env).map (·.2) = assign e X.env :: (assignEach es X.env).map (·.2):=by rfl):PGs X (e :: es) (o1a t u):=by
 intro pins s σ H vs us Q I r h
 obtain ⟨v,vr,e1,h⟩:=h
 subst e1
 cases r with
 | cons r rr =>
  rw [hs]
  refine assignInOrder_cons (thn (h1 pins s σ H _ _ _ I r h) fun _ s1 ⟨σ1,H1,I1,q1⟩=>?_)
  exact h2 pins s1 σ1 H1 _ _ Q I1 rr q1
def gTup (K:PySem.W.Frag) (n:Nat) (t:TGs):TG:=fun v σ H Q=>∃ a xs,v = .ref a∧SqT K H a xs∧xs.length = n∧t xs σ H Q
theorem m1o {es:List Expr} {k:Nat} {t:TGs} {n:Nat} (hc:X.calm = true) (h:PGs X es t)
  (hn:(assignEach es X.env).length = n:=by rfl) (hst:(assignEach es X.env).findIdx? (·.1) = none:=by rfl):PG X (.Tuple es k pos) (gTup X.K n t):=by
 intro pins s σ H v u Q I r hw
 obtain ⟨a,xs,e1,hq,hl,hw⟩:=hw
 subst e1
 cases r
 obtain ⟨its,rv,ht,hz⟩:=I.tuple hq
 refine assign_Tuple_tuple (I.ok.hd hc) ht (by simp [hn,← hl,rv.length]) hst fun h' hx=>?_
 have I1:Inv X pins σ H { s with heap:=h' }:=I.kept (t':=s.toks) fun b o e=>hx b o (Nat.ne_of_lt (Heap.lt_size e)) e
 exact h pins _ σ H xs _ Q I1 (by simpa using rv) hw
def tAsg (te:TE) (g:TG):TS:=fun D σ H=>te σ H fun x H1=>g x σ H1 D.nx
theorem a1f {tg e:Expr} {te:TE} {g:TG} (he:PE X e te) (hg:PG X tg g) (hs:swapsWithSole [tg] e pos.line X.env = pure false:=by rfl) (hw:swappedStores [tg] e X.env = pure none:=by rfl)
  (h1:(assignEach [tg] X.env).map (·.2) = [assign tg X.env]:=by rfl):PS X (.Assign [tg] e pos) (tAsg te g):=by
 intro pins s σ H D I h
 refine wpAny_Assign_stores (thn (he pins s σ H _ I h) fun v s1 ⟨x,H1,I1,r1,q1⟩=>?_) hs hw
 rw [h1]
 exact thn (hg pins s1 σ H1 x v _ I1 r1 q1) fun _ s2 q=>q
theorem a0t {i:Nat} {x:Str} {e:Expr} {te:TE} {pos':Pos} (hN:X.N.Nodup) (hi:X.N[i]? = some x) (hx:Loc X.env.scope x) (he:PE X e te) (hs:swapsWith e (some (.Name x pos')) pos.line X.env = pure false:=by rfl) (hf:X.fn x = true ∨ X.env.scope.names.lookup x = some .local:=by first | exact .inl rfl | exact .inr rfl | assumption) :
  PS X (.Assign [.Name x pos'] e pos) (tAsg te (u0v i)):=by
 intro pins s σ H D I h
 refine wpAny_Assign_Name (thn (he pins s σ H _ I h) fun v s1 ⟨y,H1,I1,r1,q1⟩=>?_) hs
 exact v0v I1 hN hi hx r1 (fun s2 I2=>⟨_,H1,I2,q1⟩) hf
end
structure It where
 go:Nat→Hp→Prop
 yld:Nat→Hp→V→Hp→Prop
 stop:Nat→Hp→Prop
def FpOk (X:Cx) (pins:List (Addr × Obj)) (H:Hp) (b:Addr):Prop :=
 H b = none∧b ≠ X.env.locals∧b ∉ X.fs∧(b ∈ X.ex ∨ X.s₀.heap.objs.size ≤ b)∧(∀ x c,X.env.cells.lookup x = some c→c ≠ b)∧∀ p ∈ X.pn ++ pins,p.1 ≠ b
theorem Inv.fpOk {X:Cx} {pins:List (Addr × Obj)} {σ:St} {H H':Hp} {s:Shared} {b:Addr} (I:Inv X pins σ H s) (hb:s.heap.objs.size ≤ b) (hn:H' b = none):FpOk X pins H' b:=by
 refine ⟨hn,Nat.ne_of_gt (Nat.lt_of_lt_of_le I.lt hb),I.nofs hb,.inr (Nat.le_trans I.sz hb),fun x c e z=>?_,fun p hp z=>?_⟩
 ·obtain ⟨v,q⟩:=I.cell x c e
  exact absurd (Nat.lt_of_lt_of_le q.lt (by rw [z]; exact hb)) (Nat.lt_irrefl _)
 ·exact absurd (Nat.lt_of_lt_of_le (Heap.lt_size (I.pin p hp).1) (by rw [z]; exact hb)) (Nat.lt_irrefl _)
structure Turn (P:Program) (w:World) (K:PySem.W.Frag) (tg:Expr) (J:It) (fp:List Addr) (it:Addr) (tn:Nat→Heap→Prop):Prop where
 mem:it ∈ fp
 obj:∀ i h,tn i h→∀ b ∈ fp,∃ o,h.get? b = some o∧∀ v,o.data ≠ .cell v
 keep:∀ i h h',tn i h→(∀ b ∈ fp,∀ o,h.get? b = some o→h'.get? b = some o)→tn i h'
 item:∀ (X:Cx),X.prog = P→X.w = w→X.K = K→X.calm = true→∀ (i:Nat) (pins:List (Addr × Obj)) (s:Shared) (σ:St) (H:Hp) (E:Value→Shared→Prop),Inv X pins σ H s→(∀ b ∈ fp,FpOk X pins H b)→tn i s.heap→J.go i H →
  wpAny (model P w) X.A (pyNext (.ref it)) (fun r s1=>∃ u,r = some u ∧
   wpAny (model P w) X.A (letOwnedTupleGo tg (.ref it) u) (fun _ s2=>∃ x H',Inv X pins σ H' s2∧RelV x u∧J.yld i H x H'∧tn (i + 1) s2.heap∧∀ b ∈ fp,H' b = none) E s1) E s
 done:∀ (X:Cx),X.prog = P→X.w = w→X.K = K→X.calm = true→∀ (i:Nat) (pins:List (Addr × Obj)) (s:Shared) (σ:St) (H:Hp) (E:Value→Shared→Prop),Inv X pins σ H s→(∀ b ∈ fp,FpOk X pins H b)→tn i s.heap→J.stop i H →
  wpAny (model P w) X.A (pyNext (.ref it)) (fun r s1=>r = none∧Inv X pins σ H s1) E s
 self:∀ (A:Around) (i:Nat) (s:Shared) (Q:Value→Shared→Prop) (E:Value→Shared→Prop),tn i s.heap→Q (.ref it) s→wpAny (model P w) A (pyIter (.ref it)) Q E s
abbrev TI:=St→Hp→(It→Hp→Prop)→Prop
def PIE (X:Cx) (pins:List (Addr × Obj)) (σ:St) (tg:Expr) (R:It→Hp→Prop) (itv:Value) (s2:Shared):Prop :=
 ∃ (it:Addr) (fp:List Addr) (tn:Nat→Heap→Prop) (J:It) (H':Hp),itv = .ref it∧Inv X pins σ H' s2∧Turn X.prog X.w X.K tg J fp it tn∧tn 0 s2.heap∧(∀ b ∈ fp,FpOk X pins H' b)∧R J H'
def PI (X:Cx) (tg iter:Expr) (wi:TI):Prop :=
 ∀ (pins:List (Addr × Obj)) (s:Shared) (σ:St) (H:Hp) (R:It→Hp→Prop),Inv X pins σ H s→wi σ H R →
  wpAny (model X.prog X.w) X.A (eval iter X.env) (fun v s1=>wpAny (model X.prog X.w) X.A (pyIter v) (PIE X pins σ tg R) X.xe s1) X.xe s
theorem f1m {M:Model} {A:Around} {E:Value→Shared→Prop} {s:Shared} {tg:Expr} {it:Addr} {u:Value} {o:Obj} {n:String} {vs:Array Value} {Q:Unit→Shared→Prop} (ho:s.heap.get? it = some o) (hc:o.cls = .type n) (hd:o.data = .fields vs)
  (hn:["enumerate", "zip", "dict_itemiterator", "dict_reverseitemiterator", "odict_iterator", "itertools.zip_longest", "itertools.pairwise"].contains n = false) (hQ:Q () s):wpAny M A (letOwnedTupleGo tg (.ref it) u) Q E s:=by
 unfold letOwnedTupleGo
 cases tg <;> first
  | exact wpAny_pure hQ
  | (cases u <;> first
    | exact wpAny_pure hQ
    | (refine wpAny_bind (wpAny_load ho ?_); rw [hc,hd]; show wpAny M A (if (["enumerate", "zip", "dict_itemiterator", "dict_reverseitemiterator", "odict_iterator", "itertools.zip_longest", "itertools.pairwise"].contains n && vs[0]? == some (rawInt _)) = true then _ else _) Q E s; rw [if_neg (by intro h; rw [hn,Bool.false_and] at h; cases h)]; exact wpAny_pure hQ))
def Itl (K:PySem.W.Frag) (a:Addr):It :=
 ⟨fun i H=>∃ xs x,SqL K H a xs∧xs[i]? = some x,fun i H x H'=>H' = H∧∀ xs,SqL K H a xs→xs[i]? = some x,fun i H=>∃ xs,SqL K H a xs∧xs.length ≤ i⟩
def Itt (K:PySem.W.Frag) (a:Addr):It :=
 ⟨fun i H=>∃ xs x,SqT K H a xs∧xs[i]? = some x,fun i H x H'=>H' = H∧∀ xs,SqT K H a xs→xs[i]? = some x,fun i H=>∃ xs,SqT K H a xs∧xs.length ≤ i⟩
def Itr (lo:Int) (n:Nat):It:=⟨fun i _=>i < n,fun i H x H'=>H' = H∧x = .int (lo + i),fun i _=>n ≤ i⟩
theorem y0v {P:Program} {w:World} {K:PySem.W.Frag} {tg:Expr} (a it:Addr):Turn P w K tg (Itl K a) [it] it (fun i h=>h.IsListIter it a i) where
 mem:=by simp
 obj:=fun i h st b hb=>by
  have e:b = it:=by simpa using hb
  subst e
  obtain ⟨o,e,c,d⟩:=st
  exact ⟨o,e,fun v z=>by rw [d] at z; cases z⟩
 keep:=fun i h h' st k=>st.at fun o e=>k it (by simp) o e
 item:=by
  intro X hP hw hK hc i pins s σ H E I hf st hg
  subst hP hw hK
  obtain ⟨xs,x,hq,hx⟩:=hg
  obtain ⟨its,rv,p,hz⟩:=I.list hq
  obtain ⟨u,hu,ru⟩:=rv.get hx
  obtain ⟨f0,f1,f2,f3,f4,f5⟩:=hf it (by simp)
  refine wpAny_pyNext_list_item st p.isList (x:=u) (by simpa using hu) fun h' st' sb=>?_
  have I1:Inv X pins σ H { s with heap:=h' }:=I.turned (t':=s.toks) (fun b o hb e=>(sb.2 b hb).trans e) f0 f1 f3 f4 f5
  obtain ⟨o,e,c,d⟩:=id st'
  exact ⟨u,rfl,f1m (s:={ s with heap:=h' }) e c d (by decide) ⟨x,H,I1,ru,⟨rfl,fun ys hy=>by rw [I.list_inj hy hq]; exact hx⟩,st',fun b hb=>(hf b hb).1⟩⟩
 done:=by
  intro X hP hw hK hc i pins s σ H E I hf st hg
  subst hP hw hK
  obtain ⟨xs,hq,hx⟩:=hg
  obtain ⟨its,rv,p,hz⟩:=I.list hq
  obtain ⟨f0,f1,f2,f3,f4,f5⟩:=hf it (by simp)
  have hl:=rv.length
  exact wpAny_pyNext_list_end (I.ok.hd hc) st p.isList (by simp; omega) fun h' eb=>⟨rfl,I.turned (t':=s.toks) (fun b o hb e=>eb b o hb e) f0 f1 f3 f4 f5⟩
 self:=fun _ _ _ _ _ st h=>wpAny_pyIter_listiter st h
theorem x0i {P:Program} {w:World} {K:PySem.W.Frag} {tg:Expr} (a it:Addr):Turn P w K tg (Itt K a) [it] it (fun i h=>h.IsTupleIter it a i) where
 mem:=by simp
 obj:=fun i h st b hb=>by
  have e:b = it:=by simpa using hb
  subst e
  obtain ⟨o,e,c,d⟩:=st
  exact ⟨o,e,fun v z=>by rw [d] at z; cases z⟩
 keep:=fun i h h' st k=>st.at fun o e=>k it (by simp) o e
 item:=by
  intro X hP hw hK hc i pins s σ H E I hf st hg
  subst hP hw hK
  obtain ⟨xs,x,hq,hx⟩:=hg
  obtain ⟨its,rv,p,hz⟩:=I.tuple hq
  obtain ⟨u,hu,ru⟩:=rv.get hx
  obtain ⟨f0,f1,f2,f3,f4,f5⟩:=hf it (by simp)
  refine wpAny_pyNext_tuple_item st (show s.heap.IsTuple a its.toArray from p) (x:=u) (by simpa using hu) fun h' st' sb=>?_
  have I1:Inv X pins σ H { s with heap:=h' }:=I.turned (t':=s.toks) (fun b o hb e=>(sb.2 b hb).trans e) f0 f1 f3 f4 f5
  obtain ⟨o,e,c,d⟩:=id st'
  exact ⟨u,rfl,f1m (s:={ s with heap:=h' }) e c d (by decide) ⟨x,H,I1,ru,⟨rfl,fun ys hy=>by rw [I.tuple_inj hy hq]; exact hx⟩,st',fun b hb=>(hf b hb).1⟩⟩
 done:=by
  intro X hP hw hK hc i pins s σ H E I hf st hg
  subst hP hw hK
  obtain ⟨xs,hq,hx⟩:=hg
  obtain ⟨its,rv,p,hz⟩:=I.tuple hq
  obtain ⟨f0,f1,f2,f3,f4,f5⟩:=hf it (by simp)
  have hl:=rv.length
  exact wpAny_pyNext_tuple_end (I.ok.hd hc) st (show s.heap.IsTuple a its.toArray from p) (by simp; omega) fun h' eb=>⟨rfl,I.turned (t':=s.toks) (fun b o hb e=>eb b o hb e) f0 f1 f3 f4 f5⟩
 self:=fun _ _ _ _ _ st h=>wpAny_pyIter_tupleiter st h
theorem x0j {P:Program} {w:World} {K:PySem.W.Frag} {tg:Expr} (it:Addr) (lo:Int) (n:Nat):Turn P w K tg (Itr lo n) [it] it (fun i h=>IsRangeIter h it (lo + (i:Nat) * 1) ((n:Int) - (i:Nat)) 1) where
 mem:=by simp
 obj:=fun i h st b hb=>by
  have e:b = it:=by simpa using hb
  subst e
  exact ⟨_,st,fun v z=>by
   have z':Data.fields _ = Data.cell v:=z
   cases z'⟩
 keep:=fun i h h' st k=>k it (by simp) _ st
 item:=by
  intro X hP hw hK hc i pins s σ H E I hf st hg
  subst hP hw hK
  obtain ⟨f0,f1,f2,f3,f4,f5⟩:=hf it (by simp)
  have W:=Walks.range (prog:=X.prog) (w:=X.w) (I.ok.hd hc) it lo 1 n
  refine W.item i s _ _ hg st fun v h' tk hv st' kk=>?_
  obtain ⟨t,rfl⟩:=hv
  have I1:Inv X pins σ H { s with heap:=h',toks:=tk }:=I.turned (fun b o hb e=>kk b o (by simpa using hb) e) f0 f1 f3 f4 f5
  refine ⟨_,rfl,f1m (s:={ s with heap:=h',toks:=tk }) (n := "range_iterator") st' rfl rfl (by decide) ⟨.int (lo + i),H,I1,⟨t,?_⟩,⟨rfl,rfl⟩,st',fun b hb=>(hf b hb).1⟩⟩
  rw [Int.mul_one]
 done:=by
  intro X hP hw hK hc i pins s σ H E I hf st hg
  subst hP hw hK
  obtain ⟨f0,f1,f2,f3,f4,f5⟩:=hf it (by simp)
  exact wpAny_pyNext_range_end (I.ok.hd hc) st (by have:n ≤ i:=hg; omega) fun h' eb=>⟨rfl,I.turned (t':=s.toks) (fun b o hb e=>eb b o hb e) f0 f1 f3 f4 f5⟩
 self:=fun _ _ _ _ _ st h=>wpAny_pyIter_rangeiter st h
section
variable {X:Cx} {tg:Expr}
theorem w0e {pins:List (Addr × Obj)} {σ:St} {H:Hp} {s:Shared} {R:It→Hp→Prop} {E:Value→Shared→Prop} {lo hi:Int} {t u v:Tok} {tk:Nat} (I:Inv X pins σ H s) (h1:-(2 ^ 62) ≤ lo) (h2:lo < 2 ^ 62) (h3:-(2 ^ 62) ≤ hi) (h4:hi < 2 ^ 62)
  (q:R (Itr lo (hi - lo).toNat) H):wpAny (model X.prog X.w) X.A (pyIter (.ref s.heap.objs.size)) (PIE X pins σ tg R) E { s with heap:=s.heap.push { cls:=.type "range",data:=.fields #[.int lo t,.int hi u,.int 1 v] },toks:=tk }:=by
 refine wpAny_pyIter_range (IsRange.new ..) (small_one h1 h2 h3 h4) ?_
 have I1:Inv X pins σ H { s with heap:=s.heap.push { cls:=.type "range",data:=.fields #[.int lo t,.int hi u,.int 1 v] },toks:=tk }:=I.kept fun b o e=>Heap.get?_push_of_some _ e
 refine ⟨(s.heap.push { cls:=.type "range",data:=.fields #[.int lo t,.int hi u,.int 1 v] }).objs.size,[(s.heap.push { cls:=.type "range",data:=.fields #[.int lo t,.int hi u,.int 1 v] }).objs.size],_,_,H,rfl,
  I1.kept (t':=tk) fun b o e=>Heap.get?_push_of_some _ e,x0j _ lo (hi - lo).toNat,?_,fun b hb=>?_,q⟩
 ·have e1:lo + ((0:Nat):Int) * 1 = lo:=by simp
  have e2:(((hi - lo).toNat:Nat):Int) - ((0:Nat):Int) = Builtin.Range.rangeSize lo hi 1:=by rw [rangeSize_one]; split <;> omega
  show IsRangeIter _ _ (lo + ((0:Nat):Int) * 1) ((((hi - lo).toNat:Nat):Int) - ((0:Nat):Int)) 1
  rw [e1,e2]
  exact Heap.get?_push_size _ rfl
 ·have e:b = (s.heap.push { cls:=.type "range",data:=.fields #[.int lo t,.int hi u,.int 1 v] }).objs.size:=by simpa using hb
  subst e
  exact I1.fpOk (Nat.le_refl _) (I1.hok.fresh (Nat.le_refl _))
def n1u (ta:TA):TI:=fun σ H R=>ta σ H fun vs H1=>∃ j:Int,vs = [.int j]∧-(2 ^ 62) ≤ j∧j < 2 ^ 62∧R (Itr 0 j.toNat) H1
def n1t (ta:TA):TI:=fun σ H R=>ta σ H fun vs H1=>∃ i j:Int,vs = [.int i,.int j]∧(-(2 ^ 62) ≤ i∧i < 2 ^ 62∧-(2 ^ 62) ≤ j∧j < 2 ^ 62)∧R (Itr i (j - i).toNat) H1
theorem j0p {a:Expr} {ta:TA} {p pos:Pos} (hg:Gl X "range") (hm:X.mg "range" = none) (ha:PA X [a] ta) (hs:starEach [a] X.env = [(false,eval a X.env)]:=by rfl):PI X tg (.Call (.Name "range" p) [a] [] pos) (n1u ta):=by
 intro pins s σ H R I h
 refine Call_ (l0g I hg hm boot_range (PyProof.Rows.callWith_type1 (thn (ha pos pins s σ H _ I h) fun us s1 ⟨vs,H1,I1,r1,q1⟩=>?_) hs rfl))
 obtain ⟨j,e,q1,q2,q⟩:=q1
 subst e
 cases r1 with
 | cons r rr =>
  cases rr
  obtain ⟨t,rfl⟩:=r
  exact call_range_1 (w0e I1 (by omega) (by omega) q1 q2 (by simpa using q))
theorem a1k {a b:Expr} {ta:TA} {p pos:Pos} (hg:Gl X "range") (hm:X.mg "range" = none) (ha:PA X [a,b] ta) (hs:starEach [a,b] X.env = [(false,eval a X.env),(false,eval b X.env)]:=by rfl) (hs2:starEach [b] X.env = [(false,eval b X.env)]:=by rfl) :
  PI X tg (.Call (.Name "range" p) [a,b] [] pos) (n1t ta):=by
 intro pins s σ H R I h
 refine Call_ (l0g I hg hm boot_range (PyProof.Rows.callWith_type1 (thn (ha pos pins s σ H _ I h) fun us s1 ⟨vs,H1,I1,r1,q1⟩=>?_) (by rw [hs,hs2]) (by rw [hs2]; rfl)))
 obtain ⟨i,j,e,⟨q1,q2,q3,q4⟩,q⟩:=q1
 subst e
 cases r1 with
 | cons r rr =>
  cases rr with
  | cons r' rr =>
   cases rr
   obtain ⟨t,rfl⟩:=r
   obtain ⟨t',rfl⟩:=r'
   exact call_range_2 (w0e I1 q1 q2 q3 q4 q)
def tFor (wi:TI) (g:TG) (tb:TS):TS:=fun D σ H=>wi σ H fun J H1=>∃ W:Nat→Nat→St→Hp→Prop,(∃ m,W 0 m σ H1)∧∀ i m σ H,W i m σ H →
 (J.stop i H∧D.nx σ H) ∨ (J.go i H∧∃ N:St→Hp→Prop,(∀ σ' H',N σ' H'→∃ m',m' < m∧W (i + 1) m' σ' H')∧∀ x H',J.yld i H x H'→g x σ H' fun σ2 H2=>tb { D with nx:=N,ct:=N,bk:=D.nx } σ2 H2)
def o0c (fp:List Addr) (h:Heap):List (Addr × Obj):=fp.filterMap fun b=>(h.get? b).map fun o=>(b,o)
theorem f0b {fp:List Addr} {h:Heap} {b:Addr} {o:Obj} (hb:b ∈ fp) (e:h.get? b = some o):(b,o) ∈ o0c fp h:=List.mem_filterMap.mpr ⟨b,hb,by rw [e]; rfl⟩
theorem a1w {fp:List Addr} {h:Heap} {p:Addr × Obj} (hp:p ∈ o0c fp h):p.1 ∈ fp∧h.get? p.1 = some p.2:=by
 obtain ⟨b,hb,e⟩:=List.mem_filterMap.mp hp
 cases q:h.get? b with
 | none=>rw [q] at e; cases e
 | some o =>
  rw [q] at e
  have e':(b,o) = p:=Option.some.inj e
  subst e'
  exact ⟨hb,q⟩
theorem Inv.pinned {pins:List (Addr × Obj)} {σ:St} {H:Hp} {s:Shared} {fp:List Addr} (I:Inv X pins σ H s) (hf:∀ b ∈ fp,FpOk X pins H b) (ho:∀ b ∈ fp,∃ o,s.heap.get? b = some o∧∀ v,o.data ≠ .cell v):Inv X (pins ++ o0c fp s.heap) σ H s :=
 I.pins_of fun p hp=>(List.mem_append.mp hp).elim (fun z=>I.pin p (List.mem_append_right _ z)) fun z=>by
  obtain ⟨hb,e⟩:=a1w z
  obtain ⟨f0,f1,f2,_⟩:=hf p.1 hb
  obtain ⟨o,e',d⟩:=ho p.1 hb
  rw [e] at e'; cases e'
  exact ⟨e,f0,f1,f2,d⟩
theorem Inv.unpinned {pins pl:List (Addr × Obj)} {σ:St} {H:Hp} {s:Shared} (I:Inv X (pins ++ pl) σ H s):Inv X pins σ H s:=I.pins_of fun p hp=>I.pin p (List.mem_append_right _ (List.mem_append_left _ hp))
theorem o0b {iter:Expr} {body:List Stmt} {wi:TI} {g:TG} {tb:TS} {pos:Pos} (hp:PassesOwn (model X.prog X.w) X.A X.env X.xe) (hc:X.calm = true) (hi:PI X tg iter wi) (hg:PG X tg g) (hb:PSs X body tb)
  (hs:∀ x,foldedSetIterable iter X.env x = pure x:=by intro _; rfl):PS X (.For tg iter body [] pos) (tFor wi g tb):=by
 intro pins s σ H D I h
 refine wpAny_For (thn (hi pins s σ H _ I h) fun v s1 h1=>thn h1 fun itv s2 h2=>?_) hs
 obtain ⟨it,fp,tn,J,H2,e,I2,T,st2,f2,W,⟨m0,w0⟩,turn⟩:=h2
 subst e
 have stat:∀ {H':Hp},(∀ b ∈ fp,H' b = none)→∀ b ∈ fp,FpOk X pins H' b:=fun hn b hb=>⟨hn b hb,(f2 b hb).2⟩
 refine codeAny_forLoop_any (fun n s'=>∃ i σ' H',Inv X pins σ' H' s'∧tn i s'.heap∧(∀ b ∈ fp,H' b = none)∧W i n σ' H') ?_ m0 ⟨0,σ,H2,I2,st2,fun b hb=>(f2 b hb).1,w0⟩
 rintro n s3 ⟨i,σ3,H3,I3,st3,fr3,w3⟩
 rcases turn i n σ3 H3 w3 with ⟨stop,qn⟩ | ⟨go,N,hN,step⟩
 ·refine wpAny_passesOwn hp (thn (T.done X rfl rfl rfl hc i pins s3 σ3 H3 X.xe I3 (stat fr3) st3 stop) fun r s4 ⟨hr,I4⟩=>?_)
  subst hr
  exact wpAny_execs_nil ⟨σ3,H3,I4,qn⟩
 ·refine wpAny_passesOwn hp (thn (T.item X rfl rfl rfl hc i pins s3 σ3 H3 X.xe I3 (stat fr3) st3 go) fun r s4 ⟨u,hr,h4⟩=>?_)
  subst hr
  refine wpAny_passesOwn hp (thn h4 fun _ s5 ⟨x,H5,I5,r5,y5,st5,fr5⟩=>?_)
  have I5':=I5.pinned (stat fr5) (T.obj _ _ st5)
  refine wpAny_passesOwn hp (thn (hg _ s5 σ3 H5 x u _ I5' r5 (step x H5 y5)) fun _ s6 ⟨σ6,H6,I6,q6⟩=>?_)
  refine wpAny_passesOwn hp (thn (hb _ s6 σ6 H6 _ I6 q6) fun f s7 q7=>?_)
  have again:∀ {σ7:St} {H7:Hp},Inv X (pins ++ o0c fp s5.heap) σ7 H7 s7→N σ7 H7→∃ m,m < n∧∃ i σ' H',Inv X pins σ' H' s7∧tn i s7.heap∧(∀ b ∈ fp,H' b = none)∧W i m σ' H':=fun {σ7 H7} I7 n7=>by
   obtain ⟨m',hm,w7⟩:=hN σ7 H7 n7
   refine ⟨m',hm,i + 1,σ7,H7,I7.unpinned,T.keep _ _ _ st5 fun b hb o e=>(I7.pin (b,o) (List.mem_append_right _ (List.mem_append_right _ (f0b hb e)))).1,fun b hb=>?_,w7⟩
   obtain ⟨o,e,d⟩:=T.obj _ _ st5 b hb
   exact (I7.pin (b,o) (List.mem_append_right _ (List.mem_append_right _ (f0b hb e)))).2.1
  cases f with
  | next=>obtain ⟨σ7,H7,I7,n7⟩:=q7; exact again I7 n7
  | cont=>obtain ⟨σ7,H7,I7,n7⟩:=q7; exact again I7 n7
  | brk=>obtain ⟨σ7,H7,I7,q7⟩:=q7; exact ⟨σ7,H7,I7.unpinned,q7⟩
  | ret v=>obtain ⟨x7,σ7,H7,I7,r7,q7⟩:=q7; exact ⟨x7,σ7,H7,I7.unpinned,r7,q7⟩
end
abbrev R2:=V→V→Hp→VK→Prop
def OpR (X:Cx) (f:Value→Value→Sem Value) (r:R2):Prop :=
 ∀ (pins:List (Addr × Obj)) (s:Shared) (σ:St) (H:Hp) (x y:V) (v u:Value) (Q:VK),Inv X pins σ H s→RelV x v→RelV y u→r x y H Q →
  wpAny (model X.prog X.w) X.A (f v u) (EP X pins σ Q) X.xe s
def UnR (X:Cx) (f:Value→Sem Value) (r:V→Hp→VK→Prop):Prop :=
 ∀ (pins:List (Addr × Obj)) (s:Shared) (σ:St) (H:Hp) (x:V) (v:Value) (Q:VK),Inv X pins σ H s→RelV x v→r x H Q →
  wpAny (model X.prog X.w) X.A (f v) (EP X pins σ Q) X.xe s
def g0l (X:Cx) (f:Value) (r:List V→Hp→VK→Prop):Prop :=
 ∀ (pins:List (Addr × Obj)) (s:Shared) (σ:St) (H:Hp) (xs:List V) (us:List Value) (Q:VK),Inv X pins σ H s→Vals xs us→r xs H Q →
  wpAny (model X.prog X.w) X.A (call f us) (EP X pins σ Q) X.xe s
def TruR (X:Cx) (r:V→Hp→(Bool→Hp→Prop)→Prop):Prop :=
 ∀ (pins:List (Addr × Obj)) (s:Shared) (σ:St) (H:Hp) (x:V) (v:Value) (Q:Bool→Hp→Prop),Inv X pins σ H s→RelV x v→r x H Q →
  wpAny (model X.prog X.w) X.A (truthy v) (TP X pins σ Q) X.xe s
def tOp (r:R2) (ta tb:TE):TE:=fun σ H Q=>ta σ H fun x H1=>tb σ H1 fun y H2=>r x y H2 Q
def tUn (r:V→Hp→VK→Prop) (ta:TE):TE:=fun σ H Q=>ta σ H fun x H1=>r x H1 Q
def rI (C:Int→Int→Prop) (g:Int→Int→V):R2:=fun x y H Q=>∃ i j,x = .int i∧y = .int j∧C i j∧Q (g i j) H
def rI0 (g:Int→Int→V):R2:=fun x y H Q=>∃ i j,x = .int i∧y = .int j∧Q (g i j) H
def rU (g:Int→V):V→Hp→VK→Prop:=fun x H Q=>∃ i,x = .int i∧Q (g i) H
section
variable {X:Cx} {a b c:Expr} {ta tb tc:TE} {pos:Pos}
theorem binT (ha:PE X a ta) (hb:PE X b tb) {pins:List (Addr × Obj)} {s:Shared} {σ:St} {H:Hp} {R:V→V→Hp→Prop} (I:Inv X pins σ H s)
  (h:ta σ H fun x H1=>tb σ H1 fun y H2=>R x y H2) {Q:Value→Shared→Prop} {f:Value→Value→Sem Value}
  (hf:∀ v u s2 x y H2,Inv X pins σ H2 s2→RelV x v→RelV y u→R x y H2→wpAny (model X.prog X.w) X.A (f v u) Q X.xe s2) :
  wpAny (model X.prog X.w) X.A (eval a X.env) (fun v s₁=>wpAny (model X.prog X.w) X.A (eval b X.env) (fun u s₂=>wpAny (model X.prog X.w) X.A (f v u) Q X.xe s₂) X.xe s₁) X.xe s:=by
 refine thn (ha pins s σ H _ I h) fun v s1 ⟨x,H1,I1,r1,q1⟩=>?_
 refine thn (hb pins s1 σ H1 _ I1 q1) fun u s2 ⟨y,H2,I2,r2,q2⟩=>?_
 exact hf v u s2 x y H2 I2 r1 r2 q2
theorem a0z {op:Operator} {r:R2} (ho:OpR X (binaryOp op) r) (ha:PE X a ta) (hb:PE X b tb):PE X (.BinOp a op b pos) (tOp r ta tb):=by
 intro pins s σ H Q I h
 exact wpAny_BinOp (binT ha hb I h fun v u s2 x y H2 I2 rx ry q=>ho pins s2 σ H2 x y v u Q I2 rx ry q)
theorem m1q {op:UnaryOp} {r:V→Hp→VK→Prop} (ho:UnR X (unaryOp op) r) (ha:PE X a ta):PE X (.UnaryOp op a pos) (tUn r ta):=by
 intro pins s σ H Q I h
 exact UnaryOp_ (thn (ha pins s σ H _ I h) fun v s1 ⟨x,H1,I1,r1,q1⟩=>ho pins s1 σ H1 x v Q I1 r1 q1)
theorem opI {f:Value→Value→Sem Value} {C:Int→Int→Prop} {g:Int→Int→Int}
  (rule:∀ (i j:Int) (t u:Tok) (s:Shared) (Q:Value→Shared→Prop) (E:Value→Shared→Prop),C i j→Q (.int (g i j) s.toks) { s with toks:=s.toks + 1 }→wpAny (model X.prog X.w) X.A (f (.int i t) (.int j u)) Q E s) :
  OpR X f (rI C fun i j=>.int (g i j)):=by
 intro pins s σ H x y v u Q I rx ry h
 obtain ⟨i,j,rfl,rfl,hc,q⟩:=h
 obtain ⟨t,rfl⟩:=rx
 obtain ⟨t',rfl⟩:=ry
 exact rule i j t t' s _ _ hc ⟨.int (g i j),H,I.tok _,⟨_,rfl⟩,q⟩
theorem opI0 {f:Value→Value→Sem Value} {g:Int→Int→Int}
  (rule:∀ (i j:Int) (t u:Tok) (s:Shared) (Q:Value→Shared→Prop) (E:Value→Shared→Prop),Q (.int (g i j) s.toks) { s with toks:=s.toks + 1 }→wpAny (model X.prog X.w) X.A (f (.int i t) (.int j u)) Q E s) :
  OpR X f (rI0 fun i j=>.int (g i j)):=by
 intro pins s σ H x y v u Q I rx ry h
 obtain ⟨i,j,rfl,rfl,q⟩:=h
 obtain ⟨t,rfl⟩:=rx
 obtain ⟨t',rfl⟩:=ry
 exact rule i j t t' s _ _ ⟨.int (g i j),H,I.tok _,⟨_,rfl⟩,q⟩
theorem opB0 {f:Value→Value→Sem Value} {g:Int→Int→Bool}
  (rule:∀ (i j:Int) (t u:Tok) (s:Shared) (Q:Value→Shared→Prop) (E:Value→Shared→Prop),Q (.bool (g i j)) s→wpAny (model X.prog X.w) X.A (f (.int i t) (.int j u)) Q E s) :
  OpR X f (rI0 fun i j=>.bl (g i j)):=by
 intro pins s σ H x y v u Q I rx ry h
 obtain ⟨i,j,rfl,rfl,q⟩:=h
 obtain ⟨t,rfl⟩:=rx
 obtain ⟨t',rfl⟩:=ry
 exact rule i j t t' s _ _ ⟨.bl (g i j),H,I,rfl,q⟩
def CPow (i j:Int):Prop:=0 ≤ j∧j ≤ 1000000∧i.natAbs < 2 ^ 64
def CMul (i j:Int):Prop:=(-(2 ^ 64) < i∧i < 2 ^ 64) ∨ (-(2 ^ 64) < j∧j < 2 ^ 64)
theorem CMul.ok {i j:Int} (h:CMul i j):IntMulOk i j:=by
 rcases h with ⟨h1,h2⟩ | ⟨h1,h2⟩
 ·exact .of_left (intBits_le_64 h1 h2)
 ·exact .of_right (intBits_le_64 h1 h2)
theorem x0h (k:Nat):(0:Int) ≤ 2 ^ k:=by
 rw [two_pow_cast]
 exact Int.natCast_nonneg _
theorem d0y:OpR X (binaryOp .Add) (rI0 fun i j=>.int (i + j)):=opI0 fun _ _ _ _ _ _ _ q=>add_int q
theorem m0q:OpR X (binaryOp .Sub) (rI0 fun i j=>.int (i - j)):=opI0 fun _ _ _ _ _ _ _ q=>sub_int q
theorem r0g:OpR X (binaryOp .Mult) (rI CMul fun i j=>.int (i * j)):=opI fun _ _ _ _ _ _ _ hc q=>mul_int q hc.ok
theorem m0s:OpR X (binaryOp .Mod) (rI (fun _ j=>0 < j) fun i j=>.int (i % j)):=opI fun i j _ _ _ _ _ hc q=>by
 have h1:(0:Int) < j:=hc
 exact mod_int' (by omega) (by rw [Int.fmod_eq_emod_of_nonneg i (by omega)]; exact q)
theorem a1p:OpR X (binaryOp .Pow) (rI CPow fun i j=>.int (i ^ j.toNat)):=opI fun _ _ _ _ _ _ _ hc q=>pow_int_small hc.1 hc.2.1 hc.2.2 q
theorem m0r:OpR X (binaryOp .LShift) (rI CPow fun i j=>.int (i * 2 ^ j.toNat)):=opI fun _ _ _ _ _ _ _ hc q=>lshift_int_small hc.1 hc.2.1 hc.2.2 q
theorem h1k:OpR X (binaryOp .RShift) (rI (fun _ j=>0 ≤ j) fun i j=>.int (i / 2 ^ j.toNat)):=opI fun i j _ _ _ _ _ hc q =>
 rshift_int hc (by rw [Int.fdiv_eq_ediv_of_nonneg i (x0h _)]; exact q)
theorem h1m:OpR X (binaryOp .BitAnd) (rI0 fun i j=>.int (Builtin.bitAnd i j)):=opI0 fun _ _ _ _ _ _ _ q=>and_int q
theorem h1j:OpR X (binaryOp .BitXor) (rI0 fun i j=>.int (Builtin.bitXor i j)):=opI0 fun _ _ _ _ _ _ _ q=>xor_int q
theorem unI {f:Value→Sem Value} {g:Int→Int}
  (rule:∀ (i:Int) (t:Tok) (s:Shared) (Q:Value→Shared→Prop) (E:Value→Shared→Prop),Q (.int (g i) s.toks) { s with toks:=s.toks + 1 }→wpAny (model X.prog X.w) X.A (f (.int i t)) Q E s) :
  UnR X f (rU fun i=>.int (g i)):=by
 intro pins s σ H x v Q I rx h
 obtain ⟨i,rfl,q⟩:=h
 obtain ⟨t,rfl⟩:=rx
 exact rule i t s _ _ ⟨.int (g i),H,I.tok _,⟨_,rfl⟩,q⟩
theorem g1s:UnR X (unaryOp .USub) (rU fun i=>.int (-i)):=unI fun _ _ _ _ _ q=>neg_int q
end
section
variable {X:Cx} {a b c:Expr} {ta tb tc:TE} {pos:Pos}
theorem c1f {pins:List (Addr × Obj)} {σ:St} {H:Hp} {s:Shared} {Q:VK} {k k':Bool} (I:Inv X pins σ H s) (q:Q (.bl k) H) (e:k = k'):EP X pins σ Q (.bool k') s:=by
 subst e
 exact ⟨.bl k,H,I,rfl,q⟩
theorem e1u:OpR X (compareOp .Lt) (rI0 fun i j=>.bl (decide (i < j))):=opB0 fun _ _ _ _ _ _ _ q=>lt_int q
theorem r0h:OpR X (compareOp .LtE) (rI0 fun i j=>.bl (decide (i ≤ j))):=opB0 fun _ _ _ _ _ _ _ q=>le_int q
theorem x0s:OpR X (compareOp .Gt) (rI0 fun i j=>.bl (decide (j < i))):=opB0 fun _ _ _ _ _ _ _ q=>gt_int q
theorem m1x:OpR X (compareOp .GtE) (rI0 fun i j=>.bl (decide (j ≤ i))):=opB0 fun _ _ _ _ _ _ _ q=>ge_int q
theorem h1l:OpR X (compareOp .Is) (fun x y H Q=>y = .non∧Q (.bl (decide (x = .non))) H):=by
 intro pins s σ H x y v u Q I rx ry h
 obtain ⟨rfl,q⟩:=h
 cases ry
 refine is_none_gen (c1f I q ?_)
 cases x <;> first
  | (cases rx; rfl)
  | (obtain ⟨t,rfl⟩:=rx; rfl)
theorem j1o:OpR X (compareOp .IsNot) (fun x y H Q=>y = .non∧Q (.bl (!decide (x = .non))) H):=by
 intro pins s σ H x y v u Q I rx ry h
 obtain ⟨rfl,q⟩:=h
 cases ry
 refine isnot_none_gen (c1f I q ?_)
 cases x <;> first
  | (cases rx; rfl)
  | (obtain ⟨t,rfl⟩:=rx; rfl)
theorem r0f:OpR X (compareOp .NotIn) (fun x y H Q=>∃ i j,x = .str i∧y = .str j∧Q (.bl (!(!(Builtin.Str.occurrences j i 0 j.length 1).isEmpty))) H):=by
 intro pins s σ H x y v u Q I rx ry h
 obtain ⟨i,j,rfl,rfl,q⟩:=h
 obtain ⟨t,rfl⟩:=rx
 obtain ⟨t',rfl⟩:=ry
 exact notIn_str (c1f I q rfl)
theorem OpR.or {f:Value→Value→Sem Value} {r r':R2} (h:OpR X f r) (h':OpR X f r'):OpR X f (fun x y H Q=>r x y H Q ∨ r' x y H Q):=by
 intro pins s σ H x y v u Q I rx ry q
 rcases q with q | q
 ·exact h pins s σ H x y v u Q I rx ry q
 ·exact h' pins s σ H x y v u Q I rx ry q
theorem b0e (b:Expr) {op:CmpOp} (h:op ≠ .In:=by decide) (h2:op ≠ .NotIn:=by decide):behindInMarks op b = false:=by
 have e1:(op == CmpOp.In) = false:=by cases op <;> first | rfl | exact absurd rfl h
 have e2:(op == CmpOp.NotIn) = false:=by cases op <;> first | rfl | exact absurd rfl h2
 cases b <;> simp [behindInMarks,e1,e2]
theorem k0n {op:CmpOp} {r:R2} (ho:OpR X (compareOp op) r) (ha:PE X a ta) (hb:PE X b tb) (hm:behindInMarks op b = false):PE X (.Compare a [op] [b] pos) (tOp r ta tb):=by
 intro pins s σ H Q I h
 exact wpAny_Compare1 (binT ha hb I h fun v u s2 x y H2 I2 rx ry q=>ho pins s2 σ H2 x y v u Q I2 rx ry q) hm
def i1l (t:TE):TT:=fun σ H Q=>t σ H fun x H'=>∃ k,x = .bl k∧Q k H'
theorem a0x {op:CmpOp} {r:R2} (ho:OpR X (compareOp op) r) (ha:PE X a ta) (hb:PE X b tb) (hm:behindInMarks op b = false):PT X (.Compare a [op] [b] pos) (i1l (tOp r ta tb)):=by
 intro pins s σ H Q I h
 refine wpAny_isTrue_Compare1 (thn (ha pins s σ H _ I h) fun v s1 ⟨x,H1,I1,r1,q1⟩=>thn (hb pins s1 σ H1 _ I1 q1) fun u s2 ⟨y,H2,I2,r2,q2⟩ =>
  thn (ho pins s2 σ H2 x y v u _ I2 r1 r2 q2) fun c s3 ⟨z,H3,I3,r3,k,e,q3⟩=>?_) hm
 subst e
 cases r3
 exact wpAny_truthy_bool ⟨H3,I3,q3⟩
def g1v (r r':R2) (ta tb tc:TE):TE:=fun σ H Q=>ta σ H fun x H1=>tb σ H1 fun y H2=>r x y H2 fun z H3=>∃ k,z = .bl k ∧
 (if k = true then tc σ H3 fun w' H4=>r' y w' H4 Q else Q (.bl false) H3)
theorem l0v {op op':CmpOp} {r r':R2} (ho:OpR X (compareOp op) r) (ho':OpR X (compareOp op') r') (ha:PE X a ta) (hb:PE X b tb) (hc:PE X c tc)
  (hm:lastMarks [op,op'] [b,c] = false:=by with_unfolding_all rfl):PT X (.Compare a [op,op'] [b,c] pos) (i1l (g1v r r' ta tb tc)):=by
 intro pins s σ H Q I h
 refine isTrue_chain (thn (ha pins s σ H _ I h) fun v s1 ⟨x,H1,I1,r1,q1⟩=>test_link (thn (hb pins s1 σ H1 _ I1 q1) fun u s2 ⟨y,H2,I2,r2,q2⟩ =>
  thn (ho pins s2 σ H2 x y v u _ I2 r1 r2 q2) fun d s3 ⟨z,H3,I3,r3,k,e,q3⟩=>?_)) hm
 subst e
 cases r3
 refine wpAny_truthy_bool ?_
 cases k with
 | false =>
  obtain ⟨k',e',q'⟩:=q3
  cases e'
  exact ite_ff ⟨H3,I3,q'⟩
 | true =>
  refine ite_tt (test_last (thn (hc pins s3 σ H3 _ I3 q3) fun w' s4 ⟨z',H4,I4,r4,q4⟩=>thn (ho' pins s4 σ H4 y z' u w' _ I4 r2 r4 q4) fun d' s5 ⟨z2,H5,I5,r5,k2,e2,q5⟩=>?_))
  subst e2
  cases r5
  exact wpAny_truthy_bool ⟨H5,I5,q5⟩
def TruV (K:PySem.W.Frag) (x:V) (H:Hp) (k:Bool):Prop :=
 match x with
 | .non=>k = false
 | .bl b=>k = b
 | .int i=>k = (i != 0)
 | .str y=>y.length ≤ sizeLine∧k = ((y.length:Int) != 0)
 | .byt y=>y.size ≤ sizeLine∧k = ((y.size:Int) != 0)
 | .ref p=>(∃ xs,SqL K H p xs∧k = !xs.isEmpty) ∨ (∃ xs,SqT K H p xs∧k = !xs.isEmpty) ∨ ∃ kvs,H p = some (.dK kvs)∧k = !kvs.isEmpty
 | _=>False
theorem y0c {κ:Type} {kvs:List (κ × V)} {vs:List (κ × Value)} (r:KV kvs vs):(!vs.isEmpty) = !kvs.isEmpty:=by
 cases r <;> rfl
theorem o0m {xs:List V} {its:List Value} (r:Vals xs its):(!its.toArray.isEmpty) = !xs.isEmpty:=by
 cases r <;> simp
theorem m0y:(sizeLine:Nat) < 2 ^ 63:=by rw [sizeLine_eq]; decide
theorem l1w:TruR X (fun x H Q=>∃ k,TruV X.K x H k∧Q k H):=by
 intro pins s σ H x v Q I rx h
 obtain ⟨k,e,q⟩:=h
 have hl:=m0y
 have hs:sizeLine = 16777216:=sizeLine_eq
 cases x with
 | non =>
  cases rx
  have e':k = false:=e
  subst e'
  exact truthy_none ⟨H,I,q⟩
 | bl b =>
  cases rx
  have e':k = b:=e
  subst e'
  exact wpAny_truthy_bool ⟨H,I,q⟩
 | int i =>
  obtain ⟨t,rfl⟩:=rx
  have e':k = (i != 0):=e
  subst e'
  exact PySem.P.truthy_int ⟨H,I,q⟩
 | str y =>
  obtain ⟨t,rfl⟩:=rx
  obtain ⟨hy,e'⟩:y.length ≤ sizeLine∧k = ((y.length:Int) != 0):=e
  subst e'
  exact PySem.P.truthy_str (by omega) ⟨H,I.tok _,q⟩
 | byt y =>
  obtain ⟨t,rfl⟩:=rx
  obtain ⟨hy,e'⟩:y.size ≤ sizeLine∧k = ((y.size:Int) != 0):=e
  subst e'
  exact PySem.W.truthy_bytes (by omega) ⟨H,I.tok _,q⟩
 | ref p =>
  cases rx
  have e':(∃ xs,SqL X.K H p xs∧k = !xs.isEmpty) ∨ (∃ xs,SqT X.K H p xs∧k = !xs.isEmpty) ∨ ∃ kvs,H p = some (.dK kvs)∧k = !kvs.isEmpty:=e
  rcases e' with ⟨xs,hx,e'⟩ | ⟨xs,hx,e'⟩ | ⟨kvs,hx,e'⟩
  ·subst e'
   obtain ⟨its,r,pl,hz⟩:=I.list hx
   have hlen:=r.length
   exact wpAny_truthy_list pl.isList (by simp only [List.size_toArray]; omega) ⟨H,I.tok _,by rw [o0m r]; exact q⟩
  ·subst e'
   obtain ⟨its,r,pl,hz⟩:=I.tuple hx
   have hlen:=r.length
   exact truthy_tuple pl (by simp only [List.size_toArray]; omega) ⟨H,I.tok _,by rw [o0m r]; exact q⟩
  ·subst e'
   obtain ⟨hz,hS,vs,r,m⟩:kvs.length ≤ sizeLine∧(p == sysModules) = false∧∃ vs,KV kvs vs∧s.heap.DictOf (d0e X.prog X.w) p vs:=I.hok p _ hx
   have hlen:kvs.length = vs.length:=Paired.length r
   exact wpAny_truthy_dict hS m (by omega) ⟨H,I.tok _,by rw [y0c r]; exact q⟩
 | _=>exact (show False from e).elim
theorem e1n (ha:PE X a ta) (he:∀ whole,isTrue a X.env whole = (do let v ← whole; standAt a.pos; holding [v] (truthy v))) :
  PT X a (fun σ H Q=>ta σ H fun x H'=>∃ k,TruV X.K x H' k∧Q k H'):=by
 intro pins s σ H Q I h
 exact isTrue_plain (thn (ha pins s σ H _ I h) fun v s1 ⟨x,H1,I1,r1,q1⟩=>l1w pins s1 σ H1 x v Q I1 r1 q1) (he _)
theorem d0o:OpR X (binaryOp .Add) (fun x y H Q=>∃ i j,x = .str i∧y = .str j∧i.length + j.length ≤ sizeLine∧Q (.str (i ++ j)) H):=by
 intro pins s σ H x y v u Q I rx ry h
 obtain ⟨i,j,rfl,rfl,hz,q⟩:=h
 obtain ⟨t,rfl⟩:=rx
 obtain ⟨t',rfl⟩:=ry
 exact add_str (fun t' tk=>⟨.str (i ++ j),H,I.tok _,⟨_,rfl⟩,q⟩) hz
def g1m (b:Expr):Prop:=∀ o i,subscripted b false o i = operate [o,i] (getItem o i)
theorem m0o (ha:PE X a ta) (hb:PE X b tb) (hs:g1m b) :
  PE X (.Subscript a b pos) (tOp (fun x y H Q=>∃ z i c,x = .str z∧y = .int i∧0 ≤ i∧i < 2 ^ 63∧i < z.length∧z.cps[i.toNat]? = some c∧Q (.str ⟨#[c]⟩) H) ta tb):=by
 intro pins s σ H Q I h
 refine Subscript_ (binT ha hb I h fun v u s2 x y H2 I2 rx ry q=>?_)
 obtain ⟨z,i,c,rfl,rfl,h0,h63,h1,hc,q⟩:=q
 obtain ⟨t,rfl⟩:=rx
 obtain ⟨t',rfl⟩:=ry
 have e:seqIndex? i z.length = some i.toNat:=PySem.StrLaws.seqIndex_nonneg h0 h1
 exact tail_any (typeIs_str s2 z t) slot_str_getitem.lookup (getItem_str (c:=c) (by
  have e1:decide (i < -(2 ^ 63:Int)) = false:=decide_eq_false (by omega)
  have e2:decide (i ≥ 2 ^ 63) = false:=decide_eq_false (by omega)
  rw [e1,e2] <;> rfl) (by rw [e]; exact hc) ⟨.str ⟨#[c]⟩,H2,I2.tok _,⟨_,rfl⟩,q⟩) (hs _ _)
theorem l0j {x:V} {us:List Value} (r:Vals [x] us):∃ u,us = [u]∧RelV x u:=by
 cases r with
 | cons r1 r2=>cases r2; exact ⟨_,rfl,r1⟩
theorem l1u {x y:V} {us:List Value} (r:Vals [x,y] us):∃ u w',us = [u,w']∧RelV x u∧RelV y w':=by
 cases r with
 | cons r1 r2 =>
  cases r2 with
  | cons r3 r4=>cases r4; exact ⟨_,_,rfl,r1,r3⟩
theorem c1u (hc:X.calm = true):g0l X (.builtin "max") (fun xs H Q=>∃ i j,xs = [.int i,.int j]∧Q (.int (if j > i then j else i)) H):=by
 intro pins s σ H xs us Q I r h
 obtain ⟨i,j,rfl,q⟩:=h
 obtain ⟨u,w',rfl,⟨t,rfl⟩,⟨t',rfl⟩⟩:=l1u r
 refine max_two_ints (I.ok.hd hc) fun h' tk k=>⟨_,H,I.kept k,?_,q⟩
 by_cases hj:j > i
 ·rw [if_pos hj,if_pos hj]; exact ⟨_,rfl⟩
 ·rw [if_neg hj,if_neg hj]; exact ⟨_,rfl⟩
theorem c1v:g0l X (.type "int") (fun xs H Q=>(∃ i,xs = [.int i]∧Q (.int i) H) ∨ ∃ k,xs = [.bl k]∧Q (.int (if k then 1 else 0)) H):=by
 intro pins s σ H xs us Q I r h
 rcases h with ⟨i,rfl,q⟩ | ⟨k,rfl,q⟩
 ·obtain ⟨u,rfl,t,rfl⟩:=l0j r
  exact call_int_int ⟨.int i,H,I,⟨_,rfl⟩,q⟩
 ·obtain ⟨u,rfl,r1⟩:=l0j r
  cases r1
  exact call_int_bool ⟨.int (if k then 1 else 0),H,I.tok _,⟨_,rfl⟩,q⟩
theorem e0o:g0l X (.type "str") (fun xs H Q=>∃ i,xs = [.int i]∧i.natAbs.log2 < 1920∧Q (.str (toString i)) H):=by
 intro pins s σ H xs us Q I r h
 obtain ⟨i,rfl,hz,q⟩:=h
 obtain ⟨u,rfl,t,rfl⟩:=l0j r
 exact PySem.P.str_of_int hz ⟨.str _,H,I.tok _,⟨_,rfl⟩,q⟩
end
structure ObjM (h:Heap) (x dx C:Addr) (mA:Str→Option Value):Prop where
 obj:h.get? x = some (PySem.W.instObj C dx)
 ns:h.Ns1 dx mA
 ne:dx ≠ x
theorem b1e {h:Heap} {dx:Addr} {mA:Str→Option Value} (n:h.Ns1 dx mA):∃ od,h.get? dx = some od∧∀ name,PySem.W.lookIn name od = some (mA name):=by
 obtain ⟨o,es,ep,ho,hd,hk,_,hm⟩:=n
 refine ⟨o,ho,fun name=>?_⟩
 have e:=hm name
 unfold nsFind findBy at e
 rw [← Array.find?_toList] at e
 unfold PySem.W.lookIn
 rw [hd]
 dsimp only
 split
 ·rename_i y q
  rw [q] at e
  exact congrArg some e
 ·rename_i q
  rw [q] at e
  have a:es.toList.any (·.refKey) = false:=by
   rw [List.any_eq_false]
   intro y hy
   obtain ⟨z,t,hkey⟩:=hk y (Array.mem_toList_iff.mp hy)
   simp [DictEntry.refKey,hkey]
  have a':¬ es.toList.any (·.refKey) = true:=by rw [a]; exact Bool.false_ne_true
  rw [if_neg a']
  exact congrArg some e
theorem ObjM.look {h:Heap} {x dx C:Addr} {mA:Str→Option Value} (I:ObjM h x dx C mA):∃ od,PySem.W.InstAt h x (PySem.W.instObj C dx) C (some od)∧∀ name,PySem.W.lookIn name od = some (mA name) :=
 let ⟨od,ho,hl⟩:=b1e I.ns
 ⟨od,⟨I.obj,rfl,rfl,ho⟩,hl⟩
theorem RelO.some_of {v:V} {o:Option Value} (r:RelO (some v) o):∃ u,o = some u∧RelV v u:=by
 cases o with
 | none=>exact (show False from r).elim
 | some u=>exact ⟨u,rfl,r⟩
theorem b1w {v:V} {u:Value} (r:RelV v u):PySem.W.handedIn u = true:=by
 cases v with
 | non=>cases (show u = Value.none from r); rfl
 | bl b=>cases (show u = Value.bool b from r); rfl
 | int i=>obtain ⟨t,e⟩:=(show ∃ t,u = Value.int i t from r); cases e; rfl
 | str x=>obtain ⟨t,e⟩:=(show ∃ t,u = Value.str x t from r); cases e; rfl
 | byt b=>obtain ⟨t,e⟩:=(show ∃ t,u = Value.bytes b t from r); cases e; rfl
 | flt b=>obtain ⟨t,e⟩:=(show ∃ t,u = Value.float b t from r); cases e; rfl
 | ref a=>cases (show u = Value.ref a from r); rfl
 | ty n=>cases (show u = Value.type n from r); rfl
section
variable {P:Program} {w:World} {H H':Hp} {h h':Heap} {a C dx:Addr} {fs fs':List (Str × V)}
theorem k1e (hok:HOk P w H h) (e:H a = some (.ins C dx fs)):∃ mA,ObjM h a dx C mA∧(∀ f,RelO (fs.lookup f) (mA f))∧PySem.Within mA (fs.map (·.1))∧fs.length ≤ 1000∧H dx = some (.own a):=by
 obtain ⟨d,z,ne,ob,mA,n,r,q⟩:=(show d0x P w H h a (.ins C dx fs) from hok a _ e)
 exact ⟨mA,⟨ob,n,ne⟩,r,q,z,d⟩
end
structure Cls (K:PySem.W.Frag) (C:Addr):Prop where
 pg:PySem.W.plainGet K C Str.empty = true
 hd:PySem.W.hasDictIn K C = true
 po:PySem.W.plainOver K C = true
 sa:PySem.W.findIn K (.ref C) "__setattr__" = some (some (.builtin "object.__setattr__"))
theorem Cls.get {K:PySem.W.Frag} {C:Addr} (c:Cls K C) (f:Str):PySem.W.plainGet K C f = true:=c.pg
section
variable {X:Cx} {pins:List (Addr × Obj)} {σ:St} {H:Hp} {s:Shared} {a C dx:Addr} {fs:List (Str × V)} {f:Str} {v:V} {A:Around} {E:Value→Shared→Prop}
theorem Inv.made (I:Inv X pins σ H s):Inv X pins σ (upd (upd H s.heap.objs.size (.own (s.heap.objs.size + 1))) (s.heap.objs.size + 1) (.ins C s.heap.objs.size []))
  { s with heap:=(s.heap.push PySem.W.emptyDict).push (PySem.W.instObj C s.heap.objs.size) }:=by
 have e1:(s.heap.push PySem.W.emptyDict).get? s.heap.objs.size = some PySem.W.emptyDict:=Heap.get?_push_size s.heap rfl
 have e2:((s.heap.push PySem.W.emptyDict).push (PySem.W.instObj C s.heap.objs.size)).get? (s.heap.objs.size + 1) = some (PySem.W.instObj C s.heap.objs.size):=by
  have:=Heap.get?_push_size (s.heap.push PySem.W.emptyDict) (o:=PySem.W.instObj C s.heap.objs.size) rfl
  rwa [Heap.size_push] at this
 have e3:(s.heap.push PySem.W.emptyDict).Ns s.heap.objs.size (fun _=>none):=⟨PySem.W.emptyDict,#[],_,e1,rfl,(fun e he=>absurd he (by simp)),fun _=>rfl⟩
 have I1:=I.laid (a:=s.heap.objs.size) (o:=.own (s.heap.objs.size + 1)) (h':=s.heap.push PySem.W.emptyDict) (t':=s.toks) (fun b u q=>Heap.get?_push_of_some _ q) (Nat.le_refl _) ⟨_,e1⟩
 refine I1.laid (a:=s.heap.objs.size + 1) (o:=.ins C s.heap.objs.size []) (t':=s.toks) (fun b u q=>Heap.get?_push_of_some _ q) (Nat.le_of_eq (Heap.size_push _ _)) ?_
 have ne:s.heap.objs.size ≠ s.heap.objs.size + 1:=Nat.ne_of_lt (Nat.lt_succ_self _)
 refine ⟨by rw [a0o ne,b0g],Nat.zero_le _,ne,e2,fun _=>none,(Heap.Ns1.of_empty e3).at fun o q=>Heap.get?_push_of_some _ q,fun _=>True.intro,fun y hy=>absurd rfl hy⟩
theorem l1e {prog:Program} {w:World} {env:Env} {e:Expr} {f:Str} {pos:Pos} {s:Shared} {Q:Value→Shared→Prop} (hb:attributeBase e f env (eval e env) = eval e env)
  (h:wpAny (model prog w) A (eval e env) (fun o s₁=>wpAny (model prog w) A (getAttr o f true) Q E s₁) E s):wpAny (model prog w) A (eval (.Attribute e f pos) env) Q E s :=
 Attribute_any_ h (by rw [arm_eval_Attribute,hb])
end
section
variable {X:Cx} {pins:List (Addr × Obj)} {σ:St} {H:Hp} {s:Shared} {A:Around} {E:Value→Shared→Prop} {Q:Value→Shared→Prop} {c:Value} {b:Bool}
inductive TyOf (K:PySem.W.Frag) (H:Hp):V→Value→Prop where
 | non:TyOf K H .non (.type "NoneType")
 | bl (x:Bool):TyOf K H (.bl x) (.type "bool")
 | int (i:Int):TyOf K H (.int i) (.type "int")
 | str (x:Str):TyOf K H (.str x) (.type "str")
 | flt (x:UInt64):TyOf K H (.flt x) (.type "float")
 | lst {a:Addr} {xs:List V} (e:H a = some (.lst xs)):TyOf K H (.ref a) (.type "list")
 | frz {a:Addr} {o:Obj} {xs:List V} (e:H a = some (.frz o (.lst xs))):TyOf K H (.ref a) (.type "list")
 | tup {a:Addr} {xs:List V} (e:H a = some (.tup xs)):TyOf K H (.ref a) (.type "tuple")
 | dK {a:Addr} {kvs:List (Key × V)} (e:H a = some (.dK kvs)):TyOf K H (.ref a) (.type "dict")
 | dT {a:Addr} {kvs:List (List Key × V)} (e:H a = some (.dT kvs)):TyOf K H (.ref a) (.type "dict")
 | ins {a C dx:Addr} {fs:List (Str × V)} (e:H a = some (.ins C dx fs)) (cl:Cls K C) (ha:PySem.W.findIn K (.ref C) "__class__" = some (some (.builtin "object.__class__")))
   (hn:PySem.W.specialIn K (.builtin "object.__class__") "__get__" = some (some (.builtin "getset_descriptor.__get__"))) (htk:PySem.W.takesIn K (.builtin "object.__class__") = some true)
   (hm:PySem.W.mroIn K C (.type "object") = some true):TyOf K H (.ref a) (.ref C)
theorem j0y {x:V} {u t:Value} (I:Inv X pins σ H s) (rx:RelV x u) (ty:TyOf X.K H x t) (e:PySem.W.kitOne X.K t c = some b) (h:∀ tk,Q (.bool b) { s with toks:=tk }) :
  wpAny (model X.prog X.w) A (call (.builtin "isinstance") [u,c]) Q E s:=by
 cases ty with
 | non=>cases (show u = Value.none from rx); exact PySem.W.kia_one PySem.W.kitx_none I.kIn True.intro e (fun z=>nomatch z) h
 | bl y=>cases (show u = Value.bool y from rx); exact PySem.W.kia_one PySem.W.kitx_bool I.kIn True.intro e (fun z=>nomatch z) h
 | int i=>obtain ⟨t,q⟩:=(show ∃ t,u = Value.int i t from rx); cases q; exact PySem.W.kia_one PySem.W.kitx_int I.kIn True.intro e (fun z=>nomatch z) h
 | str y=>obtain ⟨t,q⟩:=(show ∃ t,u = Value.str y t from rx); cases q; exact PySem.W.kia_one PySem.W.kitx_str I.kIn True.intro e (fun z=>nomatch z) h
 | flt y=>obtain ⟨t,q⟩:=(show ∃ t,u = Value.float y t from rx); cases q; exact PySem.W.kia_one PySem.W.kitx_float I.kIn True.intro e (fun z=>nomatch z) h
 | @lst a xs ea =>
  cases (show u = Value.ref a from rx)
  obtain ⟨_,_,n,_,h1⟩:=(show d0x X.prog X.w H s.heap a (.lst xs) from I.hok a _ ea)
  exact PySem.W.kia_one PySem.W.kitx_list I.kIn ⟨_,h1,rfl⟩ e (fun z=>nomatch z) h
 | @frz a ob xs ea =>
  cases (show u = Value.ref a from rx)
  obtain ⟨_,_,_,n,_,h1⟩:=(show d0x X.prog X.w H s.heap a (.frz ob (.lst xs)) from I.hok a _ ea)
  exact PySem.W.kia_one PySem.W.kitx_list I.kIn ⟨_,h1,rfl⟩ e (fun z=>nomatch z) h
 | @tup a xs ea =>
  cases (show u = Value.ref a from rx)
  obtain ⟨_,_,_,p⟩:=(show d0x X.prog X.w H s.heap a (.tup xs) from I.hok a _ ea)
  obtain ⟨o,h1,h2,_⟩:=p
  exact PySem.W.kia_one PySem.W.kitx_tuple I.kIn ⟨o,h1,h2⟩ e (fun z=>nomatch z) h
 | @dK a kvs ea =>
  cases (show u = Value.ref a from rx)
  obtain ⟨_,_,vs,_,p⟩:=(show d0x X.prog X.w H s.heap a (.dK kvs) from I.hok a _ ea)
  obtain ⟨o,es,ep,h1,h2,_⟩:=p
  exact PySem.W.kia_one PySem.W.kitx_dict I.kIn ⟨o,h1,h2.1⟩ e (fun z=>nomatch z) h
 | @dT a kvs ea =>
  cases (show u = Value.ref a from rx)
  obtain ⟨_,_,xs,_,o,es,ep,h1,h2,_⟩:=(show d0x X.prog X.w H s.heap a (.dT kvs) from I.hok a _ ea)
  exact PySem.W.kia_one PySem.W.kitx_dict I.kIn ⟨o,h1,h2.1⟩ e (fun z=>nomatch z) h
 | @ins a C dx fs ea cl ha hn htk hm =>
  cases (show u = Value.ref a from rx)
  obtain ⟨mA,O,_⟩:=k1e I.hok ea
  obtain ⟨od,J,_⟩:=O.look
  exact PySem.W.kia_one (PySem.W.kitx_own (cl.get _) cl.hd ha hn htk hm) I.kIn J e (fun z=>nomatch z) h
end
structure Room (k:Nat) (A:Around):Prop where
 hd:A.handled = none
 dp:A.depth + 3 * k + 5 < recursionLimit
 un:A.units + 16 * k + 200 < cLine
theorem Room.mono {j k:Nat} {A:Around} (r:Room k A) (h:j ≤ k):Room j A:=⟨r.hd,by have:=r.dp; omega,by have:=r.un; omega⟩
theorem Room.deeper {k:Nat} {A:Around} (r:Room (k + 1) A) (env:Env):Room k (A.deeper env) :=
 ⟨r.hd,by have:=r.dp; show A.depth + 1 + 3 * k + 5 < _; omega,by have:=r.un; show A.units + 3 + 16 * k + 200 < _; omega⟩
theorem Room.in1 {k:Nat} {A:Around} (r:Room (k + 1) A):Room k A.in1 :=
 ⟨r.hd,by have:=r.dp; show A.depth + 3 * k + 5 < _; omega,by have:=r.un; show A.units + 1 + 16 * k + 200 < _; omega⟩
theorem x0z {A:Around} {C:Addr} {us:List Value} {kw:List (Str × Value)}:(A.under (.builtin "type.__call__" ⟨.ref C :: us,kw⟩)).depth = A.depth + 1:=by
 first | rfl | simp [Around.under,Code.weight,Code.isCreation,Code.isGuard,Code.isCaller,Code.frames,Code.isFrame,guardIds]
theorem x0y {A:Around} {C:Addr} {us:List Value} {kw:List (Str × Value)}:(A.under (.builtin "type.__call__" ⟨.ref C :: us,kw⟩)).units = A.units + 1:=by
 first | rfl | simp [Around.under,Code.cUnits,Code.frames,Code.isFrame]
theorem Room.make {k:Nat} {A:Around} (r:Room (k + 1) A) (C:Addr) (us:List Value) (kw:List (Str × Value)):Room k (A.under (.builtin "type.__call__" ⟨.ref C :: us,kw⟩)) :=
 ⟨r.hd,by have:=r.dp; rw [x0z]; omega,by have:=r.un; rw [x0y]; omega⟩
theorem Room.depth {k:Nat} {A:Around} (r:Room k A):A.depth < recursionLimit:=by have:=r.dp; omega
theorem Room.units {k:Nat} {A:Around} (r:Room k A):A.units + 64 < cLine:=by have:=r.un; omega
def tNil:TA:=fun _ H Q=>Q [] H
def z0h (ta:TE) (tr:TA):TA:=fun σ H Q=>ta σ H fun x H1=>tr σ H1 fun xs H2=>Q (x :: xs) H2
section
variable {X:Cx} {e:Expr} {es:List Expr} {te:TE} {t:TA} {pos:Pos}
theorem a0e:PA X [] tNil:=fun _ _ _ _ H Q I h=>Calls.spliced_nil ⟨[],H,I,.nil,h⟩
theorem a0c (ha:PE X e te) (hr:PA X es t) (hs:starEach (e :: es) X.env = (false,eval e X.env) :: starEach es X.env:=by rfl):PA X (e :: es) (z0h te t):=by
 intro pos pins s σ H Q I h
 rw [hs]
 show wpAny _ _ (spliced ((false,eval e X.env) :: backTo pos (starEach es X.env))) _ _ s
 refine Calls.spliced_cons (thn (ha pins s σ H _ I h) fun u s1 ⟨x,H1,I1,r1,q1⟩=>?_)
 exact thn (hr pos pins s1 σ H1 _ I1 q1) fun us s2 ⟨xs,H2,I2,r2,q2⟩=>⟨x :: xs,H2,I2,.cons r1 r2,q2⟩
def tTup (t:TA):TE:=fun σ H Q=>t σ H fun xs H1=>xs.length ≤ sizeLine∧∀ p,H1 p = none→Q (.ref p) (upd H1 p (.tup xs))
def tLst (t:TA):TE:=fun σ H Q=>t σ H fun xs H1=>xs.length ≤ sizeLine∧∀ p,H1 p = none→Q (.ref p) (upd H1 p (.lst xs))
theorem r0d {x1} (h:PA X es t):PE X (.Tuple es x1 pos) (tTup t):=by
 intro pins s σ H Q I hq
 refine wpAny_Tuple_spliced (thn (h pos pins s σ H _ I hq) fun us s1 ⟨xs,H1,I1,r,z,q⟩=>⟨by rw [← r.length]; exact z,?_⟩)
 have hf:H1 s1.heap.objs.size = none:=I1.hok.fresh (Nat.le_refl _)
 refine ⟨.ref s1.heap.objs.size,upd H1 s1.heap.objs.size (.tup xs),I1.laid (t':=s1.toks) (fun b u e=>Heap.get?_push_of_some _ e) (Nat.le_refl _) ?_,rfl,q _ hf⟩
 exact ⟨z,us,r,⟨_,Heap.get?_push_size _ rfl,rfl,_,rfl⟩⟩
theorem c0f (h:PA X es t):PE X (.List es pos) (tLst t):=by
 intro pins s σ H Q I hq
 refine wpAny_List_spliced (thn (h pos pins s σ H _ I hq) fun us s1 ⟨xs,H1,I1,r,z,q⟩=>⟨by rw [← r.length]; exact z,?_⟩)
 have hf:H1 s1.heap.objs.size = none:=I1.hok.fresh (Nat.le_refl _)
 refine ⟨.ref s1.heap.objs.size,upd H1 s1.heap.objs.size (.lst xs),I1.laid (t':=s1.toks) (fun b u e=>Heap.get?_push_of_some _ e) (Nat.le_refl _) ?_,rfl,q _ hf⟩
 exact ⟨z,us,0,r,Heap.get?_push_size _ rfl⟩
end
abbrev Sp:=List V→Hp→VK→XK→Prop
abbrev CXT:=List Env→Hp→Shared→XK→Value→Shared→Prop
structure Env0 (P:Program) (w:World) (K:PySem.W.Frag) (mg:Str→Option Value) (base:Heap) (A:Around) (outer:List Env) (s:Shared) (H:Hp):Prop where
 frames:A.frames = some outer
 mod:Mod K mg base
 bs:∀ b o,base.get? b = some o→s.heap.get? b = some o∧H b = none
 bsz:base.objs.size ≤ s.heap.objs.size
 funs:s.heap.FunFrames base outer
 frf:∀ b ∈ frs outer,H b = none
 hok:HOk P w H s.heap
 bare:AllBare s.gens
def CE (outer:List Env) (P:Program) (w:World) (H:Hp) (s:Shared) (Q:VK) (u:Value) (s':Shared):Prop :=
 ∃ v H',s'.os = s.os∧AllBare s'.gens∧Un (frs outer) [] H H' s.heap s'.heap∧HOk P w H' s'.heap∧RelV v u∧Q v H'
def CR (CX:CXT) (outer:List Env) (P:Program) (w:World) (H:Hp) (s:Shared) (Q:VK) (E:XK) (r:Result) (s':Shared):Prop :=
 match r with
 | .ok (.ret u)=>CE outer P w H s Q u s'
 | .ok _=>False
 | .error e=>CX outer H s E e s'
structure FnOk (P:Program) (w:World) (K:PySem.W.Frag) (mg:Str→Option Value) (base:Heap) (CX:CXT) (k:Nat) (f:Addr) (fd:FuncData) (ps:List Str) (sp:Sp):Prop where
 len:∀ vs H Q E,sp vs H Q E→vs.length = ps.length
 run:∀ (A:Around) (outer:List Env) (s:Shared) (H:Hp) (args:Args) (us:List Value) (vs:List V) (Q:VK) (E:XK),Room k A→Env0 P w K mg base A outer s H→BindsTo s fd args (ps.zip us)→Vals vs us→sp vs H Q E →
  codeAny (model P w) A (.call (.ref f) args) (CR CX outer P w H s Q E) s
theorem FnOk.mono {P:Program} {w:World} {K:PySem.W.Frag} {mg:Str→Option Value} {base:Heap} {CX:CXT} {j k:Nat} {f:Addr} {fd:FuncData} {ps:List Str} {sp:Sp} (F:FnOk P w K mg base CX j f fd ps sp) (h:j ≤ k) :
  FnOk P w K mg base CX k f fd ps sp:=⟨F.len,fun A outer s H args us vs Q E hr=>F.run A outer s H args us vs Q E (hr.mono h)⟩
theorem FnOk.imp {P:Program} {w:World} {K:PySem.W.Frag} {mg:Str→Option Value} {base:Heap} {CX:CXT} {k:Nat} {f:Addr} {fd:FuncData} {ps:List Str} {sp sp':Sp} (F:FnOk P w K mg base CX k f fd ps sp)
  (h:∀ vs H Q E,sp' vs H Q E→sp vs H Q E):FnOk P w K mg base CX k f fd ps sp' :=
 ⟨fun vs H Q E q=>F.len vs H Q E (h _ _ _ _ q),fun A outer s H args us vs Q E hr he hb hv hs=>F.run A outer s H args us vs Q E hr he hb hv (h _ _ _ _ hs)⟩
theorem Env0.make {P:Program} {w:World} {K:PySem.W.Frag} {mg:Str→Option Value} {base:Heap} {A:Around} {outer:List Env} {s:Shared} {H:Hp} (e:Env0 P w K mg base A outer s H) (C:Addr) (us:List Value) (kw:List (Str × Value)) :
  Env0 P w K mg base (A.under (.builtin "type.__call__" ⟨.ref C :: us,kw⟩)) outer s H:=⟨by first | exact e.frames | (simpa [Around.under,Code.envs,Code.isFrame,pushEnvs] using e.frames),e.mod,e.bs,e.bsz,e.funs,e.frf,e.hok,e.bare⟩
theorem Env0.in1 {P:Program} {w:World} {K:PySem.W.Frag} {mg:Str→Option Value} {base:Heap} {A:Around} {outer:List Env} {s:Shared} {H:Hp} (e:Env0 P w K mg base A outer s H) :
  Env0 P w K mg base A.in1 outer s H:=⟨e.frames,e.mod,e.bs,e.bsz,e.funs,e.frf,e.hok,e.bare⟩
section
variable {X:Cx} {pins:List (Addr × Obj)} {σ:St} {H:Hp} {s s':Shared}
theorem Inv.env0 (I:Inv X pins σ H s):Env0 X.prog X.w X.K X.mg X.base X.A X.stack s H :=
 ⟨I.ok.frames,I.ok.mod,I.bs,Nat.le_trans I.ok.bsz I.sz,I.stack,I.stkFree,I.hok,I.bare⟩
theorem Inv.after {Q:VK} {u:Value} (I:Inv X pins σ H s) (h:CE X.stack X.prog X.w H s Q u s'):EP X pins σ Q u s':=by
 obtain ⟨v,H',os,bare,un,hok,r,q⟩:=h
 obtain ⟨hh,g,d,t,os'⟩:=s'
 obtain rfl:os' = s.os:=os
 exact ⟨v,H',I.call (h':=hh) (g':=g) (d':=d) (t':=t) (ch:=[]) un hok bare (fun b z=>absurd z (by simp)),r,q⟩
end
def p0g (sp:Sp) (dvs:List V) (E:XK) (t:TA):TE:=fun σ H Q=>t σ H fun vs H1=>sp (vs ++ dvs) H1 Q E
def n0s (K:PySem.W.Frag) (fd:FuncData) (ps:List Str) (ds:List Value):Prop :=
 ∀ (s:Shared) (us:List Value),K.In s.heap→(us ++ ds).length = ps.length→BindsTo s fd ⟨us,[]⟩ (ps.zip (us ++ ds))
theorem n0s.all {K:PySem.W.Frag} {fd:FuncData} {ps:List Str} (h:∀ us:List Value,us.length = ps.length→bindArgs fd ⟨us,[]⟩ = pure (ps.zip us)):n0s K fd ps []:=fun s us _ hl=>by
 rw [List.append_nil] at hl ⊢
 exact .of_eq (h us hl)
def n0j (CX:CXT) (X:Cx) (E:XK):Prop:=∀ (pins:List (Addr × Obj)) (σ:St) (H:Hp) (s:Shared) (e:Value) (s':Shared),Inv X pins σ H s→CX X.stack H s E e s'→X.xe e s'
section
variable {X:Cx} {CX:CXT} {k:Nat} {f C:Addr} {fd:FuncData} {ps:List Str} {sp:Sp} {dvs:List V} {ds:List Value} {E:XK} {x m:Str} {p pos apos:Pos} {e o:Expr} {es:List Expr} {ta:TE} {t:TA}
theorem h1d {pins:List (Addr × Obj)} {σ:St} {H:Hp} {s:Shared} {Q:VK} {us:List Value} {vs:List V} (F:FnOk X.prog X.w X.K X.mg X.base CX k f fd ps sp) (hr:Room k X.A) (hb:n0s X.K fd ps ds) (hd:Vals dvs ds) (hx:n0j CX X E)
  (I:Inv X pins σ H s) (r:Vals vs us) (h:sp (vs ++ dvs) H Q E):wpAny (model X.prog X.w) X.A (call (.ref f) us) (EP X pins σ Q) X.xe s:=by
 have r2:Vals (vs ++ dvs) (us ++ ds):=r.append hd
 have hl:(us ++ ds).length = ps.length:=by rw [← r2.length]; exact F.len _ _ _ _ h
 refine wpAny_call (codeAny_mono (F.run X.A X.stack s H ⟨us,[]⟩ (us ++ ds) (vs ++ dvs) Q E hr I.env0 (hb s us I.kIn hl) r2 h) fun r s' hq=>?_)
 cases r with
 | error e=>exact hx pins σ H s e s' I hq
 | ok fl =>
  cases fl with
  | ret u=>exact I.after hq
  | next=>exact False.elim hq
  | brk=>exact False.elim hq
  | cont=>exact False.elim hq
theorem t0r (F:FnOk X.prog X.w X.K X.mg X.base CX k f fd ps sp) (hr:Room k X.A) (hg:Gl X x) (hm:X.mg x = some (.ref f)) (hk:PySem.W.keepIn X.K (.ref f) = true) (hb:n0s X.K fd ps ds) (hd:Vals dvs ds) (hx:n0j CX X E)
  (ha:PA X (e :: es) t) (hdb:(x == ("__debug__" : Str)) = false:=by decide) (he:starEach (e :: es) X.env = (false,eval e X.env) :: starEach es X.env:=by rfl) (hpl:(backTo pos (starEach es X.env)).any (·.1) = false:=by rfl) :
  PE X (.Call (.Name x p) (e :: es) [] pos) (p0g sp dvs E t):=by
 intro pins s σ H Q I h
 refine wpAny_Call_Name_kw (j0f I hg hm ?_ hdb)
 refine PySem.W.callWith_K (h₀:=X.base) I.ok.mod.kin hk (thn (ha pos pins s σ H _ I h) fun us s1 ⟨vs,H1,I1,r,q⟩=>⟨I1.kIn,?_⟩) he hpl
 exact h1d F hr hb hd hx I1 r q
theorem e1q (F:FnOk X.prog X.w X.K X.mg X.base CX k f fd ps sp) (hr:Room k X.A) (hg:Gl X x) (hm:X.mg x = some (.ref f)) (hk:PySem.W.keepIn X.K (.ref f) = true) (hb:n0s X.K fd ps ds) (hd:Vals dvs ds) (hx:n0j CX X E)
  (hdb:(x == ("__debug__" : Str)) = false:=by decide):PE X (.Call (.Name x p) [] [] pos) (p0g sp dvs E tNil):=by
 intro pins s σ H Q I h
 refine wpAny_Call_Name_kw (j0f I hg hm ?_ hdb)
 exact PySem.W.callWith_K0 I.kIn hk (h1d (us:=[]) F hr hb hd hx I .nil h)
end
structure b0a (N P:List Str) (sc:Scope):Prop where
 kind:sc.kind = .function
 co:sc.isCoroutine = false
 gen:sc.isGenerator = false
 nd:N.Nodup
 pre:N.take P.length = P
 par:∀ x ∈ P,sc.names.lookup x = some .local ∨ sc.names.lookup x = some .cell
 nofree:∀ y ∈ sc.names,y.2 ≠ .free
theorem s0z {kindOf:Str→Option NameKind} {x:Str}:∀ {binds:List (Str × Value)} {m:Str→Option Value},(∀ v,(x,v) ∉ binds)→bindL kindOf binds m x = m x
 | [],_,_=>rfl
 | (n,v) :: r,m,h=>by
  unfold bindL
  rw [s0z fun w hw=>h w (List.mem_cons_of_mem _ hw)]
  split
  ·have:x ≠ n:=by rintro rfl; exact h v List.mem_cons_self
   simp [this]
  ·rfl
theorem t0b {kindOf:Str→Option NameKind} {x:Str}:∀ {binds:List (Str × Value)} {m:Str→Option Value},(∀ v,(x,v) ∉ binds)→bindC kindOf binds m x = m x
 | [],_,_=>rfl
 | (n,v) :: r,m,h=>by
  unfold bindC
  rw [t0b fun w hw=>h w (List.mem_cons_of_mem _ hw)]
  split
  ·rfl
  ·have:x ≠ n:=by rintro rfl; exact h v List.mem_cons_self
   simp [this]
theorem t0a {kindOf:Str→Option NameKind} {x:Str} {v:Value}:∀ {P:List Str} {vs:List Value} {i:Nat} {m:Str→Option Value},P.Nodup→P[i]? = some x→vs[i]? = some v→kindOf x = some .local →
  bindL kindOf (P.zip vs) m x = some v
 | [],_,_,_,_,h,_,_=>by simp at h
 | _ :: _,[],_,_,_,_,h,_=>by simp at h
 | p :: P,w :: vs,0,m,nd,h1,h2,hk=>by
  simp at h1 h2; subst h1; subst h2
  show bindL kindOf ((p,w) :: P.zip vs) m p = _
  unfold bindL
  rw [s0z fun v hv=>(List.nodup_cons.mp nd).1 (List.of_mem_zip hv).1,if_pos hk]
  simp
 | p :: P,w :: vs,i + 1,m,nd,h1,h2,hk=>by
  show bindL kindOf ((p,w) :: P.zip vs) m x = _
  unfold bindL
  exact t0a (i:=i) (List.nodup_cons.mp nd).2 (by simpa using h1) (by simpa using h2) hk
theorem t0c {kindOf:Str→Option NameKind} {x:Str} {v:Value}:∀ {P:List Str} {vs:List Value} {i:Nat} {m:Str→Option Value},P.Nodup→P[i]? = some x→vs[i]? = some v→kindOf x ≠ some .local →
  bindC kindOf (P.zip vs) m x = some v
 | [],_,_,_,_,h,_,_=>by simp at h
 | _ :: _,[],_,_,_,_,h,_=>by simp at h
 | p :: P,w :: vs,0,m,nd,h1,h2,hk=>by
  simp at h1 h2; subst h1; subst h2
  show bindC kindOf ((p,w) :: P.zip vs) m p = _
  unfold bindC
  rw [t0b fun v hv=>(List.nodup_cons.mp nd).1 (List.of_mem_zip hv).1,if_neg hk]
  simp
 | p :: P,w :: vs,i + 1,m,nd,h1,h2,hk=>by
  show bindC kindOf ((p,w) :: P.zip vs) m x = _
  unfold bindC
  exact t0c (i:=i) (List.nodup_cons.mp nd).2 (by simpa using h1) (by simpa using h2) hk
def m0h (N:List Str) (vs:List V):St:=vs.map some ++ List.replicate (N.length - vs.length) none
def cxOf (CX:CXT) (P:Program) (w:World) (K:PySem.W.Frag) (mg:Str→Option Value) (base:Heap) (N:List Str) (qual:Str) (scope:Scope) (f:Addr) (cd:Value) (A:Around) (outer:List Env) (s:Shared) (H:Hp) (E:XK):Cx where
 prog:=P
 w:=w
 K:=K
 mg:=mg
 base:=base
 A:=A.deeper (envOfC qual scope s.heap.objs.size f cd)
 N:=N
 s₀:=s
 H₀:=H
 env:=envOfC qual scope s.heap.objs.size f cd
 outer:=outer
 stack:=envOfC qual scope s.heap.objs.size f cd :: outer
 ex:=[]
 calm:=true
 fn:=fun _=>true
 pn:=[]
 xe:=fun e s'=>wpAny (model P w) (A.deeper (envOfC qual scope s.heap.objs.size f cd)) (leaving (envOfC qual scope s.heap.objs.size f cd) e) (fun _ s''=>CX outer H s E e s'') (fun e' s''=>CX outer H s E e' s'') s'
theorem w0x {sc:Scope} {n:Nat} {x:Str} (h:sc.names.lookup x = some .cell):∃ c,(cellsFrom n sc.names []).lookup x = some c:=by
 have q:=PySem.W.cellsFrom_some sc.names n [] (.inl h)
 exact Option.isSome_iff_exists.mp q
theorem b1o {CX:CXT} {P:Program} {w:World} {K:PySem.W.Frag} {mg:Str→Option Value} {base:Heap} {N ps:List Str} {qual:Str} {scope:Scope} {f:Addr} {cd:Value} {A:Around} {outer:List Env} {s s1:Shared} {H:Hp} {E:XK} {us:List Value} {vs:List V}
  (S:b0a N ps scope) (hd:A.handled = none) (e0:Env0 P w K mg base A outer s H) (hl:vs.length = ps.length) (r:Vals vs us)
  (x:InCallC s s.heap.objs.size (bindL (envOfC qual scope s.heap.objs.size f cd).kindOf (ps.zip us) fun _=>none) (cellsFrom (s.heap.objs.size + 1) scope.names []) (bindC (envOfC qual scope s.heap.objs.size f cd).kindOf (ps.zip us) fun _=>none) s1) :
  Inv (cxOf CX P w K mg base N qual scope f cd A outer s H E) [] (m0h N vs) H s1:=by
 have hpl:ps.length ≤ N.length:=by have:=congrArg List.length S.pre; rw [List.length_take] at this; omega
 obtain ⟨h1,tk,rfl,hk⟩:=x.done
 have noA:∀ b:Addr,b ∉ (cxOf CX P w K mg base N qual scope f cd A outer s H E).ex:=fun b z=>absurd (show b ∈ ([]:List Addr) from z) (by simp)
 refine ⟨⟨e0.mod,S.kind,rfl,rfl,Nat.le_refl _,fun y z c h1 h2=>?_,fun y hy=>?_,fun y c _ h=>?_,fun _=>hd,Around.frames_deeper e0.frames,.inr ⟨rfl,rfl⟩,fun b z=>absurd z (noA b),e0.bs,e0.bsz,fun b _ _=>noA b,fun b z=>absurd z (noA b),e0.funs,e0.frf⟩,
  rfl,e0.bare,Un.kept hk,⟨_,x.toInCall.ns,fun i y v h1 h2 h3=>?_⟩,fun y c h=>⟨_,x.cell y c h⟩,e0.hok.fresh (Nat.le_refl _),fun y c h=>?_,fun p hp=>absurd (show p ∈ ([]:List (Addr × Obj)) from hp) (by simp),e0.hok.kept hk,?_⟩
 ·exact name_of_addr x.apart (PySem.mem_of_lookup h1) (PySem.mem_of_lookup h2)
 ·have hy:scope.names.lookup y = some .cell ∨ scope.names.lookup y = some .free:=hy
  rcases hy with hy | hy
  ·exact w0x hy
  ·exact absurd rfl (S.nofree _ (PySem.mem_of_lookup hy))
 ·exact Nat.le_of_lt (x.above y c (PySem.mem_of_lookup h))
 ·have hi:i < vs.length:=by
   unfold m0h at h2
   by_cases hi:i < vs.length
   ·exact hi
   ·rw [List.getElem?_append_right (by simpa using hi)] at h2
    rw [List.getElem?_replicate] at h2
    split at h2 <;> cases h2
  have ha:vs[i]? = some v:=by
   unfold m0h at h2
   rw [List.getElem?_append_left (by simpa using hi),List.getElem?_map] at h2
   cases e:vs[i]? with
   | none=>rw [e] at h2; cases h2
   | some a=>rw [e] at h2; cases h2; rfl
  obtain ⟨u,hu,rv⟩:=r.get ha
  have hp:ps[i]? = some y:=by
   rw [← S.pre,List.getElem?_take_of_lt (by omega)]; exact h1
  have ndP:ps.Nodup:=by rw [← S.pre]; exact S.nd.sublist (List.take_sublist _ _)
  refine ⟨u,rv,?_⟩
  rcases S.par y (List.mem_of_getElem? hp) with k | k
  ·exact .inl ⟨k,t0a ndP hp hu k⟩
  ·obtain ⟨c,e⟩:=w0x (n:=s.heap.objs.size + 1) k
   refine .inr ⟨.inl k,c,e,?_⟩
   have q:=x.cell y c e
   rw [t0c ndP hp hu (by show scope.names.lookup y ≠ _; rw [k]; decide)] at q
   exact q
 ·exact e0.hok.fresh (Nat.le_of_lt (x.above y c (PySem.mem_of_lookup h)))
 ·unfold m0h
  show _ = N.length
  rw [List.length_append,List.length_map,List.length_replicate]
  omega
theorem o1b {CX:CXT} {P:Program} {w:World} {K:PySem.W.Frag} {mg:Str→Option Value} {base:Heap} {k:Nat} {f:Addr} {name qual:Str} {params:Arguments} {body:List Stmt} {scope:Scope} {dV kV doc pm cdv ct oc:Value} {an od:Option Addr}
  {osl:Array (Option Value)} {N ps:List Str} {sp:Sp} (lk:K.lookup f = some ⟨oc,od,.func (PySem.W.fnOf name qual params body scope dV kV doc pm an cdv ct),osl⟩) (hcd:PySem.W.codeIn K cdv qual = true) (S:b0a N ps scope)
  (len:∀ vs H Q E,sp vs H Q E→vs.length = ps.length)
  (hbody:∀ (A:Around) (outer:List Env) (s:Shared) (H:Hp) (vs:List V) (Q:VK) (E:XK),Room k (A.deeper (envOfC qual scope s.heap.objs.size f cdv))→sp vs H Q E →
   ∃ t,PSs (cxOf CX P w K mg base N qual scope f cdv A outer s H E) body t∧t { nx:=fun _ H'=>Q .non H',rt:=Q } (m0h N vs) H) :
  FnOk P w K mg base CX (k + 1) f (PySem.W.fnOf name qual params body scope dV kV doc pm an cdv ct) ps sp:=by
 refine ⟨len,fun A outer s H args us vs Q E hr e0 hb r hsp=>?_⟩
 have hl:=len _ _ _ _ hsp
 have KX:K.In s.heap:=e0.mod.kin.keeps fun b o e=>(e0.bs b o e).1
 have lim:s.heap.NoLimit:=e0.mod.nolimit.keeps fun b o e=>(e0.bs b o e).1
 have hkind:∀ y ∈ ps.zip us,scope.names.lookup y.1 = some .local ∨ (scope.names.lookup y.1 = some .cell∧((cellsFrom (s.heap.objs.size + 1) scope.names []).lookup y.1).isSome = true):=fun ⟨n,v⟩ hy=>by
  rcases S.par n (List.of_mem_zip hy).1 with q | q
  ·exact .inl q
  ·exact .inr ⟨q,PySem.W.cellsFrom_some _ _ _ (.inl q)⟩
 refine codeAny_call_function hr.depth (KX _ _ lk) rfl S.co S.gen rfl (PySem.W.codeRec_of KX hcd) (hb _ _ _ _ ?_)
 refine wpAny_newFunctionEnv_cells S.kind hkind fun env he s1 x=>?_
 subst he
 refine ⟨lim.keeps x.toInCall.keep,codeAny_func ?_⟩
 obtain ⟨t,ht,hq⟩:=hbody A outer s H vs Q E (hr.deeper _) hsp
 have I:Inv (cxOf CX P w K mg base N qual scope f cdv A outer s H E) [] (m0h N vs) H s1:=b1o S hr.hd e0 hl r x
 refine wpAny_mono (ht [] s1 (m0h N vs) H _ I hq) (fun fl s' hs=>?_) fun e s' hs=>hs
 have fin:∀ {σ':St} {H':Hp} {v:V} {u:Value},Inv (cxOf CX P w K mg base N qual scope f cdv A outer s H E) [] σ' H' s'→RelV v u→Q v H'→CE outer P w H s Q u s' :=
  fun {σ' H' v u} J rv q=>⟨v,H',J.os,J.bare,J.base,J.hok,rv,q⟩
 cases fl with
 | ret u =>
  obtain ⟨v,σ',H',J,rv,q⟩:=hs
  exact fin J rv q
 | next =>
  obtain ⟨σ',H',J,q⟩:=hs
  exact fin (v:=V.non) (u:=Value.none) J rfl q
 | brk =>
  obtain ⟨_,_,_,q⟩:=hs
  exact False.elim q
 | cont =>
  obtain ⟨_,_,_,q⟩:=hs
  exact False.elim q
section
variable {X:Cx} {x:Str} {p pos:Pos} {e:Expr} {es:List Expr} {t:TA} {id T:String} {r:List V→Hp→VK→Prop}
def tCB (r:List V→Hp→VK→Prop) (t:TA):TE:=fun σ H Q=>t σ H fun vs H1=>r vs H1 Q
theorem a0r (hc:g0l X (.builtin id) r) (hg:Gl X x) (hm:X.mg x = none) (hv:bootBuiltins x = some (.builtin id)) (ha:PA X (e :: es) t) (hn:x ≠ "__name__" := by decide) (hdb:(x == ("__debug__" : Str)) = false:=by decide)
  (he:starEach (e :: es) X.env = (false,eval e X.env) :: starEach es X.env:=by rfl) (hpl:(backTo pos (starEach es X.env)).any (·.1) = false:=by rfl):PE X (.Call (.Name x p) (e :: es) [] pos) (tCB r t):=by
 intro pins s σ H Q I h
 refine wpAny_Call_Name_kw (l0g I hg hm hv ?_ hn hdb)
 exact PyProof.Rows.callWith_builtin1 (thn (ha pos pins s σ H _ I h) fun us s1 ⟨vs,H1,I1,r1,q1⟩=>hc pins s1 σ H1 vs us Q I1 r1 q1) he hpl
theorem c0o (hc:g0l X (.type T) r) (hg:Gl X x) (hm:X.mg x = none) (hv:bootBuiltins x = some (.type T)) (ha:PA X (e :: es) t) (hn:x ≠ "__name__" := by decide) (hdb:(x == ("__debug__" : Str)) = false:=by decide)
  (he:starEach (e :: es) X.env = (false,eval e X.env) :: starEach es X.env:=by rfl) (hpl:(backTo pos (starEach es X.env)).any (·.1) = false:=by rfl):PE X (.Call (.Name x p) (e :: es) [] pos) (tCB r t):=by
 intro pins s σ H Q I h
 refine wpAny_Call_Name_kw (l0g I hg hm hv ?_ hn hdb)
 exact PyProof.Rows.callWith_type1 (thn (ha pos pins s σ H _ I h) fun us s1 ⟨vs,H1,I1,r1,q1⟩=>hc pins s1 σ H1 vs us Q I1 r1 q1) he hpl
end
end L2
namespace HT
open PySem PyProof.Rows
section
variable {prog:Program} {w:World} {A:Around} {E:Value→Shared→Prop} {s:Shared}
def sIx (n d:Nat):Option Int→Nat
 | none=>d
 | some v=>if v < 0 then (v + (n:Int)).toNat else min v.toNat n
theorem sIx_nat (n d k:Nat):sIx n d (some (k:Int)) = min k n:=by
 show (if (k:Int) < 0 then ((k:Int) + (n:Int)).toNat else min (k:Int).toNat n) = min k n
 rw [if_neg (by omega),Int.toNat_natCast]
end
end HT
namespace L2
open PySem PySem.Spec PyProof.Rows
abbrev TO:=St→Hp→(Option Int→Hp→Prop)→Prop
def PO (X:Cx) (e:Option Expr) (t:TO):Prop :=
 ∀ (pins:List (Addr × Obj)) (s:Shared) (σ:St) (H:Hp) (Q:Option Int→Hp→Prop),Inv X pins σ H s→t σ H Q →
  wpAny (model X.prog X.w) X.A (evalPart e X.env) (fun u s'=>∃ o H',Inv X pins σ H' s'∧IsPart u o∧Q o H') X.xe s
def tNoPart:TO:=fun _ H Q=>Q none H
def l1y (t:TE):TO:=fun σ H Q=>t σ H fun x H1=>∃ i,x = .int i∧Q (some i) H1
theorem y0d {ns:List Int}:∀ {us:List Value},Vals (ns.map V.int) us→IntsAre us ns:=by
 induction ns with
 | nil=>intro us r; rw [List.map_nil] at r; cases r; exact .nil
 | cons n ns ih =>
  intro us r
  rw [List.map_cons] at r
  cases r with
  | cons r1 r2 =>
   obtain ⟨t,e⟩:=r1
   subst e
   exact .cons n t (ih r2)
section
variable {X:Cx} {e:Expr} {te:TE} {lo hi:Option Expr} {tl th:TO} {pos p2:Pos}
theorem d0j:PO X none tNoPart:=by
 intro pins s σ H Q I h
 rw [evalPart_none]
 exact wpAny_pure ⟨none,H,I,.none,h⟩
theorem d0i (h:PE X e te):PO X (some e) (l1y te):=by
 intro pins s σ H Q I hw
 rw [evalPart_some]
 refine thn (h pins s σ H _ I hw) fun u s1 ⟨x,H1,I1,r1,q1⟩=>?_
 obtain ⟨i,rfl,q⟩:=q1
 obtain ⟨t,rfl⟩:=r1
 exact ⟨some i,H1,I1,.int i t,q⟩
def SlR (X:Cx) (r:V→Option Int→Option Int→Hp→VK→Prop):Prop :=
 ∀ (pins:List (Addr × Obj)) (s:Shared) (σ:St) (H:Hp) (x:V) (v vl vu:Value) (lo hi:Option Int) (sl:Addr) (Q:VK),Inv X pins σ H s→RelV x v→s.heap.IsSliceOf sl vl vu .none→IsPart vl lo→IsPart vu hi→r x lo hi H Q →
  ∃ T id,typeLookup (.type T) "__getitem__" = pure (some (.builtin id))∧s.TypeIs v T∧wpAny (model X.prog X.w) X.A (getItem v (.ref sl)) (EP X pins σ Q) X.xe s
theorem SlR.or {r r':V→Option Int→Option Int→Hp→VK→Prop} (h:SlR X r) (h':SlR X r'):SlR X (fun x lo hi H Q=>r x lo hi H Q ∨ r' x lo hi H Q):=by
 intro pins s σ H x v vl vu lo hi sl Q I rx hs pl pu q
 rcases q with q | q
 ·exact h pins s σ H x v vl vu lo hi sl Q I rx hs pl pu q
 ·exact h' pins s σ H x v vl vu lo hi sl Q I rx hs pl pu q
def tSl (r:V→Option Int→Option Int→Hp→VK→Prop) (te:TE) (tl th:TO):TE:=fun σ H Q=>te σ H fun x H1=>tl σ H1 fun l H2=>th σ H2 fun u H3=>r x l u H3 Q
theorem c0h {r:V→Option Int→Option Int→Hp→VK→Prop} (hr:SlR X r) (he:PE X e te) (hl:PO X lo tl) (hu:PO X hi th):PE X (.Subscript e (.Slice lo hi none p2) pos) (tSl r te tl th):=by
 intro pins s σ H Q I h
 refine Subscript_ (thn (he pins s σ H _ I h) fun v s1 ⟨x,H1,I1,r1,q1⟩=>?_)
 refine wpAny_Slice (thn (hl pins s1 σ H1 _ I1 q1) fun vl s2 ⟨l,H2,I2,pl,q2⟩=>thn (hu pins s2 σ H2 _ I2 q2) fun vu s3 ⟨u,H3,I3,pu,q3⟩=>?_)
 rw [evalPart_none]
 refine wpAny_pure ?_
 have I4:Inv X pins σ H3 { s3 with heap:=s3.heap.push { cls:=.type "slice",data:=.fields #[vl,vu,.none] } }:=I3.kept (t':=s3.toks) fun b ob q=>Heap.get?_push_of_some _ q
 obtain ⟨T,id,hT,ht,hg⟩:=hr pins { s3 with heap:=s3.heap.push { cls:=.type "slice",data:=.fields #[vl,vu,.none] } } σ H3 x v vl vu l u s3.heap.objs.size Q I4 r1 (Heap.IsSliceOf.new ..) pl pu q3
 show wpAny (model X.prog X.w) X.A (subscriptTail e (.Slice lo hi none p2) v (.ref s3.heap.objs.size)) (EP X pins σ Q) X.xe { s3 with heap:=s3.heap.push { cls:=.type "slice",data:=.fields #[vl,vu,.none] } }
 exact tail_any (ops:=[.ref s3.heap.objs.size,v]) ht hT hg (by with_unfolding_all rfl)
def cutV (xs:List V) (lo hi:Option Int):List V:=(xs.drop (HT.sIx xs.length 0 lo)).take (HT.sIx xs.length xs.length hi - HT.sIx xs.length 0 lo)
theorem v0a (xs:List V) (lo hi:Option Int):(cutV xs lo hi).length ≤ xs.length:=by
 unfold cutV
 rw [List.length_take,List.length_drop]
 omega
end
def ixN (n:Nat) (i:Int):Option Nat:=if 0 ≤ i then (if i < n then some i.toNat else none) else if -(n:Int) ≤ i then some (i + n).toNat else none
def atI {α:Type} (xs:List α) (i:Int):Option α:=(ixN xs.length i).bind fun j=>xs[j]?
theorem k1c {n:Nat} {i:Int} {j:Nat} (h:ixN n i = some j):seqIndex? i n = some j∧j < n∧-(n:Int) ≤ i∧i < n:=by
 unfold ixN at h
 by_cases h0:0 ≤ i
 ·rw [if_pos h0] at h
  by_cases h1:i < n
  ·rw [if_pos h1] at h
   have e:i.toNat = j:=Option.some.inj h
   exact ⟨by rw [seqIndex_of h0 h1,e],by omega,by omega,h1⟩
  ·rw [if_neg h1] at h; cases h
 ·rw [if_neg h0] at h
  by_cases h1:-(n:Int) ≤ i
  ·rw [if_pos h1] at h
   have e:(i + n).toNat = j:=Option.some.inj h
   exact ⟨by rw [seqIndex_neg (by omega) h1,e],by omega,h1,by omega⟩
  ·rw [if_neg h1] at h; cases h
theorem v0f {α:Type} {xs:List α} {i:Int} {v:α} (h:atI xs i = some v):∃ j,seqIndex? i xs.length = some j∧xs[j]? = some v∧j < xs.length∧-(xs.length:Int) ≤ i∧i < xs.length:=by
 unfold atI at h
 cases e:ixN xs.length i with
 | none=>rw [e] at h; cases h
 | some j =>
  rw [e] at h
  obtain ⟨h1,h2,h3,h4⟩:=k1c e
  exact ⟨j,h1,h,h2,h3,h4⟩
theorem d1g {α:Type} {xs:List α} {j:Nat} {v:α} (h:xs[j]? = some v):atI xs (j:Int) = some v:=by
 have hj:j < xs.length:=(List.getElem?_eq_some_iff.mp h).1
 have e:ixN xs.length (j:Int) = some j:=by
  unfold ixN
  rw [if_pos (by omega),if_pos (by omega)]; simp
 unfold atI; rw [e]; exact h
def l1n (b:Expr):Prop:=∀ o i,subscripted b false o i = operate [o,i] (getItem o i)
def IxR (X:Cx) (r:R2):Prop :=
 ∀ (value slice:Expr) (pins:List (Addr × Obj)) (s:Shared) (σ:St) (H:Hp) (x y:V) (v u:Value) (Q:VK),Inv X pins σ H s→RelV x v→RelV y u→r x y H Q →
  subscripted slice false v u = operate [v,u] (getItem v u)→wpAny (model X.prog X.w) X.A (subscriptTail value slice v u) (EP X pins σ Q) X.xe s
def MtR (X:Cx) (id:String) (r:V→List V→Hp→VK→Prop):Prop :=
 ∀ (pins:List (Addr × Obj)) (s:Shared) (σ:St) (H:Hp) (x:V) (xs:List V) (v:Value) (us:List Value) (Q:VK),Inv X pins σ H s→RelV x v→Vals xs us→r x xs H Q →
  wpAny (model X.prog X.w) X.A (call (.builtin id) (v :: us)) (EP X pins σ Q) X.xe s
section
variable {X:Cx} {a b:Expr} {ta tb:TE} {pos:Pos}
theorem IxR.or {r r':R2} (h:IxR X r) (h':IxR X r'):IxR X (fun x y H Q=>r x y H Q ∨ r' x y H Q):=by
 intro value slice pins s σ H x y v u Q I rx ry q hs
 rcases q with q | q
 ·exact h value slice pins s σ H x y v u Q I rx ry q hs
 ·exact h' value slice pins s σ H x y v u Q I rx ry q hs
theorem MtR.or {id:String} {r r':V→List V→Hp→VK→Prop} (h:MtR X id r) (h':MtR X id r'):MtR X id (fun x xs H Q=>r x xs H Q ∨ r' x xs H Q):=by
 intro pins s σ H x xs v us Q I rx rs q
 rcases q with q | q
 ·exact h pins s σ H x xs v us Q I rx rs q
 ·exact h' pins s σ H x xs v us Q I rx rs q
theorem e0c {r:R2} (hr:IxR X r) (ha:PE X a ta) (hb:PE X b tb) (hs:l1n b):PE X (.Subscript a b pos) (tOp r ta tb):=by
 intro pins s σ H Q I h
 exact Subscript_ (binT ha hb I h fun v u s2 x y H2 I2 rx ry q=>hr a b pins s2 σ H2 x y v u Q I2 rx ry q (hs _ _))
def rIxL (K:PySem.W.Frag):R2:=fun x y H Q=>∃ p xs i v,x = .ref p∧y = .int i∧SqL K H p xs∧atI xs i = some v∧Q v H
def rIxT (K:PySem.W.Frag):R2:=fun x y H Q=>∃ p xs i v,x = .ref p∧y = .int i∧SqT K H p xs∧atI xs i = some v∧Q v H
def rIxS:R2:=fun x y H Q=>∃ z i c,x = .str z∧y = .int i∧z.length ≤ sizeLine∧atI z.cps.toList i = some c∧Q (.str ⟨#[c]⟩) H
theorem k1b:IxR X (rIxL X.K):=by
 intro value slice pins s σ H x y v u Q I rx ry h hs
 obtain ⟨p,xs,i,z,rfl,rfl,hq,he,q⟩:=h
 cases rx
 obtain ⟨t,rfl⟩:=ry
 obtain ⟨its,r,pl,hz⟩:=I.list hq
 obtain ⟨j,h1,h2,h3,h4,h5⟩:=v0f he
 obtain ⟨w,ew,rw'⟩:=r.get h2
 have hl:=r.length
 have hn:=m0y
 have fin:EP X pins σ Q w s:=⟨z,H,I,rw',q⟩
 by_cases h0:0 ≤ i
 ·have hj:i.toNat = j:=by
   rw [seqIndex_of h0 h5] at h1
   exact Option.some.inj h1
  exact item_listR pl.isList h0 (by omega) (by rw [hj]; simpa using ew) fin hs
 ·have hj:(i + (its.toArray.size:Int)).toNat = j:=by
   rw [seqIndex_neg (by omega) h4] at h1
   rw [List.size_toArray,← hl]
   exact Option.some.inj h1
  exact subscriptTail_builtinR (x:=w) pl.isList.typeIs slot_list_getitem.lookup
   (wpAny_getItem_list_neg (Q:=fun r s'=>r = w∧EP X pins σ Q r s') pl.isList (by omega) (by rw [List.size_toArray] <;> omega) (by omega) (by rw [hj]; simpa using ew) ⟨rfl,fin⟩) hs
theorem n1n:IxR X (rIxT X.K):=by
 intro value slice pins s σ H x y v u Q I rx ry h hs
 obtain ⟨p,xs,i,z,rfl,rfl,hq,he,q⟩:=h
 cases rx
 obtain ⟨t,rfl⟩:=ry
 obtain ⟨its,r,pl,hz⟩:=I.tuple hq
 obtain ⟨j,h1,h2,h3,h4,h5⟩:=v0f he
 obtain ⟨w,ew,rw'⟩:=r.get h2
 have hl:=r.length
 have hn:=m0y
 have fin:EP X pins σ Q w s:=⟨z,H,I,rw',q⟩
 exact subscriptTail_builtinR (x:=w) pl.typeIs slot_tuple_getitem.lookup
  (getItem_tuple (j:=j) (Q:=fun r s'=>r = w∧EP X pins σ Q r s') pl (by omega) (by omega) (by rw [List.size_toArray,← hl]; exact h1) (by simpa using ew) ⟨rfl,fin⟩) hs
theorem n1o:IxR X rIxS:=by
 intro value slice pins s σ H x y v u Q I rx ry h hs
 obtain ⟨z,i,c,rfl,rfl,hz,he,q⟩:=h
 obtain ⟨t,rfl⟩:=rx
 obtain ⟨t',rfl⟩:=ry
 obtain ⟨j,h1,h2,h3,h4,h5⟩:=v0f he
 have hl:z.cps.toList.length = z.length:=by simp [Str.length]
 rw [hl] at h1 h4 h5
 have hn:=m0y
 exact tail_any (typeIs_str s z t) slot_str_getitem.lookup (getItem_str (c:=c) (by
  have e1:decide (i < -(2 ^ 63:Int)) = false:=decide_eq_false (by omega)
  have e2:decide (i ≥ 2 ^ 63) = false:=decide_eq_false (by omega)
  rw [e1,e2,Bool.or_false]) (by rw [h1]; simpa using h2) ⟨.str ⟨#[c]⟩,H,I.tok _,⟨_,rfl⟩,q⟩) hs
def rIx (K:PySem.W.Frag):R2:=fun x y H Q=>rIxL K x y H Q ∨ rIxT K x y H Q ∨ rIxS x y H Q
theorem n1p:IxR X (rIx X.K):=k1b.or (n1n.or n1o)
theorem Inv.lst {pins:List (Addr × Obj)} {σ:St} {H:Hp} {s:Shared} {p:Addr} {xs:List V} (I:Inv X pins σ H s) (h:H p = some (.lst xs)) :
  ∃ (its:List Value) (n:Nat),Vals xs its∧s.heap.get? p = some { cls:=.type "list",data:=.seq its.toArray n }∧xs.length ≤ sizeLine:=by
 obtain ⟨z,its,n,r,e⟩:=I.hok p _ h
 exact ⟨its,n,r,e,z⟩
theorem q0v (lo hi:Option Int) (n:Nat):(sliceBounds lo hi none n).1 = ((HT.sIx n 0 lo:Nat):Int)∧(sliceBounds lo hi none n).2.1 = ((HT.sIx n n hi:Nat):Int)∧(sliceBounds lo hi none n).2.2 = 1:=by
 refine ⟨?_,?_,rfl⟩
 ·cases lo with
  | none=>simp [sliceBounds,HT.sIx]
  | some i =>
   simp only [sliceBounds,HT.sIx,Option.getD_none,show (1:Int) > 0 by decide,if_true]
   by_cases h:i < 0
   ·simp only [h,if_true] <;> omega
   ·simp only [h,if_false] <;> omega
 ·cases hi with
  | none=>simp [sliceBounds,HT.sIx]
  | some i =>
   simp only [sliceBounds,HT.sIx,Option.getD_none,show (1:Int) > 0 by decide,if_true]
   by_cases h:i < 0
   ·simp only [h,if_true] <;> omega
   ·simp only [h,if_false] <;> omega
theorem p0i (its:List Value) (lo hi:Option Int):slicePick its.toArray lo hi none = ((its.drop (HT.sIx its.length 0 lo)).take (HT.sIx its.length its.length hi - HT.sIx its.length 0 lo)).toArray:=by
 obtain ⟨h1,h2,h3⟩:=q0v lo hi its.toArray.size
 unfold slicePick
 rw [h1,h2,h3]
 simp only [sliceRange_one,pick_run,List.size_toArray] <;> rfl
def rSlL (K:PySem.W.Frag):V→Option Int→Option Int→Hp→VK→Prop:=fun x lo hi H Q=>∃ a xs,x = .ref a∧SqL K H a xs∧∀ p,H p = none→Q (.ref p) (upd H p (.lst (cutV xs lo hi)))
theorem i1r:SlR X (rSlL X.K):=by
 intro pins s σ H x v vl vu lo hi sl Q I rx hs pl pu h
 obtain ⟨a,xs,rfl,hx,q⟩:=h
 cases rx
 obtain ⟨its,r,ht,hz⟩:=I.list hx
 have hlen:=r.length
 refine ⟨"list",_,slot_list_getitem.lookup,ht.isList.typeIs,?_⟩
 refine wpAny_getItem_list_slice ht.isList hs pl pu .none (by simp) ?_ (by rw [List.size_toArray] <;> omega)
 rw [p0i,← hlen]
 refine ⟨.ref s.heap.objs.size,_,I.laid (t':=s.toks) (o:=.lst (cutV xs lo hi)) (fun b ob q=>Heap.get?_push_of_some _ q) (Nat.le_refl _) ?_,rfl,q _ (I.hok.fresh (Nat.le_refl _))⟩
 exact ⟨Nat.le_trans (v0a xs lo hi) hz,_,0,(r.drop (HT.sIx xs.length 0 lo)).take (HT.sIx xs.length xs.length hi - HT.sIx xs.length 0 lo),Heap.get?_push_size _ rfl⟩
theorem s0w:g0l X (.builtin "len") (fun xs H Q=>∃ p ys,xs = [.ref p]∧(SqL X.K H p ys ∨ SqT X.K H p ys)∧Q (.int ys.length) H):=by
 intro pins s σ H xs us Q I r h
 obtain ⟨p,ys,rfl,hq,q⟩:=h
 obtain ⟨u,rfl,rx⟩:=l0j r
 cases rx
 have hn:=m0y
 rcases hq with hq | hq
 ·obtain ⟨its,r',pl,hz⟩:=I.list hq
  have hlen:=r'.length
  exact Calls.call_len_list pl.isList (by simp only [List.size_toArray] <;> omega) ⟨.int ys.length,H,I.tok _,⟨s.toks + 1,by rw [List.size_toArray,hlen]⟩,q⟩
 ·obtain ⟨its,r',pl,hz⟩:=I.tuple hq
  have hlen:=r'.length
  exact len_tuple pl (by simp only [List.size_toArray] <;> omega) ⟨.int ys.length,H,I.tok _,⟨s.toks + 1,by rw [List.size_toArray,hlen]⟩,q⟩
theorem e0p:g0l X (.builtin "len") (fun xs H Q=>∃ z,xs = [.str z]∧z.length ≤ sizeLine∧Q (.int z.length) H):=by
 intro pins s σ H xs us Q I r h
 obtain ⟨z,rfl,hz,q⟩:=h
 obtain ⟨u,rfl,t,rfl⟩:=l0j r
 have hn:=m0y
 exact len_str (by omega) ⟨.int z.length,H,I.tok _,⟨_,rfl⟩,q⟩
theorem g0l.or {f:Value} {r r':List V→Hp→VK→Prop} (h:g0l X f r) (h':g0l X f r'):g0l X f (fun xs H Q=>r xs H Q ∨ r' xs H Q):=by
 intro pins s σ H xs us Q I rs q
 rcases q with q | q
 ·exact h pins s σ H xs us Q I rs q
 ·exact h' pins s σ H xs us Q I rs q
theorem q0j:g0l X (.type "tuple") (fun xs H Q=>∃ p ys,xs = [.ref p]∧((SqL X.K H p ys∧∀ l,H l = none→Q (.ref l) (upd H l (.tup ys))) ∨ (SqT X.K H p ys∧Q (.ref p) H))):=by
 intro pins s σ H xs us Q I r h
 obtain ⟨p,ys,rfl,h⟩:=h
 obtain ⟨u,rfl,rx⟩:=l0j r
 cases rx
 rcases h with ⟨hq,q⟩ | ⟨hq,q⟩
 ·obtain ⟨its,r',pl,hz⟩:=I.list hq
  have hlen:=r'.length
  refine call_tuple_list pl.isList (fun h' kp=>?_) (by simp only [List.size_toArray] <;> omega)
  have I1:Inv X pins σ H { s with heap:=h' }:=I.kept (t':=s.toks) kp
  have I2:Inv X pins σ (upd H h'.objs.size (.tup ys)) { s with heap:=h'.push { cls:=.type "tuple",data:=.seq its.toArray } } :=
   I1.laid (t':=s.toks) (fun b o e=>Heap.get?_push_of_some _ e) (Nat.le_refl _) (show d0x X.prog X.w _ _ _ (.tup ys) from ⟨hz,its,r',IsTup.new _ _⟩)
  exact ⟨.ref h'.objs.size,_,I2,rfl,q _ (I1.hok.fresh (Nat.le_refl _))⟩
 ·obtain ⟨its,r',pl,hz⟩:=I.tuple hq
  exact call_tuple_same pl ⟨.ref p,H,I,rfl,q⟩
def tyV (K:PySem.W.Frag) (T:String) (x:V) (H:Hp):Prop:=match x with
 | .str _=>T = "str"
 | .int _=>T = "int"
 | .ref p=>(T = "list" ∧ ∃ xs,SqL K H p xs) ∨ (T = "tuple" ∧ ∃ o,K.lookup p = some o∧o.cls = .type "tuple" ∧ o.dict = none) ∨
   (T = "dict" ∧ ((∃ kvs,H p = some (.dK kvs)) ∨ ∃ kvs,H p = some (.dT kvs))) ∨ (T = "set" ∧ ∃ S n,H p = some (.set S n))
 | _=>False
theorem g1t {pins:List (Addr × Obj)} {σ:St} {H:Hp} {s:Shared} {T:String} {x:V} {v:Value} (I:Inv X pins σ H s) (r:RelV x v) (ty:tyV X.K T x H) :
  s.TypeIs v T∧∀ a,v = .ref a→∃ ob,s.heap.get? a = some ob∧ob.dict = none:=by
 cases x with
 | str z =>
  obtain ⟨t,rfl⟩:=r
  cases (show T = "str" from ty)
  exact ⟨typeIs_str s z t,fun _ e=>nomatch e⟩
 | int i =>
  obtain ⟨t,rfl⟩:=r
  cases (show T = "int" from ty)
  exact ⟨typeIs_int s i t,fun _ e=>nomatch e⟩
 | ref p =>
  cases r
  rcases ty with ⟨rfl,xs,hq⟩ | ⟨rfl,o,hk,hc,hd⟩ | ⟨rfl,hk⟩ | ⟨rfl,S,n,hk⟩
  ·obtain ⟨its,_,pl,_⟩:=I.list hq
   refine ⟨pl.isList.typeIs,fun a e=>?_⟩
   cases e
   obtain ⟨o,n,e,c,hd,_⟩:=pl
   exact ⟨o,e,hd⟩
  ·refine ⟨⟨o,I.kIn p o hk,hc⟩,fun a e=>?_⟩
   cases e
   exact ⟨o,I.kIn _ o hk,hd⟩
  ·have z:∃ o,s.heap.get? p = some o∧o.ExactDict:=by
    rcases hk with ⟨kvs,hk⟩ | ⟨kvs,hk⟩
    ·obtain ⟨_,_,_,_,o,_,_,e,ex,_⟩:=I.hok p _ hk
     exact ⟨o,e,ex⟩
    ·obtain ⟨_,_,_,_,o,_,_,e,ex,_⟩:=I.hok p _ hk
     exact ⟨o,e,ex⟩
   obtain ⟨o,e,ex⟩:=z
   refine ⟨⟨o,e,ex.1⟩,fun a e2=>?_⟩
   cases e2
   exact ⟨o,e,ex.2.1⟩
  ·obtain ⟨o,_,_,_,e,ex,_⟩:=I.hok p _ hk
   refine ⟨⟨o,e,ex.1⟩,fun a e2=>?_⟩
   cases e2
   exact ⟨o,e,ex.2.1⟩
 | _=>exact False.elim ty
def tBM0 (K:PySem.W.Frag) (T:String) (r:V→List V→Hp→VK→Prop) (to:TE):TE:=fun σ H Q=>to σ H fun x H1=>tyV K T x H1∧r x [] H1 Q
def tBM (K:PySem.W.Frag) (T:String) (r:V→List V→Hp→VK→Prop) (to:TE) (t:TA):TE:=fun σ H Q=>to σ H fun x H1=>tyV K T x H1∧t σ H1 fun xs H2=>r x xs H2 Q
variable {o e:Expr} {es:List Expr} {to:TE} {t:TA} {name:Str} {apos cpos:Pos} {T id:String} {r:V→List V→Hp→VK→Prop}
theorem m1t (pa:PlainAttrs T) (slot:Slot T name id) (hty:typeOf (.builtin id) = pure (.type "method_descriptor")) (hm:MtR X id r) (ho:PE X o to)
  (hbase:attributeBase o name X.env (eval o X.env) = eval o X.env:=by rfl) (hline:(apos.endLine == cpos.line) = true:=by rfl):PE X (.Call (.Attribute o name apos) [] [] cpos) (tBM0 X.K T r to):=by
 intro pins s σ H Q I h
 refine wpAny_Call_method0_late hbase hline (thn (ho pins s σ H _ I h) fun v s1 ⟨x,H1,I1,r1,ty,q1⟩=>?_)
 obtain ⟨h1,h2⟩:=g1t I1 r1 ty
 exact ⟨T,id,pa,slot,hty,h1,h2,Calls.callWith_builtin rfl (PySem.evalArgs_none (hm pins s1 σ H1 x [] v [] Q I1 r1 .nil q1))⟩
theorem p1o (pa:PlainAttrs T) (slot:Slot T name id) (hty:typeOf (.builtin id) = pure (.type "method_descriptor")) (hm:MtR X id r) (ho:PE X o to) (ha:PA X (e :: es) t)
  (hbase:attributeBase o name X.env (eval o X.env) = eval o X.env:=by rfl)
  (hfew:((backTo cpos (starEach (e :: es) X.env)).all (fun x=>!x.1) && (backToKw cpos (keywordEach [] X.env)).all (fun x=>x.1.isSome)
   && decide ((e :: es).length + ([]:List Keyword).length + (if ([]:List Keyword).isEmpty then 0 else 1) < 30)) = true:=by rfl)
  (hline:(apos.endLine == cpos.line) = true:=by rfl) (hs:starEach (e :: es) X.env = (false,eval e X.env) :: starEach es X.env:=by rfl) (hplain:(backTo cpos (starEach es X.env)).any (·.1) = false:=by rfl) :
  PE X (.Call (.Attribute o name apos) (e :: es) [] cpos) (tBM X.K T r to t):=by
 intro pins s σ H Q I h
 refine wpAny_Call_method_late hbase hfew hline rfl (thn (ho pins s σ H _ I h) fun v s1 ⟨x,H1,I1,r1,ty,q1⟩=>?_)
 obtain ⟨h1,h2⟩:=g1t I1 r1 ty
 refine ⟨T,id,pa,slot,hty,h1,h2,?_⟩
 have hA:=ha cpos pins s1 σ H1 _ I1 q1
 rw [hs] at hA ⊢
 refine Calls.callWith_builtin (by show (false || (backTo cpos (starEach es X.env)).any (·.1)) = false; rw [hplain] <;> rfl) (Calls.evalArgs_plain ?_)
 exact thn hA fun us s2 ⟨vs,H2,I2,r2,q2⟩=>hm pins s2 σ H2 x vs v us Q I2 r1 r2 q2
end
def MtM (X:Cx) (id:String) (r:V→List V→Hp→VK→Prop):Prop :=
 ∀ (pins:List (Addr × Obj)) (s:Shared) (σ:St) (H:Hp) (x:V) (xs:List V) (v:Value) (us:List Value) (Q:VK),Inv X pins σ H s→RelV x v→Vals xs us→r x xs H Q →
  wpAny (model X.prog X.w) X.A (call (.builtin id) (v :: us)) (EP X pins σ Q) X.xe s
theorem Vals.one:∀ {x:V} {us:List Value},Vals [x] us→∃ u,us = [u]∧RelV x u
 | _,_,.cons r .nil=>⟨_,rfl,r⟩
theorem Vals.two:∀ {x y:V} {us:List Value},Vals [x,y] us→∃ u v,us = [u,v]∧RelV x u∧RelV y v
 | _,_,_,.cons r (.cons q .nil)=>⟨_,_,rfl,r,q⟩
theorem Vals.zero:∀ {us:List Value},Vals [] us→us = []
 | _,.nil=>rfl
theorem Vals.dropLast {xs:List V} {us:List Value} (h:Vals xs us):Vals xs.dropLast us.dropLast:=by
 induction h with
 | nil=>exact .nil
 | cons r t ih =>
  cases t with
  | nil=>exact .nil
  | cons q t'=>exact .cons r ih
theorem Vals.eraseIdx:∀ {xs:List V} {us:List Value} (i:Nat),Vals xs us→Vals (xs.eraseIdx i) (us.eraseIdx i)
 | _,_,_,.nil=>.nil
 | _,_,0,.cons _ t=>t
 | _,_,i + 1,.cons r t=>.cons r (Vals.eraseIdx i t)
theorem s0a {α:Type}:∀ (l:List α) (i:Nat),(l.eraseIdx i).length ≤ l.length
 | [],_=>Nat.le_refl _
 | _ :: _,0=>Nat.le_succ _
 | _ :: r,i + 1=>Nat.succ_le_succ (s0a r i)
section
variable {X:Cx} {pins:List (Addr × Obj)} {σ:St} {H:Hp} {s:Shared} {l b:Addr} {xs ys zs:List V}
theorem Inv.lset {its its':List Value} {n:Nat} {f:Array Value→Array Value} {t':Nat} (I:Inv X pins σ H s) (hH:H l = some (.lst xs))
  (e:s.heap.get? l = some { cls:=.type "list",data:=.seq its.toArray n }) (hf:f its.toArray = its'.toArray) (hv:Vals ys its') (hz:ys.length ≤ sizeLine) :
  Inv X pins σ (upd H l (.lst ys)) { s with heap:=s.heap.update l (Obj.mapSeq f),toks:=t' }:=by
 have q:=PySem.IsL.update e f
 rw [hf] at q
 refine I.write (x:=l) (e:=l) (by rw [hH]; exact trivial) (.inl rfl) (fun b' u hb hu=>(Heap.get?_update_other s.heap (Obj.mapSeq f) (Ne.symm hb)).trans hu) ⟨_,q⟩ ?_
 exact ⟨hz,its',_,hv,q⟩
theorem Inv.lnew {its:List Value} {t':Nat} (I:Inv X pins σ H s) (hv:Vals ys its) (hz:ys.length ≤ sizeLine) :
  Inv X pins σ (upd H s.heap.objs.size (.lst ys)) { s with heap:=s.heap.push { cls:=.type "list",data:=.seq its.toArray },toks:=t' } :=
 I.laid (fun _ _ q=>Heap.get?_push_of_some _ q) (Nat.le_refl _) ⟨hz,its,0,hv,Heap.get?_push_size _ rfl⟩
theorem Inv.fresh (I:Inv X pins σ H s):H s.heap.objs.size = none:=I.hok.fresh (Nat.le_refl _)
theorem Inv.lstM (I:Inv X pins σ H s) (hH:H l = some (.lst xs)):xs.length ≤ sizeLine∧∃ (its:List Value) (n:Nat),Vals xs its∧xs.length = its.length∧s.heap.get? l = some { cls:=.type "list",data:=.seq its.toArray n }:=by
 obtain ⟨z,its,n,r,e⟩:=I.hok l _ hH
 exact ⟨z,its,n,r,r.length,e⟩
end
section
variable {X:Cx}
def rAppend:V→List V→Hp→VK→Prop:=fun x vs H Q=>∃ l xs y,x = .ref l∧vs = [y]∧H l = some (.lst xs)∧xs.length < sizeLine∧Q .non (upd H l (.lst (xs ++ [y])))
theorem h0q:MtM X "list.append" rAppend:=by
 intro pins s σ H x vs v us Q I rx rv h
 obtain ⟨l,xs,y,rfl,rfl,hH,hz,q⟩:=h
 cases rx
 obtain ⟨u,rfl,ru⟩:=rv.one
 obtain ⟨z,its,n,r,hl,e⟩:=I.lstM hH
 refine call_meets F.slot_list_append ⟨_,e,rfl⟩ F.entry_list_append (F.args_list_append_2 _ _) (PySem.list_append l its.toArray n u (by rw [List.size_toArray]; omega)) ⟨e,?_⟩
 refine ⟨.non,_,I.lset (its':=its ++ [u]) hH e (by simp) (r.append (.cons ru .nil)) ?_,rfl,q⟩
 rw [List.length_append,List.length_singleton]
 omega
def rPopAt:V→List V→Hp→VK→Prop:=fun x vs H Q=>∃ l xs i k y,x = .ref l∧vs = [.int i]∧H l = some (.lst xs)∧-(2 ^ 63) ≤ i∧i < 2 ^ 63∧seqIndex? i xs.length = some k∧xs[k]? = some y∧Q y (upd H l (.lst (xs.eraseIdx k)))
theorem e1y:MtM X "list.pop" rPopAt:=by
 intro pins s σ H x vs v us Q I rx rv h
 obtain ⟨l,xs,i,k,y,rfl,rfl,hH,h1,h2,hk,hy,q⟩:=h
 cases rx
 obtain ⟨u,rfl,ru⟩:=rv.one
 obtain ⟨t,rfl⟩:=ru
 obtain ⟨z,its,n,r,hl,e⟩:=I.lstM hH
 obtain ⟨w,hw,rw'⟩:=r.get hy
 refine call_meets F.slot_list_pop ⟨_,e,rfl⟩ F.entry_list_pop (F.args_list_pop_2 _ _)
  (MeetsSeq.list_pop_at l its.toArray n i t k w (fitsIndex_both h1 h2) (by rw [List.size_toArray,← hl]; exact hk) (by rw [← Array.getElem?_toList]; exact hw) (by rw [List.size_toArray]; omega)) ⟨e,?_⟩
 refine ⟨y,_,I.lset (its':=its.eraseIdx k) hH e ?_ (r.eraseIdx k) ?_,rw',q⟩
 ·show its.toArray.eraseIdxIfInBounds k = (its.eraseIdx k).toArray
  rw [List.eraseIdxIfInBounds_toArray]
 ·have:=s0a xs k
  omega
end
section
variable {κ:Type} [DecidableEq κ]
def valV (kvs:List (κ × V)) (k:κ):Option V:=(kvs.find? fun kv=>decide (kv.1 = k)).map (·.2)
def putK (kvs:List (κ × V)) (k:κ) (v:V):List (κ × V) :=
 if (kvs.any fun kv=>decide (kv.1 = k)) = true then kvs.map (fun kv=>if kv.1 = k then (kv.1,v) else kv) else kvs ++ [(k,v)]
def o1f (kvs:List (κ × V)) (k:κ):List (κ × V):=kvs.filter fun kv=>decide (kv.1 ≠ k)
theorem p0c {p:κ × V} {r:List (κ × V)} {k:κ} (e:p.1 = k):valV (p :: r) k = some p.2:=by simp [valV,List.find?_cons,e]
theorem p0d {p:κ × V} {r:List (κ × V)} {k:κ} (e:¬ p.1 = k):valV (p :: r) k = valV r k:=by simp [valV,List.find?_cons,e]
theorem v0p (k:κ):∀ kvs:List (κ × V),(kvs.any fun kv=>decide (kv.1 = k)) = (valV kvs k).isSome
 | []=>rfl
 | p :: r=>by
  rw [List.any_cons]
  by_cases e:p.1 = k
  ·simp only [p0c e,decide_eq_true e,Bool.true_or,Option.isSome_some]
  ·rw [p0d e,decide_eq_false e,Bool.false_or]; exact v0p k r
theorem j0e (kvs:List (κ × V)) (k:κ) (v:V):(putK kvs k v).length ≤ kvs.length + 1:=by
 unfold putK
 split
 ·rw [List.length_map]; omega
 ·rw [List.length_append,List.length_cons,List.length_nil]; omega
theorem RelO.isSome_eq {o:Option V} {u:Option Value} (r:RelO o u):o.isSome = u.isSome:=by
 cases o with
 | none=>cases u with
  | none=>rfl
  | some _=>exact (show False from r).elim
 | some _=>cases u with
  | none=>exact (show False from r).elim
  | some _=>rfl
theorem RelO.getD {o:Option V} {u:Option Value} {d:V} {d':Value} (r:RelO o u) (rd:RelV d d'):RelV (o.getD d) (u.getD d'):=by
 cases o with
 | none=>cases u with
  | none=>exact rd
  | some _=>exact (show False from r).elim
 | some _=>cases u with
  | none=>exact (show False from r).elim
  | some _=>exact r
theorem KV.val {kvs:List (κ × V)} {vs:List (κ × Value)} (r:KV kvs vs) (k:κ):RelO (valV kvs k) (valueAt vs k):=by
 unfold KV at r
 induction r with
 | nil=>exact True.intro
 | @cons p q ps qs h t ih =>
  obtain ⟨h1,h2⟩:=h
  by_cases e:p.1 = k
  ·have e':q.1 = k:=h1.symm.trans e
   have b:valueAt (q :: qs) k = some q.2:=by simp [valueAt,List.find?_cons,e']
   rw [p0c e,b]; exact h2
  ·have e':¬ q.1 = k:=fun z=>e (h1.trans z)
   have b:valueAt (q :: qs) k = valueAt qs k:=by simp [valueAt,List.find?_cons,e']
   rw [p0d e,b]; exact ih
theorem KV.any {kvs:List (κ × V)} {vs:List (κ × Value)} (r:KV kvs vs) (k:κ):(kvs.any fun kv=>decide (kv.1 = k)) = vs.any fun kv=>decide (kv.1 = k):=by
 unfold KV at r
 induction r with
 | nil=>rfl
 | cons h t ih=>rw [List.any_cons,List.any_cons,ih,h.1]
theorem KV.repl {kvs:List (κ × V)} {vs:List (κ × Value)} (r:KV kvs vs) (k:κ) {y:V} {u:Value} (ry:RelV y u) :
  KV (kvs.map fun kv=>if kv.1 = k then (kv.1,y) else kv) (vs.map fun kv=>if kv.1 = k then (kv.1,u) else kv):=by
 unfold KV at r ⊢
 induction r with
 | nil=>exact .nil
 | @cons p q ps qs h t ih =>
  rw [List.map_cons,List.map_cons]
  refine .cons ?_ ih
  obtain ⟨h1,h2⟩:=h
  by_cases e:p.1 = k
  ·rw [if_pos e,if_pos (h1.symm.trans e)]; exact ⟨h1,ry⟩
  ·rw [if_neg e,if_neg (fun z=>e (h1.trans z))]; exact ⟨h1,h2⟩
theorem KV.put {kvs:List (κ × V)} {vs:List (κ × Value)} (r:KV kvs vs) (k:κ) {y:V} {u:Value} (ry:RelV y u):KV (putK kvs k y) (stored vs k u):=by
 unfold putK stored
 rw [r.any k]
 by_cases e:(vs.any fun kv=>decide (kv.1 = k)) = true
 ·rw [if_pos e,if_pos e]; exact r.repl k ry
 ·rw [if_neg e,if_neg e]; exact Paired.snoc r ⟨rfl,ry⟩
theorem KV.drop {kvs:List (κ × V)} {vs:List (κ × Value)} (r:KV kvs vs) (k:κ):KV (o1f kvs k) (without vs k):=by
 unfold KV at r ⊢
 unfold o1f without
 induction r with
 | nil=>exact .nil
 | @cons p q ps qs h t ih =>
  obtain ⟨h1,h2⟩:=h
  rw [List.filter_cons,List.filter_cons]
  by_cases e:p.1 = k
  ·have a:¬ decide (p.1 ≠ k) = true:=by simp [e]
   have b:¬ decide (q.1 ≠ k) = true:=by simp [h1.symm.trans e]
   rw [if_neg a,if_neg b]; exact ih
  ·have e':¬ q.1 = k:=fun z=>e (h1.trans z)
   have a:decide (p.1 ≠ k) = true:=by simp [e]
   have b:decide (q.1 ≠ k) = true:=by simp [e']
   rw [if_pos a,if_pos b]; exact .cons ⟨h1,h2⟩ ih
theorem KV.keys {kvs:List (κ × V)} {vs:List (κ × Value)} (r:KV kvs vs):kvs.map (·.1) = vs.map (·.1):=by
 unfold KV at r
 induction r with
 | nil=>rfl
 | cons h t ih=>rw [List.map_cons,List.map_cons,ih,h.1]
theorem KV.length {kvs:List (κ × V)} {vs:List (κ × Value)} (r:KV kvs vs):kvs.length = vs.length:=Paired.length r
end
theorem f1e {P:Program} {w:World} {k:Key} {u:Value} (r:RelV (kV k) u):(d0e P w).is k u = true:=by
 cases k with
 | inl i=>obtain ⟨t,e⟩:=(show ∃ t,u = Value.int i t from r); subst e; exact u0l P w i t
 | inr x=>obtain ⟨t,e⟩:=(show ∃ t,u = Value.str x t from r); subst e; exact u0k P w x t
theorem s0c {P:Program} {w:World}:∀ {ks:List Key} {us:List Value},Vals (ks.map kV) us→ItemsAre (d0e P w) ks us
 | [],_,r=>by rw [List.map_nil] at r; cases r; exact .nil
 | k :: ks,_,r=>by
  rw [List.map_cons] at r
  cases r with
  | cons h t=>exact .cons (f1e h) (s0c t)
abbrev KT (H:Hp):List (List Key × V)→List (List Key × Addr × Value)→Prop:=Paired fun p q=>p.1 = q.1∧H q.2.1 = some (.tup (p.1.map kV))∧RelV p.2 q.2.2
theorem KT.val {H:Hp} {kvs:List (List Key × V)} {xs:List (List Key × Addr × Value)} (r:KT H kvs xs) (k:List Key):RelO (valV kvs k) ((atKey xs k).map (·.2)):=by
 induction r with
 | nil=>exact True.intro
 | @cons p q ps qs h t ih =>
  obtain ⟨h1,_,h2⟩:=h
  by_cases e:p.1 = k
  ·have e':q.1 = k:=h1.symm.trans e
   have b:atKey (q :: qs) k = some q.2:=by simp [atKey,List.find?_cons,e']
   rw [p0c e,b]; exact h2
  ·have e':¬ q.1 = k:=fun z=>e (h1.trans z)
   have b:atKey (q :: qs) k = atKey qs k:=by simp [atKey,List.find?_cons,e']
   rw [p0d e,b]; exact ih
theorem KT.repl {H:Hp} {kvs:List (List Key × V)} {xs:List (List Key × Addr × Value)} (r:KT H kvs xs) (k:List Key) {y:V} {u:Value} (ry:RelV y u) :
  KT H (kvs.map fun kv=>if kv.1 = k then (kv.1,y) else kv) (xs.map (putAt k u)):=by
 induction r with
 | nil=>exact .nil
 | @cons p q ps qs h t ih =>
  rw [List.map_cons,List.map_cons]
  refine .cons ?_ ih
  obtain ⟨h1,h2,h3⟩:=h
  unfold putAt
  by_cases e:p.1 = k
  ·rw [if_pos e,if_pos (h1.symm.trans e)]; exact ⟨h1,h2,ry⟩
  ·rw [if_neg e,if_neg (fun z=>e (h1.trans z))]; exact ⟨h1,h2,h3⟩
theorem KT.put {H:Hp} {kvs:List (List Key × V)} {xs:List (List Key × Addr × Value)} (r:KT H kvs xs) (k:List Key) {b:Addr} {y:V} {u:Value} (hb:H b = some (.tup (k.map kV))) (ry:RelV y u) :
  KT H (putK kvs k y) (storedH xs k b u):=by
 have e:(kvs.any fun kv=>decide (kv.1 = k)) = (atKey xs k).isSome:=by
  rw [v0p,(r.val k).isSome_eq,Option.isSome_map]
 unfold putK storedH
 rw [e]
 by_cases q:(atKey xs k).isSome = true
 ·rw [if_pos q,if_pos q]; exact r.repl k ry
 ·rw [if_neg q,if_neg q]; exact Paired.snoc r ⟨rfl,hb,ry⟩
theorem KT.keeps {H H':Hp} {kvs:List (List Key × V)} {xs:List (List Key × Addr × Value)} (r:KT H kvs xs) (ht:∀ b ys,H b = some (.tup ys)→H' b = some (.tup ys)):KT H' kvs xs :=
 Paired.mapP r fun _ _ z=>⟨z.1,ht _ _ z.2.1,z.2.2⟩
section
variable {P:Program} {w:World} {H:Hp} {h:Heap} {a:Addr}
theorem m1e {u:HO} (ok:HOk P w H h) (e:Rd H a u):d0x P w H h a u:=e.ok ok
theorem k1w {kvs:List (Key × V)} (ok:HOk P w H h) (e:Rd H a (.dK kvs)):kvs.length ≤ sizeLine∧(a == sysModules) = false∧∃ vs,KV kvs vs∧h.DictOf (d0e P w) a vs :=
 show d0x P w H h a (.dK kvs) from m1e ok e
theorem o1g {kvs:List (Key × V)} (ok:HOk P w H h) (e:H a = some (.dK kvs)):kvs.length ≤ sizeLine∧(a == sysModules) = false∧∃ vs,KV kvs vs∧h.DictOf (d0e P w) a vs:=k1w ok (.inl e)
theorem b1g {ks:List Key} (ok:HOk P w H h) (e:H a = some (.tup (ks.map kV))):(tupleKind (d0e P w)).is h ks a:=by
 obtain ⟨_,its,r,o,h1,h2,n,h3⟩:=(show d0x P w H h a (.tup (ks.map kV)) from ok a _ e)
 exact ⟨o,its.toArray,n,h1,h2,h3,by simpa using s0c r⟩
theorem k1u {kvs:List (List Key × V)} (ok:HOk P w H h) (e:Rd H a (.dT kvs)):kvs.length ≤ sizeLine∧(a == sysModules) = false ∧
  ∃ xs,KT H kvs xs∧h.DictOfH (tupleKind (d0e P w)) a xs:=by
 obtain ⟨z,y,xs,r,o,es,ep,h1,h2,h3,h4,h5⟩:=(show d0x P w H h a (.dT kvs) from m1e ok e)
 refine ⟨z,y,xs,r,o,es,ep,h1,h2,h3,h4,fun x hx=>?_,h5⟩
 have all:∀ {l:List (List Key × V)} {m:List (List Key × Addr × Value)},KT H l m→∀ x ∈ m,(tupleKind (d0e P w)).is h x.1 x.2.1:=by
  intro l m q
  induction q with
  | nil=>intro x hx; exact nomatch hx
  | @cons p q ps qs hq t ih =>
   intro x hx
   rcases List.mem_cons.mp hx with e | hx
   ·subst e
    exact b1g ok (by rw [← hq.1]; exact hq.2.1)
   ·exact ih x hx
 exact all r x hx
theorem p1x {kvs:List (List Key × V)} (ok:HOk P w H h) (e:H a = some (.dT kvs)):kvs.length ≤ sizeLine∧(a == sysModules) = false ∧
  ∃ xs,KT H kvs xs∧h.DictOfH (tupleKind (d0e P w)) a xs:=k1u ok (.inl e)
end
def DGet (H:Hp) (a:Addr) (y:V) (r:Option V):Prop :=
 (∃ kvs k,Rd H a (.dK kvs)∧y = kV k∧r = valV kvs k) ∨ ∃ kvs k b,Rd H a (.dT kvs)∧y = .ref b∧H b = some (.tup (k.map kV))∧r = valV kvs k
def DPut (H:Hp) (a:Addr) (y v:V) (H':Hp):Prop :=
 (∃ kvs k,H a = some (.dK kvs)∧y = kV k∧kvs.length < sizeLine∧H' = upd H a (.dK (putK kvs k v))) ∨
 ∃ kvs k b,H a = some (.dT kvs)∧y = .ref b∧H b = some (.tup (k.map kV))∧kvs.length < sizeLine∧H' = upd H a (.dT (putK kvs k v))
theorem DGet.k {H:Hp} {a:Addr} {kvs:List (Key × V)} {k:Key} (e:H a = some (.dK kvs)):DGet H a (kV k) (valV kvs k):=.inl ⟨kvs,k,.inl e,rfl,rfl⟩
theorem DGet.t {H:Hp} {a b:Addr} {kvs:List (List Key × V)} {k:List Key} (e:H a = some (.dT kvs)) (eb:H b = some (.tup (k.map kV))):DGet H a (.ref b) (valV kvs k):=.inr ⟨kvs,k,b,.inl e,rfl,eb,rfl⟩
theorem DPut.k {H:Hp} {a:Addr} {kvs:List (Key × V)} {k:Key} {v:V} (e:H a = some (.dK kvs)) (hl:kvs.length < sizeLine):DPut H a (kV k) v (upd H a (.dK (putK kvs k v))):=.inl ⟨kvs,k,e,rfl,hl,rfl⟩
theorem DPut.t {H:Hp} {a b:Addr} {kvs:List (List Key × V)} {k:List Key} {v:V} (e:H a = some (.dT kvs)) (eb:H b = some (.tup (k.map kV))) (hl:kvs.length < sizeLine) :
  DPut H a (.ref b) v (upd H a (.dT (putK kvs k v))):=.inr ⟨kvs,k,b,e,rfl,eb,hl,rfl⟩
section
variable {X:Cx} {pins:List (Addr × Obj)} {σ:St} {H:Hp} {s:Shared} {a:Addr} {y v:V} {u r:Value} {o:Option V} {A:Around} {E:Value→Shared→Prop}
theorem Inv.big (I:Inv X pins σ H s):sysModules < s.heap.objs.size:=by
 have h:mainGlobals < s.heap.objs.size:=(I.mod.glob.keeps I.bk).lt
 exact Nat.lt_trans (by decide) h
theorem c1l {Q:Value→Shared→Prop} (hu:A.units + 1 < cLine) (I:Inv X pins σ H s) (g:DGet H a y (some v)) (ry:RelV y u) (h:∀ w' s',Inv X pins σ H s'→RelV v w'→Q w' s') :
  wpAny (model X.prog X.w) A (getItem (.ref a) u) Q E s:=by
 rcases g with ⟨kvs,k,e,ey,l⟩ | ⟨kvs,k,b,e,ey,eb,l⟩
 ·subst ey
  obtain ⟨z,hd,vs,rel,dd⟩:=k1w I.hok e
  obtain ⟨w',hw,rw'⟩:=RelO.some_of (v:=v) (o:=valueAt vs k) (by rw [l]; exact rel.val k)
  exact wpAny_getItem_of (f1e ry) dd.mapOf hw (h w' _ (I.tok _) rw')
 ·subst ey
  cases (show u = Value.ref b from ry)
  obtain ⟨z,hd,xs,rel,dd⟩:=k1u I.hok e
  obtain ⟨w',hw,rw'⟩:=RelO.some_of (v:=v) (o:=(atKey xs k).map (·.2)) (by rw [l]; exact rel.val k)
  obtain ⟨p,hp,hp2⟩:=Option.map_eq_some_iff.mp hw
  refine wpAny_getItem_heap (tupleKind_room_in1 hu) (b1g I.hok eb) dd hp ?_
  rw [hp2]
  exact h w' _ (I.tok _) rw'
theorem u0z {h':Heap} {t':Nat} {ob:HO} (I:Inv X pins σ H s) (mu:Mut (H a)) (hs:Heap.SameBut a s.heap h') (he:∃ q,h'.get? a = some q) (new:d0x X.prog X.w (upd H a ob) h' a ob) :
  Inv X pins σ (upd H a ob) { s with heap:=h',toks:=t' } :=
 I.write (x:=a) (e:=a) mu (.inl rfl) (fun b q hb z=>(hs.2 b hb).trans z) he new
theorem h1v {P:Program} {w:World} {H':Hp} {h':Heap} {kvs:List (Key × V)} {vs:List (Key × Value)} (z:kvs.length ≤ sizeLine) (hd:(a == sysModules) = false) (rel:KV kvs vs) (dd:h'.DictOf (d0e P w) a vs) :
  d0x P w H' h' a (.dK kvs):=⟨z,hd,vs,rel,dd⟩
theorem c1k {H':Hp} {Q:Unit→Shared→Prop} (hu:A.units + 1 < cLine) (I:Inv X pins σ H s) (g:DPut H a y v H') (ry:RelV y u) (rv:RelV v r) (h:∀ s',Inv X pins σ H' s'→Q () s') :
  wpAny (model X.prog X.w) A (setItem (.ref a) u r) Q E s:=by
 rcases g with ⟨kvs,k,e,ey,l,eH⟩ | ⟨kvs,k,b,e,ey,eb,l,eH⟩
 ·subst ey eH
  obtain ⟨z,hd,vs,rel,dd⟩:=o1g I.hok e
  have hz:vs.length ≤ sizeLine:=by rw [← rel.length]; exact z
  have hl:(putK kvs k v).length ≤ sizeLine:=by have:=j0e kvs k v; omega
  refine wpAny_setItem_pairs (hsz:=hz) (f1e ry) dd fun h' dd' hs=>h _ ?_
  have he:∃ q,h'.get? a = some q:=let ⟨q,_,_,hq,_⟩:=dd'; ⟨q,hq⟩
  exact u0z I (by rw [e]; exact True.intro) hs he (h1v hl hd (rel.put k rv) dd')
 ·subst ey eH
  cases (show u = Value.ref b from ry)
  obtain ⟨z,hd,xs,rel,dd⟩:=p1x I.hok e
  have hz:xs.length ≤ sizeLine:=by rw [← Paired.length rel]; exact z
  have hl:(putK kvs k v).length ≤ sizeLine:=by have:=j0e kvs k v; omega
  refine wpAny_setItem_heap (hsz:=hz) (tupleKind_room_in1 hu) (b1g I.hok eb) dd fun h' dd' hs=>h _ ?_
  obtain ⟨q,es,ep,hq,h2,h3,h4,_,h5⟩:=dd'
  refine u0z I (by rw [e]; exact True.intro) hs ⟨q,hq⟩ ⟨hl,hd,_,(rel.put k eb rv).keeps fun c ys ec=>?_,q,es,ep,hq,h2,h3,h4,h5⟩
  rw [a0o (n0o ec e (fun z=>nomatch z))]
  exact ec
end
def NoSl (i:Expr):Prop:=∀ ov iv,subscripted i false ov iv = operate [ov,iv] (getItem ov iv)
theorem i1m {prog:Program} {w:World} {A:Around} {E:Value→Shared→Prop} {s:Shared} {env:Env} {value slice:Expr} {pos:Pos} {T id:String} {Q:Value→Shared→Prop}
  (hl:typeLookup (.type T) "__getitem__" = pure (some (.builtin id))) (hs:NoSl slice)
  (h:wpAny (model prog w) A (eval value env) (fun o s₁=>wpAny (model prog w) A (eval slice env) (fun i s₂=>s₂.TypeIs o T∧wpAny (model prog w) A (getItem o i) Q E s₂) E s₁) E s) :
  wpAny (model prog w) A (eval (.Subscript value slice pos) env) Q E s:=by
 refine Subscript_ (wpAny_mono h (fun o s₁ h₁=>wpAny_mono h₁ (fun i s₂ h₂=>?_) fun _ _ x=>x) fun _ _ x=>x)
 obtain ⟨hT,h₂⟩:=h₂
 unfold subscriptTail
 refine wpAny_bind ?_
 rw [getitemInPython_of_ne hT.not_modules]
 refine wpAny_bind (wpAny_specialOf hT hl ?_)
 have fin:wpAny (model prog w) A (subscripted slice false o i) (fun r s₃=>wpAny (model prog w) A (letTemporaryGo value o r >>= fun _=>pure r) Q E s₃) E s₂:=by
  rw [hs o i]
  exact wpAny_operating (wpAny_mono h₂ (fun r s₃ h₃=>wpAny_bind (wpAny_letTemporaryGo (wpAny_pure h₃))) fun _ _ x=>x)
 first
  | exact wpAny_pure (wpAny_bind fin)
  | exact wpAny_bind (wpAny_pure (wpAny_bind fin))
  | exact wpAny_bind fin
theorem u0w {X:Cx} {pins:List (Addr × Obj)} {σ:St} {H:Hp} {s:Shared} {a:Addr} {y:V} {o:Option V} (I:Inv X pins σ H s) (g:DGet H a y o):s.TypeIs (.ref a) "dict" := by
 rcases g with ⟨kvs,k,e,_,_⟩ | ⟨kvs,k,b,e,_,_,_⟩
 ·obtain ⟨_,_,vs,_,dd⟩:=k1w I.hok e
  exact dd.typeIs
 ·obtain ⟨_,_,xs,_,dd⟩:=k1u I.hok e
  exact dd.typeIs
def p1k (td ty:TE):TE:=fun σ H Q=>td σ H fun x H1=>ty σ H1 fun y H2=>∃ a v,x = .ref a∧DGet H2 a y (some v)∧Q v H2
def p1m (td ty tv:TE):TS:=fun D σ H=>tv σ H fun v H1=>td σ H1 fun x H2=>ty σ H2 fun y H3=>∃ a H4,x = .ref a∧DPut H3 a y v H4∧D.nx σ H4
section
variable {X:Cx} {o i e value:Expr} {pos pos' tpos:Pos} {td ty tv:TE}
theorem m0p (hu:X.A.units + 1 < cLine) (ho:PE X o td) (hi:PE X i ty) (hs:NoSl i):PE X (.Subscript o i pos) (p1k td ty):=by
 intro pins s σ H Q I h
 refine i1m PySem.F.slot_dict_getitem.lookup hs (thn (ho pins s σ H _ I h) fun u s1 ⟨x,H1,I1,rx,q1⟩=>thn (hi pins s1 σ H1 _ I1 q1) fun iv s2 ⟨y,H2,I2,ry,a,v,ex,g,q2⟩=>?_)
 subst ex
 obtain rfl:u = Value.ref a:=rx
 exact ⟨u0w I2 g,c1l hu I2 g ry fun w' s3 I3 rw'=>⟨v,H2,I3,rw',q2⟩⟩
theorem t0q (hu:X.A.units + 1 < cLine) (ho:PE X o td) (hi:PE X i ty) (hv:PE X value tv) (hs:swapsWith value (some (.Subscript o i pos')) pos.line X.env = pure false) :
  PS X (.Assign [.Subscript o i pos'] value pos) (p1m td ty tv):=by
 intro pins s σ H D I h
 refine wpAny_Assign_Subscript (thn (hv pins s σ H _ I h) fun r s1 ⟨v,H1,I1,rv,q1⟩=>thn (ho pins s1 σ H1 _ I1 q1) fun u s2 ⟨x,H2,I2,rx,q2⟩=>thn (hi pins s2 σ H2 _ I2 q2) fun iv s3 ⟨y,H3,I3,ry,a,H4,ex,g,q3⟩=>?_) hs
 subst ex
 obtain rfl:u = Value.ref a:=rx
 exact c1k hu I3 g ry rv fun s4 I4=>⟨σ,H4,I4,q3⟩
end
theorem f1v {P:Program} {w:World} {H:Hp} (h:Heap) (hb:sysModules < h.objs.size):d0x P w H (h.push { cls:=.type "dict",data:=.dict #[] }) h.objs.size (.dK []) :=
 ⟨Nat.zero_le _,beq_eq_false_iff_ne.mpr (Ne.symm (Nat.ne_of_lt hb)),[],.nil,Heap.DictOf.new h⟩
def z0g:List (TE × TE)→St→Hp→(List (V × V)→Hp→Prop)→Prop
 | [],_,H,Q=>Q [] H
 | (tk,tv) :: r,σ,H,Q=>tk σ H fun x H1=>tv σ H1 fun y H2=>z0g r σ H2 fun ps H3=>Q ((x,y) :: ps) H3
abbrev VV:List (V × V)→List (Value × Value)→Prop:=Paired fun p q=>RelV p.1 q.1∧RelV p.2 q.2
def PPs (X:Cx) (pos:Pos) (keys:List (Option Expr)) (values:List Expr) (trs:List (TE × TE)):Prop :=
 ∀ (pins:List (Addr × Obj)) (s:Shared) (σ:St) (H:Hp) (Q:List (V × V)→Hp→Prop),Inv X pins σ H s→z0g trs σ H Q →
  wpAny (model X.prog X.w) X.A (evalPairs (pairTrees keys values X.env pos)) (fun vs s'=>∃ ps H',Inv X pins σ H' s'∧VV ps vs∧Q ps H') X.xe s
theorem j1h {X:Cx} {pos:Pos}:PPs X pos [] [] []:=fun pins s σ H Q I h=>pairTrees_nil_walk ⟨[],H,I,.nil,h⟩
theorem p0r {X:Cx} {pos:Pos} {k v:Expr} {ks:List (Option Expr)} {vs:List Expr} {tk tv:TE} {trs:List (TE × TE)} (hk:PE X k tk) (hv:PE X v tv) (hr:PPs X pos ks vs trs) :
  PPs X pos (some k :: ks) (v :: vs) ((tk,tv) :: trs):=fun pins s σ H Q I h =>
 pairTrees_cons_walk (thn (hk pins s σ H _ I h) fun u s1 ⟨x,H1,I1,rx,q1⟩=>thn (hv pins s1 σ H1 _ I1 q1) fun w2 s2 ⟨y,H2,I2,ry,q2⟩ =>
  thn (hr pins s2 σ H2 _ I2 q2) fun ws s3 ⟨ps,H3,I3,rel,q3⟩=>⟨(x,y) :: ps,H3,I3,.cons ⟨rx,ry⟩ rel,q3⟩)
def m0w (kvs more:List (Key × V)):List (Key × V):=more.foldl (fun acc kv=>putK acc kv.1 kv.2) kvs
theorem KV.merge:∀ {more:List (Key × V)} {rs:List (Key × Value)} {kvs:List (Key × V)} {vs:List (Key × Value)},KV more rs→KV kvs vs→KV (m0w kvs more) (merged vs rs):=by
 intro more rs kvs vs r
 unfold KV at r
 induction r generalizing kvs vs with
 | nil=>intro q; exact q
 | @cons p q ps qs h t ih =>
  intro r0
  have e:KV (putK kvs p.1 p.2) (stored vs q.1 q.2):=by
   have:=r0.put p.1 h.2
   rw [← h.1]; exact this
  exact ih e
theorem j0v:∀ (more kvs:List (Key × V)),(m0w kvs more).length ≤ kvs.length + more.length
 | [],kvs=>by show kvs.length ≤ kvs.length + 0; omega
 | p :: r,kvs=>by
  have h1:=j0v r (putK kvs p.1 p.2)
  have h2:=j0e kvs p.1 p.2
  show (m0w (putK kvs p.1 p.2) r).length ≤ _
  rw [List.length_cons]; omega
theorem o0w {P:Program} {w:World}:∀ {kvs:List (Key × V)} {ws:List (Value × Value)},VV (kvs.map fun kv=>(kV kv.1,kv.2)) ws→∃ rs,Carries (d0e P w) ws rs∧KV kvs rs
 | [],_,r=>by rw [List.map_nil] at r; cases r; exact ⟨[],True.intro,.nil⟩
 | p :: kvs,_,r=>by
  rw [List.map_cons] at r
  cases r with
  | @cons a b as bs h t =>
   obtain ⟨rs,c,q⟩:=o0w (P:=P) (w:=w) t
   obtain ⟨b1,b2⟩:=b
   exact ⟨(p.1,b2) :: rs,⟨f1e h.1,rfl,c⟩,.cons ⟨rfl,h.2⟩ q⟩
def p1j (trs:List (TE × TE)):TE:=fun σ H Q=>∀ p,H p = none→z0g trs σ (upd H p (.dK [])) fun ps H2=>H2 p = some (.dK [])∧∃ kvs:List (Key × V),ps = kvs.map (fun kv=>(kV kv.1,kv.2))∧kvs.length ≤ 15∧Q (.ref p) (upd H2 p (.dK (m0w [] kvs)))
theorem j1j {X:Cx} {pos:Pos} {keys:List (Option Expr)} {values:List Expr} {trs:List (TE × TE)} (h:PPs X pos keys values trs) (hall:keys.all (·.isSome) = true) (hl:keys.length = values.length) (h0:keys ≠ [])
  (h15:keys.length ≤ 15):PE X (.Dict keys values pos) (p1j trs):=by
 intro pins s σ H Q I q
 have hn:=I.hok.fresh (Nat.le_refl s.heap.objs.size)
 have I1:=I.laid (a:=s.heap.objs.size) (o:=.dK []) (h':=s.heap.push { cls:=.type "dict",data:=.dict #[] }) (t':=s.toks) (fun _ _ q=>Heap.get?_push_of_some _ q) (Nat.le_refl _) (f1v s.heap I.big)
 refine wpAny_Dict_walk (knd:=d0e X.prog X.w) hall hl h0 h15 (thn (h pins _ σ _ _ I1 (q _ hn)) fun ws s2 ⟨ps,H2,I2,rel,e,kvs,ep,lk,q2⟩=>?_)
 subst ep
 obtain ⟨rs,c,rk⟩:=o0w (P:=X.prog) (w:=X.w) rel
 obtain ⟨z,hd,vs0,r0,dd⟩:=o1g I2.hok e
 cases r0
 refine ⟨rs,c,dd,fun h' dd' hs=>⟨.ref s.heap.objs.size,_,?_,rfl,q2⟩⟩
 have hz:(m0w [] kvs).length ≤ sizeLine:=by
  have h1:=j0v kvs []
  rw [List.length_nil] at h1
  rw [sizeLine_eq]; omega
 have he:∃ q,h'.get? s.heap.objs.size = some q:=let ⟨q,_,_,hq,_⟩:=dd'; ⟨q,hq⟩
 exact u0z I2 (by rw [e]; exact True.intro) hs he (h1v hz hd (rk.merge .nil) dd')
structure M1 (X:Cx) (o:Expr) (m:Str) (apos:Pos) (e:Expr) (cpos:Pos):Prop where
 base:attributeBase o m X.env (eval o X.env) = eval o X.env
 few:((backTo cpos (starEach [e] X.env)).all (fun x=>!x.1) && (backToKw cpos (keywordEach [] X.env)).all (fun x=>x.1.isSome)
  && decide (([e]:List Expr).length + ([]:List Keyword).length + (if ([]:List Keyword).isEmpty then 0 else 1) < 30)) = true
 line:(apos.endLine == cpos.line) = true
 trees:backTo cpos (starEach [e] X.env) = [(false,eval e X.env)]
structure M2 (X:Cx) (o:Expr) (m:Str) (apos:Pos) (e f:Expr) (cpos:Pos):Prop where
 base:attributeBase o m X.env (eval o X.env) = eval o X.env
 few:((backTo cpos (starEach [e,f] X.env)).all (fun x=>!x.1) && (backToKw cpos (keywordEach [] X.env)).all (fun x=>x.1.isSome)
  && decide (([e,f]:List Expr).length + ([]:List Keyword).length + (if ([]:List Keyword).isEmpty then 0 else 1) < 30)) = true
 line:(apos.endLine == cpos.line) = true
 trees:backTo cpos (starEach [e,f] X.env) = [(false,eval e X.env),(false,eval f X.env)]
end L2
namespace Att
open PySem PySem.W PySem.Calls PyProof.Rows
theorem n0a {P:Params} {h:Heap}:∀ (ns:List Int) (vs:List Value),WellAll P h vs (ns.map WData.int)→IntsAre vs ns:=by
 intro ns
 induction ns with
 | nil =>
  intro vs w
  rw [List.map_nil] at w
  cases w
  exact .nil
 | cons n ns ih =>
  intro vs w
  rw [List.map_cons] at w
  cases w with
  | cons a b =>
   cases a
   exact .cons _ _ (ih _ b)
theorem z0u {l:OpenLaw} {n:Nat} (hn:l.most = some n) {P:Params} {h:Heap} {args:List WData} {vals:List Value}
  (hpre:l.row.toRowW.claim.pre args = true) (hwl:WellAll P h vals args) :
  ∃ a vs ns,vals = [Value.ref a]∧args = [WData.list (ns.map WData.int)]∧h.get? a = some { cls:=.type "list",data:=.seq vs.toArray }∧IntsAre vs ns∧ns.length ≤ n:=by
 have hsh:WShape.hasAll [] args [.list .int] = true:=(pre_splitW hpre).1
 have hc:l.pre.holds [] { args:=args } = true:=(pre_splitW hpre).2
 obtain ⟨d,r,rfl,h1,h2⟩:=hasAllW_cons hsh
 obtain rfl:=hasAllW_nil h2
 obtain ⟨xs,rfl,h3⟩:=hasW_list h1
 obtain ⟨ns,rfl⟩:=items_int h3
 have hlen:ns.length ≤ n:=by
  unfold OpenLaw.pre at hc
  have h4:(WTm.not (.lt (.lit (.int (n:Int))) (.len (.arg 0)))).holds [] { args:=[.list (ns.map .int)] } = true:=by
   have h4:=(holds_andW hc).1
   rw [hn] at h4
   exact h4
  have h5:=condW_of h4 (w_not (w_lt w_lit (w_len_list (w_arg rfl))))
  rw [List.length_map] at h5
  refine Nat.le_of_not_lt fun q=>?_
  have q':(n:Int) < ((ns.length:Nat):Int):=by omega
  first
   | (rw [decide_eq_true q'] at h5; exact absurd h5 (by decide))
   | (simp at h5; omega)
 cases hwl with
 | cons w1 w2 =>
  cases w2
  cases w1 with
  | list ho hall=>exact ⟨_,_,ns,rfl,rfl,ho,n0a ns _ hall,hlen⟩
theorem a1h (l:OpenLaw) (args:List WData):l.row.toRowW.claim.post args (.bool true) args = true :=
 postW_of (r:=l.row.toRowW) (X:=(true == true))
  (show WShape.has [] (.bool true) .bool = true by first | rfl | decide | simp [WShape.has,WShape.arms,WShape.armsAll])
  (show (WTm.eq .res (.lit (.bool true))).value [] { args:=args,res:=some (.bool true),after:=args } = some (.bool (true == true)) from w_eq_bool (w_res rfl) w_lit) rfl
theorem attach_call {l:OpenLaw} {n:Nat} {q:Program} {loose:List Str} {XP:(Str→Option Value)→Heap→Prop} {YP:World→Heap→Prop} {d:DefRec}
  (hn:l.most = some n) (hdf:d.params.defaults = [])
  (call:∀ (w:World) (s₀ s₁:Shared) (mg mb:Str→Option Value) (fa:Addr) (o:Obj) (pm cd doc:Value) (a:Addr) (vs:List Value) (ns:List Int),
   Ground q loose [] XP w s₀ mg mb s₁.heap→YP w s₁.heap →
   s₁.heap.get? fa = some o→o.data = .func (docDef d.name d.params d.body d.scope pm cd doc)→s₁.heap.CodeRec cd d.name→mg d.name = some (.ref fa) →
   s₁.heap.get? a = some { cls:=.type "list",data:=.seq vs.toArray }→IntsAre vs ns→ns.length ≤ n→s₁.gens = #[] →
   codeAny (model l.prog w) callerA (.call (.ref fa) ⟨[.ref a],[]⟩) (fun r s'=>r = .ok (.ret (.bool true))∧OldK s₁.heap s'.heap∧s'.os = s₁.os∧AllBare s'.gens) s₁) :
  WalkO q loose XP YP l.row.toRowW d [] (fun f vs=>PySem.call f vs):=by
 intro w s₀ s₁ mg mb G Y fa o pm cd doc dV kV ho hd hcd hD hmg hg args vals as hpre hlay hrd hwl hlo
 obtain rfl:dV = .none:=Dflts.none hD hdf
 obtain rfl:kV = .none:=Dflts.noKw hD
 obtain ⟨a,vs,ns,rfl,rfl,hobj,hints,hlen⟩:=z0u hn hpre hwl
 refine enter_call (codeAny_mono (call w s₀ s₁ mg mb fa o pm cd doc a vs ns G Y ho (fd_plain hd) hcd hmg hobj hints hlen hg) fun r s' hq=>?_)
 obtain ⟨rfl,h2,h3,h4⟩:=hq
 exact ⟨.inl ⟨.bool true,.bool true,[],rfl,fun _=>rfl,.bool true,a1h l _,fun _=>⟨List.Pairwise.nil,fun _ hm=>(nomatch hm)⟩⟩,h2,h3,h4⟩
end Att
namespace L2
open PySem PySem.Spec PyProof.Rows
theorem m0b:∀ {vs:List Value} {ns:List Int},IntsAre vs ns→Vals (ns.map V.int) vs
 | _,_,.nil=>.nil
 | _,_,.cons n t h=>.cons ⟨t,rfl⟩ (m0b h)
def Only (H:Hp):Prop:=∀ b,H b = none ∨ ∃ o xs,H b = some (.frz o (.lst xs))
theorem f1c {P:Program} {w:World} {K:PySem.W.Frag} {mg mb:Str→Option Value} {CX:CXT} {k:Nat} {fa a:Addr} {fd:FuncData} {x:Str} {sp:Sp} {s₁:Shared} {vs:List Value} {ns:List Int}
  (KX:K.In s₁.heap) (hns:s₁.heap.Ns mainGlobals mg) (hb:s₁.heap.Ns builtinsNs mb) (hbb:∀ x:Str,x ≠ "__name__" → mb x = bootBuiltins x) (hlim:s₁.heap.NoLimit) (hg:s₁.gens = #[])
  (ha:s₁.heap.get? a = some { cls:=.type "list",data:=.seq vs.toArray }) (hi:IntsAre vs ns) (hl:ns.length ≤ sizeLine) (hr:Room k callerA)
  (F:∀ base:Heap,K.In base→base.Ns mainGlobals mg→FnOk P w K mg base CX k fa fd [x] sp) (hbind:∀ (s:Shared) (u:Value),BindsTo s fd ⟨[u],[]⟩ [(x,u)])
  (hsp:∀ H:Hp,Only H→SqL K H a (ns.map V.int)→sp [.ref a] H (fun v _=>v = .bl true) fun _ _ _=>False)
  (hCX:∀ H e s',CX [] H s₁ (fun _ _ _=>False) e s'→False) :
  codeAny (model P w) callerA (.call (.ref fa) ⟨[.ref a],[]⟩) (fun r s'=>r = .ok (.ret (.bool true))∧OldK s₁.heap s'.heap∧s'.os = s₁.os∧AllBare s'.gens) s₁:=by
 have rv:=m0b hi
 have lenV:=hi.length
 have core:∀ H:Hp,Only H→SqL K H a (ns.map V.int)→HOk P w H s₁.heap→(∀ b,H b ≠ none→b = a)→(H a ≠ none→K.lookup a = none) →
   codeAny (model P w) callerA (.call (.ref fa) ⟨[.ref a],[]⟩) (fun r s'=>r = .ok (.ret (.bool true))∧OldK s₁.heap s'.heap∧s'.os = s₁.os∧AllBare s'.gens) s₁:=by
  intro H hO hS hok hA hK
  have base_of:∀ {b:Addr} {o:Obj},s₁.heap.get? b = some o→H b = none→(hidT s₁.heap H).get? b = some o:=fun e n=>f1l e n
  have noA:∀ {b:Addr} {o:Obj} {es:Array DictEntry} {ep:Nat},s₁.heap.get? b = some o→o.data = .dict es ep→H b = none:=fun {b o es ep} e d=>by
   cases q:H b with
   | none=>rfl
   | some u =>
    have e':b = a:=hA b (by rw [q]; simp)
    subst e'
    rw [ha] at e; cases e
    have d':Data.seq vs.toArray _ = Data.dict es ep:=d
    cases d'
  have nsK:∀ {b:Addr} {m:Str→Option Value},s₁.heap.Ns b m→(hidT s₁.heap H).Ns b m:=fun {b m} ⟨o,es,ep,e,d,r⟩=>⟨o,es,ep,base_of e (noA e d),d,r⟩
  have hKb:K.In (hidT s₁.heap H):=fun b o e=>base_of (KX b o e) (by
   cases q:H b with
   | none=>rfl
   | some u =>
    have e':b = a:=hA b (by rw [q]; simp)
    subst e'
    rw [hK (by rw [q]; simp)] at e; cases e)
  have hM:Mod K mg (hidT s₁.heap H):=⟨hKb,nsK hns,⟨mb,nsK hb,hbb⟩,let ⟨mc,h1,h2⟩:=hlim; ⟨mc,nsK h1,h2⟩⟩
  have e0:Env0 P w K mg (hidT s₁.heap H) callerA [] s₁ H:=⟨rfl,hM,fun b o e=>j1r e,Nat.le_of_eq (b1t _ _),trivial,fun b hb=>absurd (show b ∈ ([]:List Addr) from hb) (by simp),hok,.of_eq hg⟩
  refine codeAny_mono ((F _ hKb (nsK hns)).run callerA [] s₁ H ⟨[.ref a],[]⟩ [.ref a] [.ref a] _ _ hr e0 (hbind s₁ (.ref a)) (.cons rfl .nil) (hsp H hO hS)) fun r s' h=>?_
  cases r with
  | error e=>exact (hCX H e s' h).elim
  | ok fl =>
   cases fl with
   | next=>exact False.elim h
   | brk=>exact False.elim h
   | cont=>exact False.elim h
   | ret u =>
    obtain ⟨v,H',os,bare,un,hok',r',q⟩:=h
    have q':v = .bl true:=q
    subst q'
    obtain rfl:u = Value.bool true:=r'
    refine ⟨rfl,OldK.of_keep fun b o e=>?_,os,bare⟩
    cases q:H b with
    | none=>exact un.keep b o e q (by intro z; exact absurd (show b ∈ ([]:List Addr) from z) (by simp)) (by simp)
    | some u =>
     rcases hO b with z | ⟨ob,xs,z⟩
     ·rw [q] at z; cases z
     ·have z2:=un.frzs b ob _ z
      obtain ⟨e1,_⟩:=hok b _ z
      obtain ⟨e2,_⟩:=hok' b _ z2
      rw [e] at e1; cases e1
      exact e2
 cases hk:K.lookup a with
 | some o =>
  have e:=KX a o hk
  rw [ha] at e
  cases e
  refine core (fun _=>none) (fun _=>.inl rfl) (.inr ⟨_,vs.toArray,_,hk,rfl,rfl,rfl,by rw [List.size_toArray,lenV]; exact hl,by simpa using rv⟩) (fun b u z=>by have z':(none:Option HO) = some u:=z; cases z') (fun b z=>absurd rfl z) fun z=>absurd rfl z
 | none =>
  refine core (fun b=>if b = a then some (.frz { cls:=.type "list",data:=.seq vs.toArray } (.lst (ns.map V.int))) else none) (fun b=>?_) (.inl (.inr ⟨{ cls:=.type "list",data:=.seq vs.toArray },if_pos rfl⟩)) (fun b u z=>?_) (fun b z=>?_) fun _=>hk
  ·by_cases hb:b = a
   ·exact .inr ⟨_,_,if_pos hb⟩
   ·exact .inl (if_neg hb)
  ·by_cases hb:b = a
   ·have z':=(if_pos hb).symm.trans z
    cases z'
    subst hb
    exact ⟨ha,by rw [List.length_map]; exact hl,vs,_,rv,ha⟩
   ·have z':=(if_neg hb).symm.trans z
    cases z'
  ·by_cases hb:b = a
   ·exact hb
   ·exact absurd (if_neg hb) z
abbrev KOf {K:PySem.W.Frag} {h:Heap} (_:K.In h):PySem.W.Frag:=K
theorem i1c {l:PySem.W.OpenLaw} {n k:Nat} {q:Program} {loose:List Str} {XP:(Str→Option Value)→Heap→Prop} {YP:World→Heap→Prop} {d:DefRec} {K:Params→PySem.W.Frag} {CX:World→CXT} {sp:World→Sp} {x:Str}
  (hn:l.most = some n) (hn2:n ≤ sizeLine) (hdf:d.params.defaults = []) (hr:Room k callerA)
  (hY:∀ (w:World) (h:Heap),YP w h→(K w.params).In h)
  (F:∀ (w:World) (mg:Str→Option Value) (fa:Addr) (h:Heap),(K w.params).In h→h.Ns mainGlobals mg→mg d.name = some (.ref fa) →
   ∃ fd:FuncData,(∀ (s:Shared) (u:Value),BindsTo s fd ⟨[u],[]⟩ [(x,u)]) ∧
    ∀ base:Heap,(K w.params).In base→base.Ns mainGlobals mg→FnOk l.prog w (K w.params) mg base (CX w) k fa fd [x] (sp w))
  (hsp:∀ (w:World) (H:Hp) (a:Addr) (ns:List Int),ns.length ≤ n→Only H→SqL (K w.params) H a (ns.map V.int)→sp w [.ref a] H (fun v _=>v = .bl true) fun _ _ _=>False)
  (hCX:∀ (w:World) (H:Hp) (s:Shared) (e:Value) (s':Shared),CX w [] H s (fun _ _ _=>False) e s'→False) :
  PySem.W.WalkO q loose XP YP l.row.toRowW d [] (fun f vs=>PySem.call f vs):=by
 refine Att.attach_call hn hdf fun w s₀ s₁ mg mb fa o pm cd doc a vs ns G Y ho hd hcd hmg hobj hints hlen hg=>?_
 have KX:=hY w _ Y
 obtain ⟨fd,hb,hF⟩:=F w mg fa _ KX G.T.g hmg
 exact f1c KX G.T.g G.T.b G.T.builtins G.T.nolimit hg hobj hints (Nat.le_trans hlen hn2) hr hF hb (fun H hO hS=>hsp w H a ns hlen hO hS) fun H e s'=>hCX w H s₁ e s'
theorem d1u {l:PySem.W.OpenLaw} {n k:Nat} {q:Program} {loose:List Str} {XP:(Str→Option Value)→Heap→Prop} {YP:World→Heap→Prop} {d:DefRec} {K:Params→PySem.W.Frag} {CX:CXT} {sp:PySem.W.Frag→Sp} {x:Str}
  (hn:l.most = some n) (hn2:n ≤ sizeLine) (hdf:d.params.defaults = []) (hr:Room k callerA)
  (hY:∀ (w:World) (h:Heap),YP w h→(K w.params).In h)
  (F:∀ (w:World) (mg:Str→Option Value) (fa:Addr) (h:Heap),(K w.params).In h→h.Ns mainGlobals mg→mg d.name = some (.ref fa) →
   ∃ fd:FuncData,(∀ (s:Shared) (u:Value),BindsTo s fd ⟨[u],[]⟩ [(x,u)]) ∧
    ∀ base:Heap,(K w.params).In base→base.Ns mainGlobals mg→FnOk l.prog w (K w.params) mg base CX k fa fd [x] (sp (K w.params)))
  (hsp:∀ (K:PySem.W.Frag) (H:Hp) (a:Addr) (ns:List Int),ns.length ≤ n→Only H→SqL K H a (ns.map V.int)→sp K [.ref a] H (fun v _=>v = .bl true) fun _ _ _=>False)
  (hCX:∀ (H:Hp) (s:Shared) (e:Value) (s':Shared),CX [] H s (fun _ _ _=>False) e s'→False) :
  PySem.W.WalkO q loose XP YP l.row.toRowW d [] (fun f vs=>PySem.call f vs) :=
 i1c (K:=K) (CX:=fun _=>CX) (sp:=fun w=>sp (K w.params)) hn hn2 hdf hr hY F (fun w H a ns h1 h2 h3=>hsp (K w.params) H a ns h1 h2 h3) fun _ H s e s'=>hCX H s e s'
def g0z (s:Stmt):Arguments:=match s with
 | .FunctionDef _ a _ _ _ _ _ _ _ _=>a
 | _=>{ posonlyargs:=[],args:=[],vararg:=none,kwonlyargs:=[],kw_defaults:=[],kwarg:=none,defaults:=[] }
def d0k (s:Stmt):List Stmt:=match s with
 | .FunctionDef _ _ b _ _ _ _ _ _ _=>b
 | _=>[]
def a0l (s:Stmt):Scope:=match s with
 | .FunctionDef _ _ _ _ _ _ sc _ _ _=>sc
 | _=>{ kind:=.function,names:=[],isGenerator:=false,isCoroutine:=false }
abbrev CX0:CXT:=fun _ _ _ _ _ _=>False
abbrev E0:XK:=fun _ _ _=>False
theorem m1v {X:Cx}:n0j CX0 X E0:=fun _ _ _ _ _ _ _ h=>h.elim
structure Fun (K:PySem.W.Frag) (x qual:Str) (st:Stmt) (f:Addr) (fd:FuncData):Prop where
 ex:∃ (oc:Value) (od:Option Addr) (kV doc pm:Value) (an:Option Addr) (cdv ct:Value) (osl:Array (Option Value)),
  fd = PySem.W.fnOf x qual (g0z st) (d0k st) (a0l st) .none kV doc pm an cdv ct∧K.lookup f = some ⟨oc,od,.func fd,osl⟩∧PySem.W.codeIn K cdv qual = true
 kp:PySem.W.keepIn K (.ref f) = true
section
variable {P:Program} {w:World} {K:PySem.W.Frag} {mg:Str→Option Value} {base:Heap}
theorem Fun.ok {x qual:Str} {st:Stmt} {f:Addr} {fd:FuncData} {N ps:List Str} {k:Nat} {sp:Sp} (F:Fun K x qual st f fd) (S:b0a N ps (a0l st)) (len:∀ vs H Q E,sp vs H Q E→vs.length = ps.length)
  (hbody:∀ (cdv:Value) (A:Around) (outer:List Env) (s:Shared) (H:Hp) (vs:List V) (Q:VK) (E:XK),Room k (A.deeper (envOfC qual (a0l st) s.heap.objs.size f cdv))→sp vs H Q E →
   ∃ t,PSs (cxOf CX0 P w K mg base N qual (a0l st) f cdv A outer s H E).nox (d0k st) t∧t { nx:=fun _ H'=>Q .non H',rt:=Q } (m0h N vs) H):FnOk P w K mg base CX0 (k + 1) f fd ps sp:=by
 obtain ⟨oc,od,kV,doc,pm,an,cdv,ct,osl,rfl,lk,hcd⟩:=F.ex
 refine o1b lk hcd S len fun A outer s H vs Q E hr hsp=>?_
 obtain ⟨t,h,q⟩:=hbody cdv A outer s H vs Q E hr hsp
 exact ⟨t,h.nox,q⟩
theorem Fun.binds {x qual:Str} {st:Stmt} {f:Addr} {fd:FuncData} {ps:List Str} (F:Fun K x qual st f fd)
  (h:∀ (kV doc pm:Value) (an:Option Addr) (cdv ct:Value) (us:List Value),us.length = ps.length→bindArgs (PySem.W.fnOf x qual (g0z st) (d0k st) (a0l st) .none kV doc pm an cdv ct) ⟨us,[]⟩ = pure (ps.zip us)):n0s K fd ps []:=by
 obtain ⟨oc,od,kV,doc,pm,an,cdv,ct,osl,rfl,lk,hcd⟩:=F.ex
 exact .all (h kV doc pm an cdv ct)
theorem h1u {x qual:Str} {st:Stmt} {f:Addr} {oc:Value} {od an:Option Addr} {osl:Array (Option Value)} {kV doc pm cdv ct:Value} (l:K.lookup f = some ⟨oc,od,.func (PySem.W.fnOf x qual (g0z st) (d0k st) (a0l st) .none kV doc pm an cdv ct),osl⟩)
  (c:PySem.W.codeIn K cdv qual = true) (k:PySem.W.keepIn K (.ref f) = true):Fun K x qual st f (PySem.W.fnOf x qual (g0z st) (d0k st) (a0l st) .none kV doc pm an cdv ct):=⟨⟨oc,od,kV,doc,pm,an,cdv,ct,osl,rfl,l,c⟩,k⟩
end
theorem d0r {A:Around} {k:Nat} (hr:Room k A):A.units + 1 < cLine:=Nat.lt_of_le_of_lt (Nat.add_le_add_left (by decide:1 ≤ 64) _) hr.units
theorem h0i {n:Nat} (h:n ≤ 1000):n < sizeLine:=Nat.lt_of_le_of_lt h (by decide)
section
variable {X:Cx}
theorem pv (i:Nat) {x:Str} {pos:Pos} (hN:X.N[i]? = some x:=by rfl) (hv:Vis X.env.scope x:=by first | exact Or.inl rfl | exact Or.inr (Or.inl rfl) | exact Or.inr (Or.inr rfl)) (hd:(x == ("__debug__" : Str)) = false:=by decide)
  (hcd:(x == ("__classdict__" : Str)) = false:=by decide):PE X (.Name x pos) (tVar i):=m1p hN hv hd hcd
end
theorem ite2 {c A B:Prop} [Decidable c] (h1:c→A) (h2:¬ c→B):if c then A else B:=by
 by_cases h:c
 ·rw [if_pos h]
  exact h1 h
 ·rw [if_neg h]
  exact h2 h
def Same (H H':Hp):Prop:=∀ b o,H b = some o→H' b = some o
theorem Same.refl (H:Hp):Same H H:=fun _ _ h=>h
theorem Same.trans {H H1 H2:Hp} (a:Same H H1) (b:Same H1 H2):Same H H2:=fun c o h=>b c o (a c o h)
theorem Same.free {H H':Hp} (e:Same H H') {l:Addr} (h:H' l = Option.none):H l = Option.none:=by
 cases q:H l with
 | none=>rfl
 | some o =>
  rw [e l o q] at h
  cases h
theorem Same.seq {K:PySem.W.Frag} {H H':Hp} {a:Addr} {xs:List V} (e:Same H H') (h:SqL K H a xs):SqL K H' a xs:=by
 rcases h with (h | ⟨o,h⟩) | h
 ·exact .inl (.inl (e _ _ h))
 ·exact .inl (.inr ⟨o,e _ _ h⟩)
 ·exact .inr h
def h0v (cells:List (Str × Addr)):List (Str × NameKind)→List (Str × Addr)→List (Str × Addr)
 | [],cs=>cs
 | (n,k) :: r,cs=>h0v cells r (if k == .free then (match cells.lookup n with | some c=>(n,c) :: cs | none=>cs) else cs)
def h0u (scope:Scope) (env:Env):List (Str × Addr):=h0v env.cells scope.names []
theorem y0i (env:Env):∀ (names:List (Str × NameKind)) (cs:List (Str × Addr)),(∀ x ∈ names,x.2 = .free→∃ c,env.cells.lookup x.1 = some c) →
  (forIn names cs fun (x:Str × NameKind) (r:List (Str × Addr))=>(if (x.2 == .free) = true then (do let a ← cellOf env x.1; pure (ForInStep.yield ((x.1,a) :: r))) else pure (ForInStep.yield r):Sem (ForInStep (List (Str × Addr))))) = pure (h0v env.cells names cs):=by
 intro names
 induction names with
 | nil=>intro cs _; rfl
 | cons x r ih =>
  intro cs h
  obtain ⟨n,k⟩:=x
  rw [List.forIn_cons]
  have hr:∀ y ∈ r,y.2 = .free→∃ c,env.cells.lookup y.1 = some c:=fun y hy=>h y (List.mem_cons_of_mem _ hy)
  unfold h0v
  by_cases hk:k = .free
  ·subst hk
   obtain ⟨c,hc⟩:=h (n,.free) List.mem_cons_self rfl
   have e:cellOf env n = pure c:=by unfold cellOf; rw [hc]
   rw [if_pos (show (NameKind.free == NameKind.free) = true from rfl),if_pos (show (NameKind.free == NameKind.free) = true from rfl),hc]
   show (cellOf env n >>= fun a=>_) >>= _ = _
   rw [e]
   exact ih _ hr
  ·have hb:(k == NameKind.free) = false:=by simpa using hk
   rw [if_neg (show ¬ (k == NameKind.free) = true by rw [hb]; exact Bool.false_ne_true),if_neg (show ¬ (k == NameKind.free) = true by rw [hb]; exact Bool.false_ne_true)]
   exact ih _ hr
theorem k0e {scope:Scope} {env:Env} (h:∀ x ∈ scope.names,x.2 = .free→∃ c,env.cells.lookup x.1 = some c):closureFor scope env = pure (h0u scope env):=by
 have run:=y0i env scope.names [] h
 unfold closureFor h0u
 have e:(forIn scope.names ([]:List (Str × Addr)) fun (x:Str × NameKind) (r:List (Str × Addr))=>(match x with
   | (name,kind)=>if (kind == NameKind.free) = true then (do let a ← cellOf env name; pure (ForInStep.yield ((name,a) :: r))) else pure (ForInStep.yield r):Sem (ForInStep (List (Str × Addr))))) = pure (h0v env.cells scope.names []):=run
 show (forIn scope.names ([]:List (Str × Addr)) _ >>= fun cs=>pure cs) = _
 exact (congrArg (fun m:Sem (List (Str × Addr))=>m >>= fun cs=>pure cs) e)
theorem o0u (cells:List (Str × Addr)):∀ (names:List (Str × NameKind)) (cs:List (Str × Addr)),(∀ p ∈ cs,cells.lookup p.1 = some p.2)→∀ p ∈ h0v cells names cs,cells.lookup p.1 = some p.2
 | [],cs,h=>h
 | (n,k) :: r,cs,h=>by
  unfold h0v
  refine o0u cells r _ fun p hp=>?_
  by_cases hk:(k == NameKind.free) = true
  ·rw [if_pos hk] at hp
   cases e:cells.lookup n with
   | none=>rw [e] at hp; exact h p hp
   | some c =>
    rw [e] at hp
    rcases List.mem_cons.mp hp with rfl | hp
    ·exact e
    ·exact h p hp
  ·rw [if_neg hk] at hp
   exact h p hp
theorem i0j {scope:Scope} {env:Env} {x:Str} {c:Addr} (h:(h0u scope env).lookup x = some c):env.cells.lookup x = some c :=
 o0u env.cells scope.names [] (fun _ z=>nomatch z) (x,c) (PySem.mem_of_lookup h)
theorem i0o {cs:List (Str × Addr)} {x:Str} {c:Addr} (h:(x,c) ∈ cs):∃ d,cs.lookup x = some d:=by
 induction cs with
 | nil=>cases h
 | cons p r ih =>
  obtain ⟨y,d⟩:=p
  by_cases e:x == y
  ·exact ⟨d,by rw [List.lookup_cons,e]⟩
  ·rcases List.mem_cons.mp h with z | z
   ·cases z; simp at e
   ·obtain ⟨d',q⟩:=ih z
    exact ⟨d',by simp only [Bool.not_eq_true] at e; rw [List.lookup_cons,e]; exact q⟩
theorem n0f (cells:List (Str × Addr)):∀ (names:List (Str × NameKind)) (cs:List (Str × Addr)) (p:Str × Addr),p ∈ cs→p ∈ h0v cells names cs
 | [],_,_,h=>h
 | (n,k) :: r,cs,p,h=>by
  unfold h0v
  refine n0f cells r _ p ?_
  split
  ·split
   ·exact List.mem_cons_of_mem _ h
   ·exact h
  ·exact h
theorem o0v (cells:List (Str × Addr)) {x:Str} {c:Addr} (hc:cells.lookup x = some c):∀ (names:List (Str × NameKind)) (cs:List (Str × Addr)),(x,NameKind.free) ∈ names→(x,c) ∈ h0v cells names cs
 | [],_,h=>nomatch h
 | (n,k) :: r,cs,h=>by
  unfold h0v
  rcases List.mem_cons.mp h with z | z
  ·cases z
   refine n0f cells r _ _ ?_
   rw [if_pos (show (NameKind.free == NameKind.free) = true from rfl),hc]
   exact List.mem_cons_self
  ·exact o0v cells hc r _ z
theorem o0t {scope:Scope} {env:Env} {x:Str} {c:Addr} (h:(x,NameKind.free) ∈ scope.names) (hc:env.cells.lookup x = some c):(h0u scope env).lookup x = some c:=by
 obtain ⟨d,e⟩:=i0o (o0v env.cells hc scope.names [] h)
 have e':(h0u scope env).lookup x = some d:=e
 rw [e',← i0j e',hc]
def blk (X:Cx) (scope:Scope) (N:List Str) (s:Shared) (H:Hp) (C:Addr) (fp:List Addr):Cx where
 prog:=X.prog
 w:=X.w
 K:=X.K
 mg:=X.mg
 base:=X.base
 A:=X.A
 N:=N
 s₀:=s
 H₀:=H
 env:=compEnvC scope (h0u scope X.env) C X.env
 outer:=X.stack
 stack:=X.stack
 ex:=fp
 fn:=fun _=>false
 calm:=X.calm
 pn:=[]
 xe:=fun _ _=>False
def capt (σ:St) (js:List Nat):St:=js.map fun j=>(σ[j]?).getD none
def capN (N:List Str) (js:List Nat):List Str:=js.map fun j=>(N[j]?).getD ""
def bst (n:Nat) (σ:St) (js:List Nat):St:=List.replicate n none ++ capt σ js
theorem v0c {n:Nat} {σ:St} {js:List Nat}:(bst n σ js).length = n + js.length:=by unfold bst capt; simp
section
variable {P:Program} {w:World} {A:Around} {R:Result→Shared→Prop} {s:Shared}
theorem v0b {elt tg iter:Expr} {ifs:List Expr} {scope:Scope} {pos:Pos} {it acc:Value} {env:Env} (J:Nat→Shared→Prop)
  (turn:∀ n s,J n s→wpAny (model P w) A (pyNext it) (fun r s1=>match r with
   | none=>R (.ok .next) s1
   | some v=>wpAny (model P w) A (letOwnedTupleGo tg it v) (fun _ s2=>wpAny (model P w) A (assign tg env v) (fun _ s3 =>
     wpAny (model P w) A (forIn ifs true fun c r=>if r = true then do let ok ← isTrue c env (eval c env); pure (ForInStep.yield ok) else pure (ForInStep.yield r)) (fun ok s4 =>
      if ok = true then wpAny (model P w) A (eval elt env) (fun x s5=>wpAny (model P w) A (call (.builtin "list.append") [acc,x]) (fun _ s6=>∃ m,m < n∧J m s6) (fun _ _=>False) s5) (fun _ _=>False) s4
      else ∃ m,m < n∧J m s4) (fun _ _=>False) s3) (fun _ _=>False) s2) (fun _ _=>False) s1) (fun _ _=>False) s)
  (n:Nat) (h:J n s):codeAny (model P w) A (.compLoop (.ListComp elt [⟨tg,iter,ifs,0⟩] scope pos) 0 it acc env) R s:=by
 have no:∀ {α:Type} {t:Sem α} {Q Q':α→Shared→Prop} {E:Value→Shared→Prop} {s:Shared},wpAny (model P w) A t Q (fun _ _=>False) s→(∀ a s,Q a s→Q' a s)→wpAny (model P w) A t Q' E s :=
  fun h hq=>wpAny_mono h hq fun _ _ f=>f.elim
 refine codeAny_loop rfl J (fun n s hJ=>?_) n h
 show wpAny _ A ((compTurn (.ListComp elt [⟨tg,iter,ifs,0⟩] scope pos) 0 it acc env).onRaise (fun x=>do noteFrame x env; theTreesLotGoes x)) _ _ s
 refine wpAny_noted ?_
 rw [compTurn_list]
 refine wpAny_bind (wpAny_standAt (wpAny_bind (no (turn n s hJ) fun r s1 h1=>?_)))
 cases r with
 | none=>exact wpAny_pure h1
 | some v =>
  refine wpAny_bind (no h1 fun _ s2 h2=>wpAny_bind (no h2 fun _ s3 h3=>wpAny_bind (no h3 fun ok s4 h4=>?_)))
  cases ok with
  | false=>exact wpAny_pure ⟨rfl,h4⟩
  | true=>exact wpAny_bind (wpAny_bind (no h4 fun x s5 h5=>wpAny_bind (no h5 fun _ s6 h6=>wpAny_pure (wpAny_pure ⟨rfl,h6⟩))))
end
def PTs (X:Cx) (ifs:List Expr) (t:TT):Prop :=
 ∀ (pins:List (Addr × Obj)) (s:Shared) (σ:St) (H:Hp) (Q:Bool→Hp→Prop),Inv X pins σ H s→t σ H Q →
  wpAny (model X.prog X.w) X.A (forIn ifs true fun c r=>if r = true then do let ok ← isTrue c X.env (eval c X.env); pure (ForInStep.yield ok) else pure (ForInStep.yield r)) (TP X pins σ Q) X.xe s
def tAll:TT:=fun _ H Q=>Q true H
theorem k0l {X:Cx}:PTs X [] tAll:=fun _ _ _ H _ I h=>wpAny_tests_nil ⟨H,I,h⟩
theorem t0p {X:Cx} {c:Expr} {t:TT} (h:PT X c t):PTs X [c] t:=fun pins s σ H Q I hq=>wpAny_tests_one (h pins s σ H Q I hq)
def p1e (J:It) (n:Nat) (js:List Nat) (g:TG) (tc:TT) (te:TE) (Q:VK) (σ:St) (H1:Hp):Prop:=∃ W:Nat→Nat→List V→Hp→Prop,(∃ m,W 0 m [] H1)∧∀ i m ys H,W i m ys H →
 (J.stop i H∧ys.length ≤ sizeLine∧∀ l,H l = none→Q (.ref l) (upd H l (.lst ys))) ∨
 (J.go i H∧ys.length < sizeLine∧∃ N:List V→Hp→Prop,(∀ zs H',N zs H'→∃ m',m' < m∧W (i + 1) m' zs H')∧∀ x H',J.yld i H x H'→g x (bst n σ js) H' fun σ2 H2=>σ2.drop n = capt σ js∧tc σ2 H2 fun b H3 =>
  if b = true then te σ2 H3 fun v H4=>N (ys ++ [v]) H4 else N ys H3)
def z0i (n:Nat) (js:List Nat) (wi:TI) (g:TG) (tc:TT) (te:TE):TE:=fun σ H Q=>wi σ H fun J H1=>p1e J n js g tc te Q σ H1
section
variable {X:Cx}
structure Blk (X:Cx) (scope:Scope) (own:List Str) (js:List Nat):Prop where
 kind:scope.kind = .function
 nocell:∀ y ∈ scope.names,y.2 ≠ .cell
 names:∀ y ∈ scope.names,y.2 = .local→scope.names.lookup y.1 = some .local
 free:∀ y ∈ scope.names,y.2 = .free→X.env.kindOf y.1 = some .cell ∨ X.env.kindOf y.1 = some .free
 uniq:∀ x,(x,NameKind.free) ∈ scope.names→scope.names.lookup x = some .free
 nd:(own ++ capN X.N js).Nodup
 cap:∀ j ∈ js,j < X.N.length∧((X.N[j]?).getD "",NameKind.free) ∈ scope.names
def blkB (sc:Scope) (N:List Str) (scope:Scope) (own:List Str) (js:List Nat):Bool :=
 scope.kind == .function && scope.names.all (fun y=>y.2 != .cell) && scope.names.all (fun y=>y.2 != .local || scope.names.lookup y.1 == some .local) &&
 scope.names.all (fun y=>y.2 != .free || sc.names.lookup y.1 == some .cell || sc.names.lookup y.1 == some .free) && scope.names.all (fun y=>y.2 != .free || scope.names.lookup y.1 == some .free) &&
 decide (own ++ capN N js).Nodup && js.all (fun j=>decide (j < N.length) && scope.names.any fun y=>y.1 == (N[j]?).getD "" && y.2 == .free)
theorem Blk.of {scope:Scope} {own:List Str} {js:List Nat} (sc:Scope) (N:List Str) (h:blkB sc N scope own js = true:=by decide +kernel) (e1:X.env.scope = sc:=by rfl) (e2:X.N = N:=by rfl):Blk X scope own js:=by
 subst e1 e2
 unfold blkB at h
 simp only [Bool.and_eq_true,List.all_eq_true,decide_eq_true_eq,beq_iff_eq] at h
 obtain ⟨⟨⟨⟨⟨⟨h1,h2⟩,h3⟩,h4⟩,h5⟩,h6⟩,h7⟩:=h
 refine ⟨h1,fun y hy=>by simpa using h2 y hy,fun y hy e=>?_,fun y hy e=>?_,fun x hx=>?_,h6,fun j hj=>?_⟩
 ·have:=h3 y hy
  simpa [e] using this
 ·have:=h4 y hy
  simp only [e,bne_self_eq_false,Bool.false_or,Bool.or_eq_true,beq_iff_eq] at this
  exact this
 ·have:=h5 _ hx
  simpa using this
 ·obtain ⟨a,b⟩:=h7 j hj
  refine ⟨a,?_⟩
  obtain ⟨y,hy,e⟩:=List.any_eq_true.mp b
  simp only [Bool.and_eq_true,beq_iff_eq] at e
  obtain ⟨e1,e2⟩:=e
  rw [← e1,← e2]
  exact hy
theorem e0h {env:Env}:∀ {names:List (Str × NameKind)} {x:Str} {k:NameKind},
  (names.map fun (n,k)=>if (k == NameKind.free && env.scope.kind == .function && env.kindOf n == some .cell) then (n,NameKind.cell) else (n,k)).lookup x = some k→names.lookup x = some k ∨ (k = .cell∧names.lookup x = some .free)
 | [],_,_,h=>by simp at h
 | (n,q) :: r,x,k,h=>by
  have ih:=@e0h env r x k
  cases hx:x == n with
  | true =>
   by_cases hc:(q == NameKind.free && env.scope.kind == .function && env.kindOf n == some .cell) = true
   ·simp only [List.map_cons,if_pos hc,List.lookup_cons,hx] at h
    cases h
    simp only [Bool.and_eq_true,beq_iff_eq] at hc
    obtain ⟨⟨hq,_⟩,_⟩:=hc
    subst hq
    exact .inr ⟨rfl,by rw [List.lookup_cons,hx]⟩
   ·simp only [List.map_cons,if_neg hc,List.lookup_cons,hx] at h
    cases h
    exact .inl (by rw [List.lookup_cons,hx])
  | false =>
   have h':(r.map fun (n,k)=>if (k == NameKind.free && env.scope.kind == .function && env.kindOf n == some .cell) then (n,NameKind.cell) else (n,k)).lookup x = some k:=by
    by_cases hc:(q == NameKind.free && env.scope.kind == .function && env.kindOf n == some .cell) = true
    ·simp only [List.map_cons,if_pos hc,List.lookup_cons,hx] at h
     exact h
    ·simp only [List.map_cons,if_neg hc,List.lookup_cons,hx] at h
     exact h
   rcases ih h' with z | ⟨z,z'⟩
   ·exact .inl (by rw [List.lookup_cons,hx]; exact z)
   ·exact .inr ⟨z,by rw [List.lookup_cons,hx]; exact z'⟩
theorem l1b {scope:Scope} {own:List Str} {js:List Nat} {pins:List (Addr × Obj)} {σ:St} {H:Hp} {s:Shared} {fp:List Addr} {C:Addr} {h1:Heap} {tk:Nat} (B:Blk X scope own js) (I:Inv X pins σ H s)
  (hfp:∀ b ∈ fp,FpOk X pins H b) (hfo:∀ b ∈ fp,∃ o,s.heap.get? b = some o) (hC:s.heap.objs.size ≤ C) (hns:h1.Ns C fun _=>none) (hk:∀ b o,s.heap.get? b = some o→h1.get? b = some o) :
  Inv (blk X scope (own ++ capN X.N js) s H C fp) [] (bst own.length σ js) H { s with heap:=h1,toks:=tk }:=by
 have kindC:∀ x,(blk X scope (own ++ capN X.N js) s H C fp).env.kindOf x = some .cell ∨ (blk X scope (own ++ capN X.N js) s H C fp).env.kindOf x = some .free→(x,NameKind.free) ∈ scope.names:=fun x hx=>by
  have hx':(relabel scope X.env).names.lookup x = some .cell ∨ (relabel scope X.env).names.lookup x = some .free:=hx
  rcases hx' with z | z
  ·rcases e0h z with q | ⟨_,q⟩
   ·exact absurd rfl (B.nocell _ (PySem.mem_of_lookup q))
   ·exact PySem.mem_of_lookup q
  ·rcases e0h z with q | ⟨_,q⟩
   ·exact PySem.mem_of_lookup q
   ·exact PySem.mem_of_lookup q
 have has:∀ x,(x,NameKind.free) ∈ scope.names→∃ c,X.env.cells.lookup x = some c:=fun x hx=>I.ok.has x (B.free (x,.free) hx rfl)
 have old:∀ {x c},(h0u scope X.env).lookup x = some c→X.env.cells.lookup x = some c:=fun e=>i0j e
 have cellLt:∀ {x c},X.env.cells.lookup x = some c→c < s.heap.objs.size:=fun {x c} e=>by
  obtain ⟨v,o,ho,_⟩:=I.cell x c e
  exact Heap.lt_size ho
 have fpLt:∀ b ∈ fp,b < s.heap.objs.size:=fun b hb=>let ⟨_,e⟩:=hfo b hb; Heap.lt_size e
 have fsOk:∀ b ∈ frs X.stack,b ∈ X.env.locals :: X.fs:=I.stkSub
 refine ⟨⟨I.ok.mod,?_,I.ok.glob,I.ok.blt,hC,fun x y c e1 e2=>I.ok.inj x y c (old e1) (old e2),fun x hx=>?_,fun x c z _=>absurd z Bool.false_ne_true,I.ok.hd,I.ok.frames,.inl rfl,fun b hb=>⟨?_,fun x c e=>?_⟩,I.bs,Nat.le_trans I.ok.bsz I.sz,
   fun b o e hb=>?_,fun b hb hf=>?_,I.stack,I.stkFree⟩,rfl,I.bare,Un.kept hk,⟨_,hns,fun i x v e1 e2 e3=>?_⟩,fun x c e=>?_,?_,fun x c e=>I.freeC x c (old e),fun p hp=>absurd hp (by show p ∉ [] ++ []; simp),I.hok.kept hk,?_⟩
 ·show (relabel scope X.env).kind = .function
  exact B.kind
 ·obtain ⟨c,e⟩:=has x (kindC x hx)
  exact ⟨c,o0t (kindC x hx) e⟩
 ·exact Nat.ne_of_lt (Nat.lt_of_lt_of_le (fpLt b hb) hC)
 ·exact (hfp b hb).2.2.2.2.1 x c (old e)
 ·have e1:=I.bs b o e
  obtain ⟨f0,f1,f2,f3,f4,f5⟩:=hfp b hb
  rcases f3 with z | z
  ·exact I.ok.noex b o e z
  ·exact absurd (Nat.lt_of_lt_of_le (Heap.lt_size (I.ok.bs b o e).1) z) (Nat.lt_irrefl _)
 ·obtain ⟨f0,f1,f2,f3,f4,f5⟩:=hfp b hb
  rcases List.mem_cons.mp (fsOk b hf) with z | z
  ·exact f1 z
  ·exact f2 z
 ·-- a captured name's value
  have hi:own.length ≤ i:=by
   rcases Nat.lt_or_ge i own.length with z | z
   ·exfalso
    have e2':(List.replicate own.length (none:Option V) ++ capt σ js)[i]? = some (some v):=e2
    rw [List.getElem?_append_left (by simpa using z),List.getElem?_replicate] at e2'
    split at e2' <;> cases e2'
   ·exact z
  have e1':(own ++ capN X.N js)[i]? = some x:=e1
  have e2':(List.replicate own.length (none:Option V) ++ capt σ js)[i]? = some (some v):=e2
  rw [List.getElem?_append_right hi] at e1'
  rw [List.getElem?_append_right (by simpa using hi),List.length_replicate] at e2'
  unfold capN at e1'
  unfold capt at e2'
  rw [List.getElem?_map] at e1' e2'
  cases ej:js[i - own.length]? with
  | none=>rw [ej] at e1'; cases e1'
  | some j =>
   rw [ej] at e1' e2'
   have e1'':(X.N[j]?).getD "" = x:=Option.some.inj e1'
   have e2'':(σ[j]?).getD none = some v:=Option.some.inj e2'
   obtain ⟨hj,hm⟩:=B.cap j (List.mem_of_getElem? ej)
   have eN:X.N[j]? = some x:=by
    rw [List.getElem?_eq_getElem hj] at e1'' ⊢
    exact congrArg some e1''
   have eS:σ[j]? = some (some v):=by
    cases q:σ[j]? with
    | none=>rw [q] at e2''; cases e2''
    | some u=>rw [q] at e2''; exact congrArg some e2''
   rw [e1''] at hm
   obtain ⟨m,_,hl⟩:=I.loc
   have hv:Vis X.env.scope x:=by
    rcases B.free (x,.free) hm rfl with z | z
    ·exact .inr (.inl z)
    ·exact .inr (.inr z)
   obtain ⟨u,r,l⟩:=hl j x v eN eS hv
   obtain ⟨c,hc⟩:=has x hm
   refine ⟨u,r,.inr ⟨?_,c,o0t hm hc,?_⟩⟩
   ·rcases e3 with z | z | z
    ·exfalso
     have z':(relabel scope X.env).names.lookup x = some .local:=z
     rcases e0h z' with q | ⟨q,_⟩
     ·rw [B.uniq x hm] at q
      cases q
     ·cases q
    ·exact .inl z
    ·exact .inr z
   ·rcases l with ⟨k1,_⟩ | ⟨k2,c2,e2,ic⟩
    ·rcases B.free (x,.free) hm rfl with t | t <;> (rw [k1] at t; cases t)
    ·rw [hc] at e2; cases e2
     obtain ⟨o,ho,hd⟩:=ic
     exact ⟨o,hk c o ho,hd⟩
 ·obtain ⟨v,o,ho,hd⟩:=I.cell x c (old e)
  exact ⟨v,o,hk c o ho,hd⟩
 ·exact I.hok.fresh hC
 ·rw [v0c]
  show _ = (own ++ capN X.N js).length
  unfold capN
  simp
end
section
variable {X:Cx}
theorem Inv.young {pins:List (Addr × Obj)} {σ:St} {H:Hp} {s:Shared} {h':Heap} {c:Addr} (I:Inv X pins σ H s) (hs:Heap.SameBut c s.heap h') (hn:H c = none) (h1:X.s₀.heap.objs.size ≤ c) (hL:c ≠ X.env.locals)
  (h2:∀ x d,X.env.cells.lookup x = some d→d ≠ c) (h3:∀ p ∈ X.pn ++ pins,p.1 ≠ c):Inv X pins σ H { s with heap:=h' } :=
 I.turned (t':=s.toks) (fun b o hb e=>(hs.2 b hb).trans e) hn hL (.inr h1) h2 h3
theorem Inv.track {pins:List (Addr × Obj)} {σ:St} {H:Hp} {s:Shared} {D:Addr} {ys:List V} {its:List Value} {n:Nat} (I:Inv X pins σ H s) (hn:H D = none) (h1:X.s₀.heap.objs.size ≤ D) (hL:D ≠ X.env.locals)
  (h2:∀ x d,X.env.cells.lookup x = some d→d ≠ D) (h3:∀ p ∈ X.pn ++ pins,p.1 ≠ D) (hz:ys.length ≤ sizeLine) (r:Vals ys its) (e:s.heap.get? D = some { cls:=.type "list",data:=.seq its.toArray n }) :
  Inv X pins σ (upd H D (.lst ys)) s:=by
 have ne:∀ {b u},H b = some u→b ≠ D:=fun {b u} q=>b0h q hn
 refine ⟨I.ok,I.os,I.bare,⟨I.base.keep,I.base.slot,fun b o q z hx=>?_,I.base.there,fun b xs q=>?_,fun b o u q=>?_,fun b ps q=>?_⟩,I.loc,I.cell,?_,fun x c q=>?_,fun p hp=>?_,fun b o q=>?_,I.len⟩
 ·rw [a0o (Nat.ne_of_lt (Nat.lt_of_lt_of_le (Heap.lt_size q) h1))]
  exact I.base.free b o q z hx
 ·have q':=I.base.tups b xs q
  rw [a0o (ne q')]; exact q'
 ·have q':=I.base.frzs b o u q
  rw [a0o (ne q')]; exact q'
 ·obtain ⟨more,q'⟩:=I.base.tbls b ps q
  exact ⟨more,by rw [a0o (ne q')]; exact q'⟩
 ·rw [a0o (Ne.symm hL)]; exact I.free
 ·rw [a0o (h2 x c q)]; exact I.freeC x c q
 ·obtain ⟨a1,a2,a3⟩:=I.pin p hp
  exact ⟨a1,by rw [a0o (h3 p hp)]; exact a2,a3⟩
 ·by_cases hb:b = D
  ·subst hb
   rw [b0g] at q
   cases q
   exact ⟨hz,its,n,r,e⟩
  ·rw [a0o hb] at q
   refine (I.hok b o q).stay (fun _ _ _ z=>z) (fun c z=>?_) fun c xs z=>?_
   ·rw [a0o (ne z)]; exact z
   ·rw [a0o (ne z)]; exact z
def p1f (X:Cx) (pins:List (Addr × Obj)) (σ:St) (Q:VK) (C:Addr) (acc:Value) (s':Shared):Prop :=
 ∃ (D:Addr) (H:Hp) (m:Str→Option Value),acc = .ref D∧s'.heap.Ns C m∧Inv X pins σ H s'∧H C = none∧X.s₀.heap.objs.size ≤ C∧C ≠ X.env.locals∧(∀ x d,X.env.cells.lookup x = some d→d ≠ C)∧(∀ p ∈ X.pn ++ pins,p.1 ≠ C)∧Q (.ref D) H
theorem o0s {elt tg iter:Expr} {ifs:List Expr} {scope:Scope} {pos:Pos} {own:List Str} {js:List Nat} {g:TG} {tc:TT} {te:TE} {Q:VK} {pins:List (Addr × Obj)} {σ:St} {s2:Shared} {itv:Value} {E:Value→Shared→Prop}
  {RR:Value→Addr→Result→Shared→Prop} (hc:X.calm = true) (B:Blk X scope own js) (hg:∀ s H C fp,(own ++ capN X.N js).Nodup→PG (blk X scope (own ++ capN X.N js) s H C fp) tg g) (ht:∀ s H C fp,PTs (blk X scope (own ++ capN X.N js) s H C fp) ifs tc)
  (he:∀ s H C fp,PE (blk X scope (own ++ capN X.N js) s H C fp) elt te)
  (h:PIE X pins σ tg (fun J H1=>p1e J own.length js g tc te Q σ H1) itv s2)
  (hR:∀ C acc s',p1f X pins σ Q C acc s'→RR acc C (.ok .next) s') :
  wpAny (model X.prog X.w) X.A (newList []) (fun acc s3=>wpAny (model X.prog X.w) X.A (newFunctionEnv scope X.env.globals (h0u scope X.env) [] X.env.qual none .none (some X.env)) (fun cenv s4 =>
   codeAny (model X.prog X.w) X.A (.compStart (.ListComp elt [⟨tg,iter,ifs,0⟩] scope pos) 0 itv acc { cenv with scope:=relabel scope X.env }) (RR acc cenv.locals) s4) E s3) E s2:=by
 obtain ⟨it,fp,tn,J,H2,rfl,I2,T,st2,f2,W,⟨m0,w0⟩,turn⟩:=h
 refine wpAny_newObj_type (wpAny_newFunctionEnv B.nocell (by intro y hy; simp at hy) (fun h1 hns1 hsb1=>?_) B.kind)
 generalize hPu:s2.heap.push { cls:=.type "list",dict:=none,data:=.seq ([]:List Value).toArray } = Pu at hns1 hsb1 ⊢
 dsimp only at hns1 hsb1 ⊢
 have hDC:Pu.objs.size = s2.heap.objs.size + 1:=by rw [← hPu,Heap.size_push]
 generalize hD:s2.heap.objs.size = D at hDC ⊢
 have gD:Pu.get? D = some { cls:=.type "list",dict:=none,data:=.seq ([]:List Value).toArray }:=by
  rw [← hPu,← hD]; exact Heap.get?_push_size _ rfl
 generalize hC:Pu.objs.size = C at hns1 hsb1 hDC ⊢
 have ltDC:D < C:=by rw [hDC]; exact Nat.lt_succ_self D
 have neDC:D ≠ C:=Nat.ne_of_lt ltDC
 have keep1:∀ b o,s2.heap.get? b = some o→h1.get? b = some o:=fun b o e=>by
  have hb:b < D:=by rw [← hD]; exact Heap.lt_size e
  have hb2:b ≠ C:=Nat.ne_of_lt (Nat.lt_trans hb ltDC)
  refine (hsb1.2 b hb2).trans (Heap.get?_push_of_some _ ?_)
  rw [← hPu]
  exact Heap.get?_push_of_some _ e
 have gD1:h1.get? D = some { cls:=.type "list",dict:=none,data:=.seq ([]:List Value).toArray }:=(hsb1.2 D neDC).trans (Heap.get?_push_of_some _ gD)
 have szD:s2.heap.objs.size ≤ D:=Nat.le_of_eq hD
 have szC:s2.heap.objs.size ≤ C:=Nat.le_trans szD (Nat.le_of_lt ltDC)
 have old:∀ {b:Addr},b < s2.heap.objs.size→b ≠ D∧b ≠ C:=fun hb=>⟨Nat.ne_of_lt (Nat.lt_of_lt_of_le hb szD),Nat.ne_of_lt (Nat.lt_of_lt_of_le hb szC)⟩
 have fpo:∀ b ∈ fp,∃ o,s2.heap.get? b = some o:=fun b hb=>let ⟨o,e,_⟩:=T.obj 0 _ st2 b hb; ⟨o,e⟩
 have fpD:∀ b ∈ fp,b ≠ D∧b ≠ C:=fun b hb=>by
  obtain ⟨o,e⟩:=fpo b hb
  exact old (Heap.lt_size e)
 have clD:∀ x d,X.env.cells.lookup x = some d→d ≠ D∧d ≠ C:=fun x d e=>by
  obtain ⟨v,o,ho,_⟩:=I2.cell x d e
  exact old (Heap.lt_size ho)
 have pinD:∀ p ∈ X.pn ++ pins,p.1 ≠ D∧p.1 ≠ C:=fun p hp=>by
  exact old (Heap.lt_size (I2.pin p hp).1)
 have locD:D ≠ X.env.locals∧C ≠ X.env.locals:=by
  exact ⟨(old I2.lt).1.symm,(old I2.lt).2.symm⟩
 let Y:=blk X scope (own ++ capN X.N js) s2 H2 C fp
 have IB:Inv Y [] (bst own.length σ js) H2 { s2 with heap:=h1,toks:=s2.toks + ([]:List (Str × Value)).length }:=l1b B I2 f2 fpo szC hns1 keep1
 have fpB:∀ {H':Hp} {pl:List (Addr × Obj)},(∀ b ∈ fp,H' b = none)→(∀ p ∈ pl,p.1 = D)→∀ b ∈ fp,FpOk Y pl H' b:=fun {H' pl} hn hp b hb=>by
  obtain ⟨f0,f1,f3,f4,f5,f6⟩:=f2 b hb
  refine ⟨hn b hb,(fpD b hb).2,fun z=>?_,.inl hb,fun x c e=>f5 x c (i0j e),fun p q=>?_⟩
  ·rcases List.mem_cons.mp (I2.stkSub b z) with z | z
   ·exact f1 z
   ·exact f3 z
  ·have q':p ∈ pl:=by simpa [Y,blk] using q
   rw [hp p q']
   exact (fpD b hb).1.symm
 have clB:∀ x d,Y.env.cells.lookup x = some d→d ≠ D:=fun x d e=>(clD x d (i0j e)).1
 have notFs:D ∉ Y.fs:=fun z=>by
  obtain ⟨_,o,ho,_⟩:=IB.ok.funs.mem z
  exact (old (Heap.lt_size (show s2.heap.get? D = some o from ho))).1 rfl
 have loop:∀ s3:Shared,s3 = { s2 with heap:=h1,toks:=s2.toks + ([]:List (Str × Value)).length } →
   codeAny (model X.prog X.w) X.A (.compLoop (.ListComp elt [⟨tg,iter,ifs,0⟩] scope pos) 0 (.ref it) (.ref D) (compEnvC scope (h0u scope X.env) C X.env)) (RR (.ref D) C) s3:=by
  rintro s3 rfl
  refine v0b (fun n s'=>∃ (i:Nat) (ys:List V) (its:List Value) (k:Nat) (H':Hp),Inv Y [] (bst own.length σ js) H' s'∧tn i s'.heap∧(∀ b ∈ fp,H' b = none)∧H' D = none∧Vals ys its ∧
   s'.heap.get? D = some { cls:=.type "list",data:=.seq its.toArray k }∧W i n ys H') ?_ m0 ⟨0,[],[],0,H2,IB,T.keep 0 _ _ st2 (fun b hb o e=>keep1 b o e),fun b hb=>(f2 b hb).1,I2.hok.fresh szD,.nil,gD1,w0⟩
  rintro n s3 ⟨i,ys,its,k,H3,I3,st3,fr3,hD3,r3,g3,w3⟩
  have I3p:Inv Y [(D,{ cls:=.type "list",data:=.seq its.toArray k })] (bst own.length σ js) H3 s3:=I3.pins_of fun p hp=>by
   have e:p = (D,{ cls:=.type "list",data:=.seq its.toArray k }):=by simpa using hp
   subst e
   exact ⟨g3,hD3,neDC,notFs,fun v z=>by cases z⟩
  have f3:∀ b ∈ fp,FpOk Y [(D,{ cls:=.type "list",data:=.seq its.toArray k })] H3 b:=fpB fr3 fun p hp=>by
   have e:p = (D,{ cls:=.type "list",data:=.seq its.toArray k }):=by simpa using hp
   rw [e]
  rcases turn i n ys H3 w3 with ⟨stop,hz,qn⟩ | ⟨go,hz,N,hN,step⟩
  ·refine thn (T.done Y rfl rfl rfl hc i _ s3 _ H3 (fun _ _=>False) I3p f3 st3 stop) fun r s4 ⟨hr,I4⟩=>?_
   subst hr
   refine hR C _ s4 ?_
   have g4:=(I4.pin (D,{ cls:=.type "list",data:=.seq its.toArray k }) (by simp [Y,blk])).1
   obtain ⟨m,hn4,_⟩:=id I4.loc
   have un:Un (frs X.stack) fp H2 H3 s2.heap s4.heap:=I4.base
   have I5:Inv X pins σ H3 s4:=I2.call' I4.os un I4.hok I4.bare fun b hb=>let ⟨_,b1,_,b3,b4,b5⟩:=f2 b hb; ⟨b3,b1,b4,b5⟩
   have I6:=I5.track (ys:=ys) (its:=its) (n:=k) hD3 (Nat.le_trans I2.sz szD) locD.1 (fun x d e=>(clD x d e).1) (fun p hp=>(pinD p hp).1) hz r3 g4
   refine ⟨D,_,m,rfl,hn4,I6,?_,Nat.le_trans I2.sz szC,locD.2,fun x d e=>(clD x d e).2,fun p hp=>(pinD p hp).2,qn D hD3⟩
   rw [a0o (Ne.symm neDC)]
   exact I4.free
  ·refine thn (T.item Y rfl rfl rfl hc i _ s3 _ H3 (fun _ _=>False) I3p f3 st3 go) fun r s4 ⟨u,hr,h4⟩=>?_
   subst hr
   refine thn h4 fun _ s5 ⟨x,H5,I5,r5,y5,st5,fr5⟩=>?_
   have f5:∀ b ∈ fp,FpOk Y [(D,{ cls:=.type "list",data:=.seq its.toArray k })] H5 b:=fun b hb=>⟨fr5 b hb,(f3 b hb).2⟩
   have I5':=I5.pinned f5 (T.obj _ _ st5)
   refine thn (hg s2 H2 C fp B.nd _ s5 _ H5 x u _ I5' r5 (step x H5 y5)) fun _ s6 ⟨σ6,H6,I6,d6,q6⟩=>?_
   refine thn (ht s2 H2 C fp _ s6 σ6 H6 _ I6 q6) fun ok s7 ⟨H7,I7,q7⟩=>?_
   have after:∀ {s8:Shared} {H8:Hp},Inv Y ([(D,{ cls:=.type "list",data:=.seq its.toArray k })] ++ o0c fp s5.heap) σ6 H8 s8 →
     s8.heap.get? D = some { cls:=.type "list",data:=.seq its.toArray k }∧H8 D = none∧tn (i + 1) s8.heap∧(∀ b ∈ fp,H8 b = none)∧Inv Y [] (bst own.length σ js) H8 s8:=fun {s8 H8} I8=>by
    have p8:=I8.pin (D,{ cls:=.type "list",data:=.seq its.toArray k }) (by simp [Y,blk])
    refine ⟨p8.1,p8.2.1,T.keep _ _ _ st5 fun b hb o e=>(I8.pin (b,o) (List.mem_append_right _ (List.mem_append_right _ (f0b hb e)))).1,fun b hb=>?_,?_⟩
    ·obtain ⟨o,e,_⟩:=T.obj _ _ st5 b hb
     exact (I8.pin (b,o) (List.mem_append_right _ (List.mem_append_right _ (f0b hb e)))).2.1
    ·refine (I8.pins_of (pins':=[]) fun p hp=>absurd hp (by simp [Y,blk])).weak ?_ fun j v e=>?_
     ·rw [I8.len,v0c]
      show _ = (own ++ capN X.N js).length
      unfold capN
      simp
     ·rcases Nat.lt_or_ge j own.length with z | z
      ·exfalso
       unfold bst at e
       rw [List.getElem?_append_left (by simpa using z),List.getElem?_replicate] at e
       split at e <;> cases e
      ·unfold bst at e
       rw [List.getElem?_append_right (by simpa using z),List.length_replicate,← d6,List.getElem?_drop] at e
       rw [← e]
       congr 1
       omega
   cases ok with
   | false =>
    rw [if_neg Bool.false_ne_true] at q7 ⊢
    obtain ⟨m',hm,w7⟩:=hN _ _ q7
    obtain ⟨a1,a2,a3,a4,a5⟩:=after I7
    exact ⟨m',hm,i + 1,ys,its,k,H7,a5,a3,a4,a2,r3,a1,w7⟩
   | true =>
    rw [if_pos rfl] at q7 ⊢
    refine thn (he s2 H2 C fp _ s7 σ6 H7 _ I7 q7) fun u8 s8 ⟨v8,H8,I8,r8,n8⟩=>?_
    obtain ⟨m',hm,w8⟩:=hN _ _ n8
    obtain ⟨a1,a2,a3,a4,a5⟩:=after I8
    have hsz:its.toArray.size < sizeLine:=by rw [List.size_toArray,← r3.length]; exact hz
    refine call_meets F.slot_list_append ⟨_,a1,rfl⟩ F.entry_list_append (F.args_list_append_2 _ _) (PySem.list_append D its.toArray k u8 (by omega)) ⟨a1,?_⟩
    have q9:=PySem.IsL.update a1 (fun xs=>xs.push u8)
    have sb:Heap.SameBut D s8.heap (s8.heap.update D (Obj.mapSeq fun xs=>xs.push u8)):=Heap.SameBut.update ..
    have I9:=a5.young sb a2 szD neDC clB (fun p hp=>absurd hp (by show p ∉ [] ++ []; simp))
    have fin:∃ k',(s8.heap.update D (Obj.mapSeq fun xs=>xs.push u8)).get? D = some { cls:=.type "list",data:=.seq (its ++ [u8]).toArray k' }:=⟨_,by
     rw [show (its ++ [u8]).toArray = its.toArray.push u8 by simp]
     exact q9⟩
    obtain ⟨k',fin⟩:=fin
    exact ⟨m',hm,i + 1,ys ++ [v8],its ++ [u8],k',H8,I9,T.keep _ _ _ a3 (fun b hb o e=>(sb.2 b (fpD b hb).1).trans e),a4,a2,r3.append (.cons r8 .nil),fin,w8⟩
 exact codeAny_compStart_list (loop _ rfl) (T.self _ 0 _ _ _ (T.keep 0 _ _ st2 fun b hb o e=>keep1 b o e) (loop _ rfl))
theorem j0d {elt tg iter:Expr} {ifs:List Expr} {scope:Scope} {pos:Pos} (own:List Str) (js:List Nat) {wi:TI} {g:TG} {tc:TT} {te:TE} (hc:X.calm = true) (B:Blk X scope own js) (hi:PI X tg iter wi)
  (hg:∀ s H C fp,(own ++ capN X.N js).Nodup→PG (blk X scope (own ++ capN X.N js) s H C fp) tg g) (ht:∀ s H C fp,PTs (blk X scope (own ++ capN X.N js) s H C fp) ifs tc) (he:∀ s H C fp,PE (blk X scope (own ++ capN X.N js) s H C fp) elt te)
  (hs:∀ x,foldedSetIterable iter X.env x = pure x:=by intro _; rfl):PE X (.ListComp elt [⟨tg,iter,ifs,0⟩] scope pos) (z0i own.length js wi g tc te):=by
 intro pins s σ H Q I h
 have hcl:closureFor scope X.env = pure (h0u scope X.env):=k0e fun x hx hf=>I.ok.has x.1 (B.free x hx hf)
 rw [eval_ListComp]
 refine wpAny_comprehension_free (use:=none) rfl hs hcl B.kind B.names (thn (hi pins s σ H _ I h) fun v s1 h1=>thn h1 fun itv s2 h2=>?_)
 refine o0s (RR:=fun acc C=>compPost (model X.prog X.w) X.A X.xe none (EP X pins σ Q) acc C) hc B hg ht he h2 fun C acc s' hb=>?_
 obtain ⟨D,H',m,rfl,hn,I',c1,c2,c3,c4,c5,q⟩:=hb
 exact ⟨m,hn,fun h' hs'=>⟨.ref D,H',I'.young hs' c1 c2 c3 c4 c5,rfl,q⟩⟩
theorem a1e {elt tg iter:Expr} {ifs:List Expr} {scope:Scope} {pos pos' spos:Pos} {i:Nat} {x:Str} (own:List Str) (js:List Nat) {wi:TI} {g:TG} {tc:TT} {te:TE} (hN:X.N.Nodup) (hi:X.N[i]? = some x) (hx:Loc X.env.scope x)
  (hc:X.calm = true) (B:Blk X scope own js) (hit:PI X tg iter wi)
  (hg:∀ s H C fp,(own ++ capN X.N js).Nodup→PG (blk X scope (own ++ capN X.N js) s H C fp) tg g) (ht:∀ s H C fp,PTs (blk X scope (own ++ capN X.N js) s H C fp) ifs tc) (he:∀ s H C fp,PE (blk X scope (own ++ capN X.N js) s H C fp) elt te)
  (hf:X.fn x = true ∨ X.env.scope.names.lookup x = some .local:=by first | exact .inl rfl | exact .inr rfl | assumption)
  (hw:swapsWith (.ListComp elt [⟨tg,iter,ifs,0⟩] scope pos) (some (.Name x pos')) spos.line X.env = pure true:=by rfl)
  (hs:∀ x,foldedSetIterable iter X.env x = pure x:=by intro _; rfl) :
  PS X (.Assign [.Name x pos'] (.ListComp elt [⟨tg,iter,ifs,0⟩] scope pos) spos) (fun D σ H=>z0i own.length js wi g tc te σ H fun v H'=>D.nx (σ.set i (some v)) H'):=by
 intro pins s σ H D I h
 have hcl:closureFor scope X.env = pure (h0u scope X.env):=k0e fun x hx hf=>I.ok.has x.1 (B.free x hx hf)
 rw [exec_Assign_Name_used _ _ _ _ hw]
 refine wpAny_bind (wpAny_standAt (wpAny_bind ?_))
 show wpAny _ X.A (do let _ ← comprehension (.ListComp elt [⟨tg,iter,ifs,0⟩] scope pos) scope X.env _ (newList []) false (eval iter X.env) (some (assign (.Name x pos') X.env))) _ _ s
 refine wpAny_bind (thn (Q:=fun _ s'=>SP X pins D .next s') (wpAny_comprehension_free (use:=some (assign (.Name x pos') X.env)) rfl hs hcl B.kind B.names (thn (hit pins s σ H _ I h) fun v s1 h1=>thn h1 fun itv s2 h2=>?_)) fun _ s' q=>wpAny_pure (wpAny_pure q))
 refine o0s (Q:=fun v H'=>D.nx (σ.set i (some v)) H') (RR:=fun acc C=>compPost (model X.prog X.w) X.A X.xe (some (assign (.Name x pos') X.env)) (fun _ s'=>SP X pins D .next s') acc C) hc B hg ht he h2 fun C acc s' hb=>?_
 obtain ⟨l,H',m,rfl,hn,I',c1,c2,c3,c4,c5,q⟩:=hb
 show wpAny _ X.A (assign (.Name x pos') X.env (.ref l)) _ _ _
 refine wpAny_assign_Name (m0g (v:=.ref l) I' hN hi hx rfl (fun s3 I3 ⟨a,sb,ha⟩=>?_) hf)
 have ne:C ≠ a:=by
  rcases ha with z | z
  ·rw [z]; exact c3
  ·exact (c4 x a z).symm
 exact ⟨m,hn.sameBut sb ne,fun h' hs'=>⟨_,H',I3.young hs' c1 c2 c3 c4 c5,q⟩⟩
end
section
variable {X:Cx}
def Dv (j:Int):Prop:=0 < j∧j.natAbs.log2 < 9000
theorem Dv.small {j:Int} (h:0 < j) (h2:j < 1073741824):Dv j:=⟨h,by
 have e:j.natAbs ≠ 0:=by omega
 have:j.natAbs.log2 < 30:=(Nat.log2_lt e).mpr (by omega)
 omega⟩
theorem p0u:OpR X (binaryOp .FloorDiv) (rI (fun _ j=>Dv j) fun i j=>.int (i / j)):=opI fun i j _ _ _ _ _ hc q=>by
 rw [← Int.fdiv_eq_ediv_of_nonneg i (Int.le_of_lt hc.1)] at q
 exact floordiv_int (Int.ne_of_gt hc.1) q (.inl (PyProof.noPylong_of_log2 hc.2))
theorem j1u:MtR X "int.bit_length" (fun x xs H Q=>∃ i,x = .int i∧xs = []∧Q (.int (Builtin.Int.intBits i:Nat)) H):=by
 intro pins s σ H x xs v us Q I rx rv h
 obtain ⟨i,rfl,rfl,q⟩:=h
 obtain ⟨t,rfl⟩:=rx
 cases rv
 exact call_int_bit_length ⟨.int (Builtin.Int.intBits i:Nat),H,I.tok _,⟨_,rfl⟩,q⟩
def isaT (t T:String):Option Bool:=if (Value.type t == Value.type T) = true then some true else if PySem.W.kitMeta T = true then (fastBuiltinMro t).map (·.contains (.type T)) else none
theorem s0g:isaT "int" "int" = some true:=by decide +kernel
theorem q0a:isaT "int" "bool" = some false:=by decide +kernel
theorem q0b:isaT "bool" "int" = some true:=by decide +kernel
theorem n0q:isaT "bool" "bool" = some true:=by decide +kernel
theorem s0e:isaT "str" "int" = some false:=by decide +kernel
theorem s0d:isaT "str" "str" = some true:=by decide +kernel
theorem s0f:isaT "NoneType" "int" = some false:=by decide +kernel
theorem p0z:isaT "list" "int" = some false:=by decide +kernel
theorem n0p:isaT "tuple" "int" = some false:=by decide +kernel
theorem h0d:isaT "tuple" "tuple" = some true:=by decide +kernel
theorem f1g {K:PySem.W.Frag} {t T:String}:PySem.W.kitOne K (.type t) (.type T) = isaT t T:=rfl
theorem x0r {x:Str} {T:String} {pos:Pos} (hg:Gl X x) (hm:X.mg x = none) (hv:bootBuiltins x = some (.type T)) (hn:x ≠ "__name__" := by decide) (hd:(x == ("__debug__" : Str)) = false:=by decide):PE X (.Name x pos) (tC (.ty T)) :=
 j1k hg hm hv rfl hn hd
structure OkN (P:Program) (w:World) (K:PySem.W.Frag) (mg:Str→Option Value) (base:Heap) (k:Nat) (x:Str) (ps:List Str) (sp:Sp):Prop where
 ex:∃ f fd,mg x = some (.ref f)∧PySem.W.keepIn K (.ref f) = true∧n0s K fd ps []∧(∃ oc od osl,K.lookup f = some ⟨oc,od,.func fd,osl⟩)∧FnOk P w K mg base CX0 k f fd ps sp
theorem b0l {k:Nat} {x:Str} {ps:List Str} {sp:Sp} {p pos:Pos} {e:Expr} {es:List Expr} {t:TA} (F:OkN X.prog X.w X.K X.mg X.base k x ps sp) (hr:Room k X.A) (ha:PA X (e :: es) t) (hg:Gl X x:=by rfl)
  (hdb:(x == ("__debug__" : Str)) = false:=by decide) (he:starEach (e :: es) X.env = (false,eval e X.env) :: starEach es X.env:=by rfl) (hpl:(backTo pos (starEach es X.env)).any (·.1) = false:=by rfl) :
  PE X (.Call (.Name x p) (e :: es) [] pos) (p0g sp [] E0 t):=by
 obtain ⟨f,fd,hm,hk,hb,lk,F⟩:=F.ex
 exact t0r F hr hg hm hk hb .nil m1v ha hdb he hpl
theorem m1s {k:Nat} {x:Str} {sp:Sp} {p pos:Pos} (F:OkN X.prog X.w X.K X.mg X.base k x [] sp) (hr:Room k X.A) (hg:Gl X x:=by rfl)
  (hdb:(x == ("__debug__" : Str)) = false:=by decide):PE X (.Call (.Name x p) [] [] pos) (p0g sp [] E0 tNil):=by
 obtain ⟨f,fd,hm,hk,hb,lk,F⟩:=F.ex
 exact e1q F hr hg hm hk hb .nil m1v hdb
structure DefN (K:PySem.W.Frag) (mg:Str→Option Value) (x:Str) (st:Stmt) (ps:List Str):Prop where
 ex:∃ f fd,mg x = some (.ref f)∧Fun K x x st f fd∧∀ us:List Value,us.length = ps.length→bindArgs fd ⟨us,[]⟩ = pure (ps.zip us)
theorem DefN.ok {P:Program} {w:World} {K:PySem.W.Frag} {mg:Str→Option Value} {base:Heap} {x:Str} {st:Stmt} {N ps:List Str} {k:Nat} {sp:Sp} (D:DefN K mg x st ps) (S:b0a N ps (a0l st)) (len:∀ vs H Q E,sp vs H Q E→vs.length = ps.length)
  (hbody:∀ (f:Addr) (cdv:Value) (A:Around) (outer:List Env) (s:Shared) (H:Hp) (vs:List V) (Q:VK) (E:XK),Room k (A.deeper (envOfC x (a0l st) s.heap.objs.size f cdv))→sp vs H Q E →
   ∃ t,PSs (cxOf CX0 P w K mg base N x (a0l st) f cdv A outer s H E).nox (d0k st) t∧t { nx:=fun _ H'=>Q .non H',rt:=Q } (m0h N vs) H):OkN P w K mg base (k + 1) x ps sp:=by
 obtain ⟨f,fd,hm,F,hb⟩:=D.ex
 refine ⟨f,fd,hm,F.kp,.all hb,?_,F.ok S len fun cdv A outer s H vs Q E hr h=>hbody f cdv A outer s H vs Q E hr h⟩
 obtain ⟨oc,od,kV,doc,pm,an,cdv,ct,osl,_,lk,_⟩:=F.ex
 exact ⟨oc,od,osl,lk⟩
theorem OkN.mono {P:Program} {w:World} {K:PySem.W.Frag} {mg:Str→Option Value} {base:Heap} {x:Str} {ps:List Str} {j k:Nat} {sp:Sp} (F:OkN P w K mg base j x ps sp) (h:j ≤ k):OkN P w K mg base k x ps sp:=by
 obtain ⟨f,fd,hm,hk,hb,lk,F⟩:=F.ex
 exact ⟨f,fd,hm,hk,hb,lk,F.mono h⟩
theorem c0b {K:PySem.W.Frag} {mg:Str→Option Value} {h:Heap} {x:Str} {st:Stmt} {ps:List Str} {f:Addr} {oc:Value} {od an:Option Addr} {osl:Array (Option Value)} {kV doc pm cdv ct:Value} (KX:K.In h) (G:h.Ns mainGlobals mg)
  (a:PySem.W.nsIn K mainGlobals x = some (some (.ref f))) (l:K.lookup f = some ⟨oc,od,.func (PySem.W.fnOf x x (g0z st) (d0k st) (a0l st) .none kV doc pm an cdv ct),osl⟩)
  (c:PySem.W.codeIn K cdv x = true) (k:PySem.W.keepIn K (.ref f) = true)
  (hb:∀ (kV doc pm:Value) (an:Option Addr) (cdv ct:Value) (us:List Value),us.length = ps.length→bindArgs (PySem.W.fnOf x x (g0z st) (d0k st) (a0l st) .none kV doc pm an cdv ct) ⟨us,[]⟩ = pure (ps.zip us)):DefN K mg x st ps :=
 ⟨f,_,PySem.W.mg_of KX G a,h1u l c k,fun us hl=>hb kV doc pm an cdv ct us hl⟩
theorem k1a {P:Program} {w:World} {K:PySem.W.Frag} {mg:Str→Option Value} {x p:Str} {st:Stmt} {k:Nat} {fa:Addr} {sp:Sp} (D:DefN K mg x st [p]) (hfa:mg x = some (.ref fa))
  (F:∀ base:Heap,OkN P w K mg base k x [p] sp):∃ fd:FuncData,(∀ (s:Shared) (v:Value),BindsTo s fd ⟨[v],[]⟩ [(p,v)])∧∀ base:Heap,K.In base→base.Ns mainGlobals mg→FnOk P w K mg base CX0 k fa fd [p] sp:=by
 obtain ⟨f,fd,hm,F0,hb⟩:=D.ex
 obtain ⟨oc,od,kV,doc,pm,an,cdv,ct,osl,_,lk,_⟩:=F0.ex
 refine ⟨fd,fun s v=>.of_eq (hb [v] rfl),fun base _ _=>?_⟩
 obtain ⟨f',fd',hm',_,_,⟨oc',od',osl',lk'⟩,G⟩:=(F base).ex
 rw [hfa] at hm'
 cases hm'
 rw [hfa] at hm
 cases hm
 rw [lk] at lk'
 cases lk'
 exact G
end
structure BI (mg:Str→Option Value):Prop where
 len_:mg "len" = none
 range_:mg "range" = none
 isinstance_:mg "isinstance" = none
 int_:mg "int" = none
 bool_:mg "bool" = none
 list_:mg "list" = none
 tuple_:mg "tuple" = none
 str_:mg "str" = none
 sum_:mg "sum" = none
 all_:mg "all" = none
 max_:mg "max" = none
 min_:mg "min" = none
 sorted_:mg "sorted" = none
 set_:mg "set" = none
 zip_:mg "zip" = none
 enumerate_:mg "enumerate" = none
 reversed_:mg "reversed" = none
 dict_:mg "dict" = none
 any_:mg "any" = none
 abs_:mg "abs" = none
theorem q1c {K:PySem.W.Frag} {mg:Str→Option Value} {h:Heap} (KX:K.In h) (G:h.Ns mainGlobals mg)
  (len_:PySem.W.nsIn K mainGlobals "len" = some none) (range_:PySem.W.nsIn K mainGlobals "range" = some none) (isinstance_:PySem.W.nsIn K mainGlobals "isinstance" = some none) (int_:PySem.W.nsIn K mainGlobals "int" = some none) (bool_:PySem.W.nsIn K mainGlobals "bool" = some none) (list_:PySem.W.nsIn K mainGlobals "list" = some none) (tuple_:PySem.W.nsIn K mainGlobals "tuple" = some none) (str_:PySem.W.nsIn K mainGlobals "str" = some none) (sum_:PySem.W.nsIn K mainGlobals "sum" = some none) (all_:PySem.W.nsIn K mainGlobals "all" = some none) (max_:PySem.W.nsIn K mainGlobals "max" = some none) (min_:PySem.W.nsIn K mainGlobals "min" = some none) (sorted_:PySem.W.nsIn K mainGlobals "sorted" = some none) (set_:PySem.W.nsIn K mainGlobals "set" = some none) (zip_:PySem.W.nsIn K mainGlobals "zip" = some none) (enumerate_:PySem.W.nsIn K mainGlobals "enumerate" = some none) (reversed_:PySem.W.nsIn K mainGlobals "reversed" = some none) (dict_:PySem.W.nsIn K mainGlobals "dict" = some none) (any_:PySem.W.nsIn K mainGlobals "any" = some none) (abs_:PySem.W.nsIn K mainGlobals "abs" = some none):BI mg :=
 ⟨PySem.W.mg_none_of KX G len_,PySem.W.mg_none_of KX G range_,PySem.W.mg_none_of KX G isinstance_,PySem.W.mg_none_of KX G int_,PySem.W.mg_none_of KX G bool_,PySem.W.mg_none_of KX G list_,PySem.W.mg_none_of KX G tuple_,PySem.W.mg_none_of KX G str_,PySem.W.mg_none_of KX G sum_,PySem.W.mg_none_of KX G all_,PySem.W.mg_none_of KX G max_,PySem.W.mg_none_of KX G min_,PySem.W.mg_none_of KX G sorted_,PySem.W.mg_none_of KX G set_,PySem.W.mg_none_of KX G zip_,PySem.W.mg_none_of KX G enumerate_,PySem.W.mg_none_of KX G reversed_,PySem.W.mg_none_of KX G dict_,PySem.W.mg_none_of KX G any_,PySem.W.mg_none_of KX G abs_⟩
def Grow (t:Addr) (H H':Hp):Prop:=∀ b o,H b = some o→b ≠ t→H' b = some o
theorem Grow.refl {t:Addr} {H:Hp}:Grow t H H:=fun _ _ h _=>h
theorem Grow.trans {t:Addr} {H H1 H2:Hp} (a:Grow t H H1) (b:Grow t H1 H2):Grow t H H2:=fun c o h n=>b c o (a c o h n) n
theorem Grow.upd {t:Addr} {H H':Hp} (g:Grow t H H') (o:HO):Grow t H (L2.upd H' t o):=fun b u h n=>by rw [a0o n]; exact g b u h n
theorem Grow.new {t l:Addr} {H H':Hp} {o:HO} (g:Grow t H H') (h:H' l = none):Grow t H (L2.upd H' l o):=fun b u e n=>by
 have:=g b u e n
 rw [a0o (b0h this h)]; exact this
theorem Same.grow {t:Addr} {H H':Hp} (s:Same H H'):Grow t H H':=fun b o h _=>s b o h
theorem Same.new {H H':Hp} {l:Addr} {o:HO} (s:Same H H') (h:H' l = none):Same H (L2.upd H' l o):=fun b u e=>by
 have:=s b u e
 rw [a0o (b0h this h)]; exact this
theorem Same.seqT {K:PySem.W.Frag} {H H':Hp} {a:Addr} {xs:List V} (e:Same H H') (h:SqT K H a xs):SqT K H' a xs:=by
 rcases h with (h | ⟨o,h⟩) | h
 ·exact .inl (.inl (e _ _ h))
 ·exact .inl (.inr ⟨o,e _ _ h⟩)
 ·exact .inr h
theorem Grow.seq {K:PySem.W.Frag} {t:Addr} {H H':Hp} {a:Addr} {xs:List V} {kvs:List (Key × V)} (g:Grow t H H') (ht:H t = some (.dK kvs)) (h:SqL K H a xs):SqL K H' a xs:=by
 rcases h with (h | ⟨o,h⟩) | h
 ·exact .inl (.inl (g _ _ h (n0o h ht (by intro z; cases z))))
 ·exact .inl (.inr ⟨o,g _ _ h (n0o h ht (by intro z; cases z))⟩)
 ·exact .inr h
def c0u (c:Addr) (sp lf:Int):List (Key × V):=[(Sum.inr "cells",.ref c),(Sum.inr "spot",.int sp),(Sum.inr "left",.int lf)]
theorem k1z:¬ ((Sum.inr ("cells" : Str):Key) = Sum.inr ("spot" : Str)):=by decide +kernel
theorem l1a:¬ ((Sum.inr ("cells" : Str):Key) = Sum.inr ("left" : Str)):=by decide +kernel
theorem e1f:¬ ((Sum.inr ("spot" : Str):Key) = Sum.inr ("left" : Str)):=by decide +kernel
theorem n0w {c:Addr} {sp lf:Int}:valV (c0u c sp lf) (Sum.inr "cells" : Key) = some (.ref c):=by
 simp [valV,c0u]
theorem z0d {c:Addr} {sp lf:Int}:valV (c0u c sp lf) (Sum.inr "spot" : Key) = some (.int sp):=by
 simp only [valV,c0u,List.find?_cons,decide_eq_false k1z,decide_true,Option.map_some]
theorem z0f {c:Addr} {sp lf:Int}:valV (c0u c sp lf) (Sum.inr "left" : Key) = some (.int lf):=by
 simp only [valV,c0u,List.find?_cons,decide_eq_false l1a,decide_eq_false e1f,decide_true,Option.map_some]
theorem p0q {c:Addr} {sp lf x:Int}:putK (c0u c sp lf) (Sum.inr "left" : Key) (.int x) = c0u c sp x:=by
 unfold putK
 rw [if_pos (by simp [c0u])]
 simp only [c0u,List.map_cons,List.map_nil,if_neg l1a,if_neg e1f,if_pos]
theorem e1m {c:Addr} {sp lf x:Int}:putK (c0u c sp lf) (Sum.inr "spot" : Key) (.int x) = c0u c x lf:=by
 unfold putK
 rw [if_pos (by simp [c0u])]
 simp only [c0u,List.map_cons,List.map_nil,if_neg k1z,if_pos,if_neg (show ¬ ((Sum.inr ("left" : Str):Key) = Sum.inr ("spot" : Str)) from fun e=>e1f e.symm)]
theorem z0e {c:Addr}:m0w [] [((Sum.inr ("cells" : Str):Key),V.ref c),((Sum.inr ("spot" : Str):Key),V.int 0),((Sum.inr ("left" : Str):Key),V.int 0)] = c0u c 0 0:=by
 simp only [m0w,List.foldl_cons,List.foldl_nil]
 have e1:putK ([]:List (Key × V)) (Sum.inr ("cells" : Str)) (V.ref c) = [((Sum.inr ("cells" : Str):Key),V.ref c)]:=by simp [putK]
 have e2:putK [((Sum.inr ("cells" : Str):Key),V.ref c)] (Sum.inr ("spot" : Str)) (V.int 0) = [((Sum.inr ("cells" : Str):Key),V.ref c),((Sum.inr ("spot" : Str):Key),V.int 0)]:=by
  unfold putK
  rw [if_neg (by simp only [List.any_cons,List.any_nil,decide_eq_false k1z]; simp)]
  rfl
 have e3:putK [((Sum.inr ("cells" : Str):Key),V.ref c),((Sum.inr ("spot" : Str):Key),V.int 0)] (Sum.inr ("left" : Str)) (V.int 0) = c0u c 0 0:=by
  unfold putK
  rw [if_neg (by simp only [List.any_cons,List.any_nil,decide_eq_false l1a,decide_eq_false e1f]; simp)]
  rfl
 rw [e1,e2,e3]
def Tape (K:PySem.W.Frag) (H:Hp) (t:Addr) (n:Nat):Prop:=∃ (c:Addr) (ns:List Int) (sp lf:Int),H t = some (.dK (c0u c sp lf))∧SqL K H c (ns.map V.int)∧0 ≤ sp∧sp ≤ n∧0 ≤ lf
theorem Tape.more {K:PySem.W.Frag} {H:Hp} {t:Addr} {n m:Nat} (T:Tape K H t n) (h:n ≤ m):Tape K H t m:=by
 obtain ⟨c,ns,sp,lf,a,b,c1,c2,c3⟩:=T
 exact ⟨c,ns,sp,lf,a,b,c1,by omega,c3⟩
theorem Tape.dict {K:PySem.W.Frag} {H:Hp} {t:Addr} {n:Nat} (T:Tape K H t n):∃ kvs,H t = some (.dK kvs):=by
 obtain ⟨c,ns,sp,lf,a,_⟩:=T
 exact ⟨_,a⟩
theorem Tape.same {K:PySem.W.Frag} {H H':Hp} {t:Addr} {n:Nat} (T:Tape K H t n) (s:Same H H'):Tape K H' t n:=by
 obtain ⟨c,ns,sp,lf,a,b,r⟩:=T
 exact ⟨c,ns,sp,lf,s _ _ a,s.seq b,r⟩
theorem Tape.put {K:PySem.W.Frag} {H:Hp} {t c:Addr} {ns:List Int} {sp lf sp' lf':Int} {n:Nat} (a:H t = some (.dK (c0u c sp lf))) (b:SqL K H c (ns.map V.int)) (h1:0 ≤ sp') (h2:sp' ≤ n) (h3:0 ≤ lf'):Tape K (upd H t (.dK (c0u c sp' lf'))) t n :=
 ⟨c,ns,sp',lf',b0g,Grow.seq (Grow.refl.upd _) a b,h1,h2,h3⟩
theorem p1y {ns:List Int}:cutV (ns.map V.int) none (some 63) = (ns.take 63).map V.int:=by
 unfold cutV
 have e0:HT.sIx (ns.map V.int).length 0 none = 0:=rfl
 rw [e0,List.drop_zero,Nat.sub_zero,List.map_take]
 show List.take (HT.sIx _ _ (some ((63:Nat):Int))) _ = _
 rw [HT.sIx_nat]
 rcases Nat.le_total 63 (ns.map V.int).length with h | h
 ·rw [Nat.min_eq_left h]
 ·rw [Nat.min_eq_right h,List.take_of_length_le (Nat.le_refl _),List.take_of_length_le h]
end L2
namespace L2
theorem drawn {Q:Int→Hp→Prop} {m x:Int} {H':Hp} (hm:0 < m) (k:∀ r:Nat,(r:Int) < m→Q (r:Nat) H'):Q (x % m) H':=by
 obtain ⟨r,e⟩:=Int.eq_ofNat_of_zero_le (Int.emod_nonneg x (Int.ne_of_gt hm))
 have:=Int.emod_lt_of_pos x hm
 rw [e] at this ⊢
 exact k r this
theorem w0a {y:Int}:-(2 ^ 64) < y % 2147483647∧y % 2147483647 < 2 ^ 64:=by omega
theorem dv64:Dv 64:=Dv.small (by decide) (by decide)
end L2
namespace L2
open PySem PySem.Spec PyProof.Rows
theorem d1h (a b:Nat):Builtin.bitAnd (a:Int) (b:Int) = ((a &&& b:Nat):Int):=by
 unfold Builtin.bitAnd
 rw [decide_eq_true (Int.natCast_nonneg a),decide_eq_true (Int.natCast_nonneg b)]
 simp
theorem m1w (a b:Nat):Builtin.bitOr (a:Int) (b:Int) = ((a ||| b:Nat):Int):=by
 unfold Builtin.bitOr Builtin.bitAnd Builtin.bitNot
 rw [decide_eq_false (show ¬ (0:Int) ≤ -(a:Int) - 1 by omega),decide_eq_false (show ¬ (0:Int) ≤ -(b:Int) - 1 by omega)]
 have h1:(-(-(a:Int) - 1) - 1).toNat = a:=by omega
 have h2:(-(-(b:Int) - 1) - 1).toNat = b:=by omega
 simp only [h1,h2]
 omega
theorem i0x:∀ (a b:Nat),(a ^^^ b) + 2 * (a &&& b) = a + b:=by
 intro a
 induction a using Nat.strongRecOn with
 | ind a ih =>
  intro b
  by_cases h0:a = 0
  ·subst h0; simp
  ·have h:=ih (a / 2) (by omega) (b / 2)
   have e1:(a ^^^ b) / 2 = a / 2 ^^^ b / 2:=Nat.xor_div_two
   have e2:(a &&& b) / 2 = a / 2 &&& b / 2:=Nat.and_div_two
   have e3:(a ^^^ b) % 2 = (a + b) % 2:=by
    have:=Nat.testBit_xor a b 0
    rw [Nat.testBit_zero,Nat.testBit_zero,Nat.testBit_zero] at this
    rcases Nat.mod_two_eq_zero_or_one a with p | p <;> rcases Nat.mod_two_eq_zero_or_one b with q | q <;> rcases Nat.mod_two_eq_zero_or_one (a ^^^ b) with r | r <;> simp [p,q,r] at this <;> omega
   have e4:(a &&& b) % 2 = (a % 2) * (b % 2):=by
    have:=Nat.testBit_and a b 0
    rw [Nat.testBit_zero,Nat.testBit_zero,Nat.testBit_zero] at this
    rcases Nat.mod_two_eq_zero_or_one a with p | p <;> rcases Nat.mod_two_eq_zero_or_one b with q | q <;> rcases Nat.mod_two_eq_zero_or_one (a &&& b) with r | r <;> simp [p,q,r] at this <;> simp [p,q,r]
   rcases Nat.mod_two_eq_zero_or_one a with p | p <;> rcases Nat.mod_two_eq_zero_or_one b with q | q <;> rw [p,q] at e4 <;> omega
theorem y0r (a b:Nat):Builtin.bitXor (a:Int) (b:Int) = ((a ^^^ b:Nat):Int):=by
 unfold Builtin.bitXor
 rw [m1w,d1h]
 have h1:(a ||| b) + (a &&& b) = a + b:=by
  have:=i0x a b
  have e:(a ||| b) = (a ^^^ b) + (a &&& b):=by
   have h2:=i0x (a ^^^ b) (a &&& b)
   have h3:(a ^^^ b) &&& (a &&& b) = 0:=by
    apply Nat.eq_of_testBit_eq
    intro i
    simp only [Nat.testBit_and,Nat.testBit_xor,Nat.zero_testBit]
    cases a.testBit i <;> cases b.testBit i <;> rfl
   have h4:(a ^^^ b) ^^^ (a &&& b) = a ||| b:=by
    apply Nat.eq_of_testBit_eq
    intro i
    simp only [Nat.testBit_and,Nat.testBit_xor,Nat.testBit_or]
    cases a.testBit i <;> cases b.testBit i <;> rfl
   rw [h3,h4] at h2
   omega
  omega
 have:=i0x a b
 omega
theorem i1s (a k:Nat):(a:Int) / 2 ^ ((k:Int).toNat) = ((a >>> k:Nat):Int):=by
 rw [Int.toNat_natCast,Nat.shiftRight_eq_div_pow]
 exact (Int.natCast_ediv a (2 ^ k)).symm.trans (by norm_cast) |>.symm ▸ (by simp)
theorem d1c (a k:Nat):Builtin.bitAnd ((a:Int) / 2 ^ ((k:Int).toNat)) 1 = if a.testBit k then 1 else 0:=by
 rw [i1s,show (1:Int) = ((1:Nat):Int) from rfl,d1h]
 have:(a >>> k) &&& 1 = (a.testBit k).toNat:=by
  rw [Nat.and_one_is_mod,Nat.testBit]
  rw [Nat.one_and_eq_mod_two]
  rcases Nat.mod_two_eq_zero_or_one (a >>> k) with p | p <;> simp [p]
 rw [this]
 cases a.testBit k <;> rfl
theorem j0b (k:Nat):(1:Int) * (2:Int) ^ ((k:Int).toNat) = ((1 <<< k:Nat):Int):=by
 rw [Int.toNat_natCast,Nat.shiftLeft_eq,Int.one_mul,Nat.one_mul]
 simp
def q0k (n:Nat):Nat:=if n = 0 then 0 else n.log2 + 1
theorem g1f (n:Nat):Builtin.Int.intBits (n:Int) = q0k n:=by
 unfold Builtin.Int.intBits q0k
 by_cases h:n = 0
 ·subst h; rfl
 ·rw [if_neg (by simp; omega),if_neg h]; simp
theorem u0m {n k:Nat} (h:n.testBit k = true):k < q0k n:=by
 have h1:2 ^ k ≤ n:=Nat.ge_two_pow_of_testBit h
 have h0:n ≠ 0:=by
  intro z; subst z; simp at h
 unfold q0k
 rw [if_neg h0]
 have:=(Nat.le_log2 h0).mpr h1
 omega
def c0a (n:Nat):List Nat:=(List.range (q0k n)).filter n.testBit
theorem g0y {p:Nat→Bool} {m:Nat} (h:∀ k,p k = true→k < m):∀ d:Nat,(List.range (m + d)).filter p = (List.range m).filter p
 | 0=>rfl
 | d + 1=>by
  rw [← Nat.add_assoc,List.range_succ,List.filter_append,g0y h d]
  have:p (m + d) = false:=by
   cases e:p (m + d) with
   | false=>rfl
   | true=>have:=h _ e; omega
  simp [this]
theorem f0u {n m:Nat} (h:n < 2 ^ m):(List.range m).filter n.testBit = c0a n:=by
 have h1:∀ k,n.testBit k = true→k < m:=fun k e=>by
  have:=Nat.ge_two_pow_of_testBit e
  exact (Nat.pow_lt_pow_iff_right (by decide)).mp (Nat.lt_of_le_of_lt this h)
 unfold c0a
 rcases Nat.le_total m (q0k n) with q | q
 ·obtain ⟨d,e⟩:=Nat.exists_eq_add_of_le q
  rw [e,g0y h1]
 ·obtain ⟨d,e⟩:=Nat.exists_eq_add_of_le q
  rw [e,g0y fun k z=>u0m z]
def i1o (K:PySem.W.Frag):Sp:=fun vs H Q _=>∃ (a:Addr) (ns:List Int),vs = [.ref a]∧SqL K H a (ns.map V.int)∧ns.length ≤ 63∧∀ H',Q (.bl true) H'
theorem c0z:bootBuiltins "len" = some (.builtin "len"):=by decide +kernel
theorem a0w:bootBuiltins "isinstance" = some (.builtin "isinstance"):=by decide +kernel
theorem w0y:bootBuiltins "int" = some (.type "int"):=by decide +kernel
theorem c1z:bootBuiltins "bool" = some (.type "bool"):=by decide +kernel
theorem k0g:bootBuiltins "tuple" = some (.type "tuple"):=by decide +kernel
theorem o0x:bootBuiltins "str" = some (.type "str"):=by decide +kernel
theorem o1l:bootBuiltins "sum" = some (.builtin "sum"):=by decide +kernel
theorem o1o:bootBuiltins "all" = some (.builtin "all"):=by decide +kernel
theorem o1n:bootBuiltins "max" = some (.builtin "max"):=by decide +kernel
theorem c1y:bootBuiltins "sorted" = some (.builtin "sorted"):=by decide +kernel
theorem o1m:bootBuiltins "set" = some (.type "set"):=by decide +kernel
theorem s0y:bootBuiltins "enumerate" = some (.type "enumerate"):=by decide +kernel
section
variable {X:Cx} {a b e o:Expr} {es:List Expr} {ta tb te to:TE} {t:TA} {pos apos cpos:Pos} (K:PySem.W.Frag)
theorem m0m (ha:PE X a ta) (he:∀ whole,isTrue a X.env whole = (do let v ← whole; standAt a.pos; holding [v] (truthy v))) (hK:X.K = K:=by rfl) :
  PT X a (fun σ H Q=>ta σ H fun x H'=>∃ k,TruV K x H' k∧Q k H'):=by subst hK; exact e1n ha he
theorem b0q (hK:X.K = K:=by rfl):IxR X (rIx K):=by subst hK; exact n1p
theorem d0g (hK:X.K = K:=by rfl):SlR X (rSlL K):=by subst hK; exact i1r
theorem b0p (hK:X.K = K:=by rfl):g0l X (.builtin "len") (fun xs H Q=>∃ p ys,xs = [.ref p]∧(SqL K H p ys ∨ SqT K H p ys)∧Q (.int ys.length) H):=by subst hK; exact s0w
theorem j0i (hK:X.K = K:=by rfl):g0l X (.type "tuple") (fun xs H Q=>∃ p ys,xs = [.ref p]∧((SqL K H p ys∧∀ l,H l = none→Q (.ref l) (upd H l (.tup ys))) ∨ (SqT K H p ys∧Q (.ref p) H))):=by subst hK; exact q0j
theorem p0t {es:List Expr} {k:Nat} {t:TGs} {n:Nat} (hc:X.calm = true) (h:PGs X es t) (hn:(assignEach es X.env).length = n:=by rfl) (hst:(assignEach es X.env).findIdx? (·.1) = none:=by rfl) (hK:X.K = K:=by rfl) :
  PG X (.Tuple es k pos) (gTup K n t):=by subst hK; exact m1o hc h hn hst
variable {name:Str} {T id:String} {r:V→List V→Hp→VK→Prop}
theorem t0s (pa:PlainAttrs T) (slot:Slot T name id) (hty:typeOf (.builtin id) = pure (.type "method_descriptor")) (hm:MtR X id r) (ho:PE X o to)
  (hbase:attributeBase o name X.env (eval o X.env) = eval o X.env:=by rfl) (hline:(apos.endLine == cpos.line) = true:=by rfl) (hK:X.K = K:=by rfl):PE X (.Call (.Attribute o name apos) [] [] cpos) (tBM0 K T r to):=by
 subst hK; exact m1t pa slot hty hm ho hbase hline
theorem c0w (pa:PlainAttrs T) (slot:Slot T name id) (hty:typeOf (.builtin id) = pure (.type "method_descriptor")) (hm:MtR X id r) (ho:PE X o to) (ha:PA X (e :: es) t)
  (hbase:attributeBase o name X.env (eval o X.env) = eval o X.env:=by rfl)
  (hfew:((backTo cpos (starEach (e :: es) X.env)).all (fun x=>!x.1) && (backToKw cpos (keywordEach [] X.env)).all (fun x=>x.1.isSome) && decide ((e :: es).length + ([]:List Keyword).length + (if ([]:List Keyword).isEmpty then 0 else 1) < 30)) = true:=by rfl)
  (hline:(apos.endLine == cpos.line) = true:=by rfl) (he:starEach (e :: es) X.env = (false,eval e X.env) :: starEach es X.env:=by rfl) (hpl:(backTo cpos (starEach es X.env)).any (·.1) = false:=by rfl)
  (hK:X.K = K:=by rfl):PE X (.Call (.Attribute o name apos) (e :: es) [] cpos) (tBM K T r to t):=by
 subst hK
 exact p1o pa slot hty hm ho ha hbase hfew hline he hpl
end
inductive D where
 | non | bl (b:Bool) | int (i:Int) | str (x:Str) | tup (ds:List D) | lst (ds:List D)
def StT (H:Hp) (a:Addr) (xs:List V):Prop:=H a = some (.tup xs)
theorem StT.sq {K:PySem.W.Frag} {H:Hp} {a:Addr} {xs:List V} (h:StT H a xs):SqT K H a xs:=SqT.of h
instance {K:PySem.W.Frag} {H:Hp} {a:Addr} {xs:List V}:Coe (StT H a xs) (SqT K H a xs):=⟨StT.sq⟩
mutual
def RepD (K:PySem.W.Frag) (H:Hp):V→D→Prop
 | v,.non=>v = .non
 | v,.bl b=>v = .bl b
 | v,.int i=>v = .int i
 | v,.str x=>v = .str x
 | v,.tup ds=>∃ a vs,v = .ref a∧StT H a vs∧RepDs K H vs ds
 | v,.lst ds=>∃ a vs,v = .ref a∧SqL K H a vs∧RepDs K H vs ds
def RepDs (K:PySem.W.Frag) (H:Hp):List V→List D→Prop
 | [],[]=>True
 | v :: vs,d :: ds=>RepD K H v d∧RepDs K H vs ds
 | _,_=>False
end
mutual
def eqD:D→D→Bool
 | .non,.non=>true
 | .bl a,.bl b=>a == b
 | .bl a,.int b=>(if a then 1 else 0) == b
 | .int a,.bl b=>a == (if b then 1 else 0)
 | .int a,.int b=>a == b
 | .str a,.str b=>a == b
 | .tup ds,.tup es=>eqDs ds es
 | .lst ds,.lst es=>eqDs ds es
 | _,_=>false
def eqDs:List D→List D→Bool
 | [],[]=>true
 | d :: ds,e :: es=>eqD d e && eqDs ds es
 | _,_=>false
end
mutual
def D.depth:D→Nat
 | .tup ds=>depths ds + 1
 | .lst ds=>depths ds + 1
 | _=>0
def depths:List D→Nat
 | []=>0
 | d :: ds=>max d.depth (depths ds)
end
section
variable {K:PySem.W.Frag} {H H':Hp}
theorem RepDs.length:∀ {vs:List V} {ds:List D},RepDs K H vs ds→vs.length = ds.length
 | [],[],_=>rfl
 | v :: vs,d :: ds,h=>by
  unfold RepDs at h
  rw [List.length_cons,List.length_cons,RepDs.length h.2]
 | [],d :: ds,h=>by unfold RepDs at h; exact h.elim
 | v :: vs,[],h=>by unfold RepDs at h; exact h.elim
theorem RepDs.get:∀ {vs:List V} {ds:List D} {i:Nat} {d:D},RepDs K H vs ds→ds[i]? = some d→∃ v,vs[i]? = some v∧RepD K H v d
 | [],[],_,_,_,e=>by simp at e
 | v :: vs,d :: ds,0,_,h,e=>by
  unfold RepDs at h
  simp at e; subst e
  exact ⟨v,rfl,h.1⟩
 | v :: vs,d :: ds,i + 1,_,h,e=>by
  unfold RepDs at h
  obtain ⟨u,a,b⟩:=RepDs.get (i:=i) h.2 (by simpa using e)
  exact ⟨u,by simpa using a,b⟩
 | [],d :: ds,_,_,h,_=>by unfold RepDs at h; exact h.elim
 | v :: vs,[],_,_,h,_=>by unfold RepDs at h; exact h.elim
theorem RepDs.getV:∀ {vs:List V} {ds:List D} {i:Nat} {v:V},RepDs K H vs ds→vs[i]? = some v→∃ d,ds[i]? = some d∧RepD K H v d
 | [],[],_,_,_,e=>by simp at e
 | v :: vs,d :: ds,0,_,h,e=>by
  unfold RepDs at h
  simp at e; subst e
  exact ⟨d,rfl,h.1⟩
 | v :: vs,d :: ds,i + 1,_,h,e=>by
  unfold RepDs at h
  obtain ⟨u,a,b⟩:=RepDs.getV (i:=i) h.2 (by simpa using e)
  exact ⟨u,by simpa using a,b⟩
 | [],d :: ds,_,_,h,_=>by unfold RepDs at h; exact h.elim
 | v :: vs,[],_,_,h,_=>by unfold RepDs at h; exact h.elim
theorem RepDs.append:∀ {vs ws:List V} {ds es:List D},RepDs K H vs ds→RepDs K H ws es→RepDs K H (vs ++ ws) (ds ++ es)
 | [],ws,[],es,_,h=>h
 | v :: vs,ws,d :: ds,es,h,h'=>by
  unfold RepDs at h
  show RepDs K H (v :: (vs ++ ws)) (d :: (ds ++ es))
  unfold RepDs
  exact ⟨h.1,RepDs.append h.2 h'⟩
 | [],_,d :: ds,_,h,_=>by unfold RepDs at h; exact h.elim
 | v :: vs,_,[],_,h,_=>by unfold RepDs at h; exact h.elim
theorem RepDs.one {v:V} {d:D} (h:RepD K H v d):RepDs K H [v] [d]:=by unfold RepDs; exact ⟨h,by unfold RepDs; trivial⟩
theorem RepDs.nil:RepDs K H [] []:=by unfold RepDs; trivial
theorem RepDs.cons {v:V} {d:D} {vs:List V} {ds:List D} (h:RepD K H v d) (t:RepDs K H vs ds):RepDs K H (v :: vs) (d :: ds):=by unfold RepDs; exact ⟨h,t⟩
theorem k0k:∀ {vs:List V} {ns:List Int},RepDs K H vs (ns.map D.int)↔vs = ns.map V.int
 | [],[]=>by simp [RepDs]
 | v :: vs,n :: ns=>by
  have ih:=@k0k vs ns
  rw [List.map_cons,List.map_cons]
  unfold RepDs RepD
  rw [ih]
  constructor
  ·rintro ⟨rfl,rfl⟩; rfl
  ·intro h; injection h with h1 h2; exact ⟨h1,h2⟩
 | [],n :: ns=>by rw [List.map_cons]; unfold RepDs; simp
 | v :: vs,[]=>by rw [List.map_nil]; unfold RepDs; simp
mutual
theorem RepD.keep (hl:∀ a vs,SqL K H a vs→SqL K H' a vs) (ht:∀ a vs,StT H a vs→StT H' a vs):∀ {v:V} {d:D},RepD K H v d→RepD K H' v d
 | v,.non,h=>by unfold RepD at h ⊢; exact h
 | v,.bl b,h=>by unfold RepD at h ⊢; exact h
 | v,.int i,h=>by unfold RepD at h ⊢; exact h
 | v,.str x,h=>by unfold RepD at h ⊢; exact h
 | v,.tup ds,h=>by
  unfold RepD at h ⊢
  obtain ⟨a,vs,e,h1,h2⟩:=h
  exact ⟨a,vs,e,ht _ _ h1,RepDs.keep hl ht h2⟩
 | v,.lst ds,h=>by
  unfold RepD at h ⊢
  obtain ⟨a,vs,e,h1,h2⟩:=h
  exact ⟨a,vs,e,hl _ _ h1,RepDs.keep hl ht h2⟩
theorem RepDs.keep (hl:∀ a vs,SqL K H a vs→SqL K H' a vs) (ht:∀ a vs,StT H a vs→StT H' a vs):∀ {vs:List V} {ds:List D},RepDs K H vs ds→RepDs K H' vs ds
 | [],[],_=>RepDs.nil
 | v :: vs,d :: ds,h=>by
  unfold RepDs at h ⊢
  exact ⟨RepD.keep hl ht h.1,RepDs.keep hl ht h.2⟩
 | [],d :: ds,h=>by unfold RepDs at h; exact h.elim
 | v :: vs,[],h=>by unfold RepDs at h; exact h.elim
end
theorem RepD.same {v:V} {d:D} (h:RepD K H v d) (s:Same H H'):RepD K H' v d:=h.keep (fun _ _ q=>s.seq q) fun _ _ q=>s _ _ q
theorem RepDs.same {vs:List V} {ds:List D} (h:RepDs K H vs ds) (s:Same H H'):RepDs K H' vs ds:=h.keep (fun _ _ q=>s.seq q) fun _ _ q=>s _ _ q
theorem Grow.seqT {t:Addr} {a:Addr} {xs:List V} {kvs:List (Key × V)} (g:Grow t H H') (ht:H t = some (.dK kvs)) (h:SqT K H a xs):SqT K H' a xs:=by
 rcases h with (h | ⟨o,h⟩) | h
 ·exact .inl (.inl (g _ _ h (n0o h ht (by intro z; cases z))))
 ·exact .inl (.inr ⟨o,g _ _ h (n0o h ht (by intro z; cases z))⟩)
 ·exact .inr h
theorem RepD.grow {v:V} {d:D} {t:Addr} {kvs:List (Key × V)} (h:RepD K H v d) (g:Grow t H H') (ht:H t = some (.dK kvs)):RepD K H' v d:=h.keep (fun _ _ q=>g.seq ht q) fun _ _ q=>g _ _ q (n0o q ht (by intro z; cases z))
theorem RepDs.grow {vs:List V} {ds:List D} {t:Addr} {kvs:List (Key × V)} (h:RepDs K H vs ds) (g:Grow t H H') (ht:H t = some (.dK kvs)):RepDs K H' vs ds:=h.keep (fun _ _ q=>g.seq ht q) fun _ _ q=>g _ _ q (n0o q ht (by intro z; cases z))
end
mutual
theorem e0z:∀ d:D,eqD d d = true
 | .non=>by simp [eqD]
 | .bl b=>by simp [eqD]
 | .int i=>by simp [eqD]
 | .str x=>by simp [eqD]
 | .tup ds=>by unfold eqD; exact eqDs_refl ds
 | .lst ds=>by unfold eqD; exact eqDs_refl ds
theorem eqDs_refl:∀ ds:List D,eqDs ds ds = true
 | []=>by simp [eqDs]
 | d :: ds=>by unfold eqDs; rw [e0z d,eqDs_refl ds]; rfl
end
theorem eqDs_ints:∀ {a b:List Int},eqDs (a.map D.int) (b.map D.int) = decide (a = b)
 | [],[]=>by simp [eqDs]
 | [],b :: bs=>by simp [eqDs]
 | a :: as,[]=>by simp [eqDs]
 | a :: as,b :: bs=>by
  rw [List.map_cons,List.map_cons]
  unfold eqDs eqD
  rw [eqDs_ints]
  rw [Bool.eq_iff_iff]
  simp
section
variable {X:Cx} {pins:List (Addr × Obj)} {σ:St} {H:Hp} {s:Shared}
mutual
theorem p0m (I:Inv X pins σ H s):∀ {v:V} {d e:D},RepD X.K H v d→RepD X.K H v e→d = e
 | v,.non,e,h,h'=>by
  unfold RepD at h; subst h
  cases e <;> (unfold RepD at h'; first | rfl | (obtain ⟨_,_,z,_⟩:=h'; cases z) | cases h')
 | v,.bl b,e,h,h'=>by
  unfold RepD at h; subst h
  cases e <;> (unfold RepD at h'; first | (cases h'; rfl) | (obtain ⟨_,_,z,_⟩:=h'; cases z) | cases h')
 | v,.int b,e,h,h'=>by
  unfold RepD at h; subst h
  cases e <;> (unfold RepD at h'; first | (cases h'; rfl) | (obtain ⟨_,_,z,_⟩:=h'; cases z) | cases h')
 | v,.str b,e,h,h'=>by
  unfold RepD at h; subst h
  cases e <;> (unfold RepD at h'; first | (cases h'; rfl) | (obtain ⟨_,_,z,_⟩:=h'; cases z) | cases h')
 | v,.tup ds,e,h,h'=>by
  unfold RepD at h
  obtain ⟨a,vs,rfl,h1,h2⟩:=h
  cases e with
  | tup es =>
   unfold RepD at h'
   obtain ⟨b,ws,z,g1,g2⟩:=h'
   cases z
   rw [I.tuple_inj g1.sq h1.sq] at g2
   rw [repDs_inj I h2 g2]
  | lst es =>
   unfold RepD at h'
   obtain ⟨b,ws,z,g1,g2⟩:=h'
   cases z
   obtain ⟨_,_,⟨o,n,e1,c1,_⟩,_⟩:=I.list g1
   obtain ⟨_,_,⟨o',e2,c2,_⟩,_⟩:=I.tuple h1.sq
   rw [e1] at e2; cases e2
   rw [c1] at c2
   exact absurd c2 (by decide)
  | non=>unfold RepD at h'; cases h'
  | bl _=>unfold RepD at h'; cases h'
  | int _=>unfold RepD at h'; cases h'
  | str _=>unfold RepD at h'; cases h'
 | v,.lst ds,e,h,h'=>by
  unfold RepD at h
  obtain ⟨a,vs,rfl,h1,h2⟩:=h
  cases e with
  | lst es =>
   unfold RepD at h'
   obtain ⟨b,ws,z,g1,g2⟩:=h'
   cases z
   rw [I.list_inj g1 h1] at g2
   rw [repDs_inj I h2 g2]
  | tup es =>
   unfold RepD at h'
   obtain ⟨b,ws,z,g1,g2⟩:=h'
   cases z
   obtain ⟨_,_,⟨o,n,e1,c1,_⟩,_⟩:=I.list h1
   obtain ⟨_,_,⟨o',e2,c2,_⟩,_⟩:=I.tuple g1.sq
   rw [e1] at e2; cases e2
   rw [c1] at c2
   exact absurd c2 (by decide)
  | non=>unfold RepD at h'; cases h'
  | bl _=>unfold RepD at h'; cases h'
  | int _=>unfold RepD at h'; cases h'
  | str _=>unfold RepD at h'; cases h'
theorem repDs_inj (I:Inv X pins σ H s):∀ {vs:List V} {ds es:List D},RepDs X.K H vs ds→RepDs X.K H vs es→ds = es
 | [],[],[],_,_=>rfl
 | v :: vs,d :: ds,e :: es,h,h'=>by
  unfold RepDs at h h'
  rw [p0m I h.1 h'.1,repDs_inj I h.2 h'.2]
 | [],d :: ds,_,h,_=>by unfold RepDs at h; exact h.elim
 | v :: vs,[],_,h,_=>by unfold RepDs at h; exact h.elim
 | [],_,d :: ds,_,h=>by unfold RepDs at h; exact h.elim
 | v :: vs,_,[],_,h=>by unfold RepDs at h; exact h.elim
end
end
theorem h0r (A:Around):A.in1.units = A.units + 1:=rfl
theorem o0p:∀ {ds:List D} {j:Nat} {d:D},ds[j]? = some d→d.depth ≤ depths ds
 | [],_,_,h=>by simp at h
 | d :: ds,0,_,h=>by simp at h; subst h; unfold depths; omega
 | d :: ds,j + 1,e,h=>by
  have:=o0p (ds:=ds) (j:=j) (by simpa using h)
  unfold depths; omega
def s0q (ds es:List D) (j:Nat):Bool:=match ds[j]?,es[j]? with
 | some d,some e=>eqD d e
 | _,_=>true
theorem g0j:∀ {ds es:List D},ds.length = es.length→(List.range ds.length).all (s0q ds es) = eqDs ds es
 | [],[],_=>by simp [eqDs]
 | d :: ds,e :: es,h=>by
  have ih:=g0j (ds:=ds) (es:=es) (by simpa using h)
  rw [List.length_cons,List.range_succ_eq_map,List.all_cons,List.all_map]
  unfold eqDs
  rw [← ih]
  congr 1
 | [],_ :: _,h=>by simp at h
 | _ :: _,[],h=>by simp at h
theorem e0n:∀ {ds es:List D},ds.length ≠ es.length→eqDs ds es = false
 | [],[],h=>absurd rfl h
 | [],_ :: _,_=>by simp [eqDs]
 | _ :: _,[],_=>by simp [eqDs]
 | d :: ds,e :: es,h=>by
  unfold eqDs
  rw [e0n (ds:=ds) (es:=es) (by simpa using h),Bool.and_false]
section
variable {X:Cx} {pins:List (Addr × Obj)} {σ:St} {H:Hp} {s:Shared}
theorem l0x (I:Inv X pins σ H s) {m:Nat} (ih:∀ {A:Around} {v u:V} {vv uu:Value} {d e:D},d.depth ≤ m→A.units + m < cLine→RelV v vv→RelV u uu→RepD X.K H v d→RepD X.K H u e→SeqAt.EqAt A s vv uu (eqD d e)) {A:Around} (hu:A.units + m < cLine)
  {vs us:List V} {vvs uus:List Value} {ds es:List D} (hd:depths ds ≤ m) (rv:Vals vs vvs) (ru:Vals us uus) (hv:RepDs X.K H vs ds) (he:RepDs X.K H us es) :
  ∀ j (h1:j < vvs.toArray.size) (h2:j < uus.toArray.size),SeqAt.EqAt A s vvs.toArray[j] uus.toArray[j] (s0q ds es j):=by
 intro j h1 h2
 rw [List.size_toArray] at h1 h2
 have l1:=rv.length
 have l2:=ru.length
 have g1:vs[j]? = some vs[j]:=List.getElem?_eq_getElem (by omega)
 have g2:us[j]? = some us[j]:=List.getElem?_eq_getElem (by omega)
 obtain ⟨x,ex,rx⟩:=rv.get g1
 obtain ⟨y,ey,ry⟩:=ru.get g2
 obtain ⟨d,ed,rd⟩:=hv.getV g1
 obtain ⟨e,ee,re⟩:=he.getV g2
 rw [List.getElem?_eq_getElem h1] at ex
 rw [List.getElem?_eq_getElem h2] at ey
 cases ex
 cases ey
 have:s0q ds es j = eqD d e:=by unfold s0q; rw [ed,ee]
 rw [this,List.getElem_toArray,List.getElem_toArray]
 exact ih (Nat.le_trans (o0p ed) hd) hu rx ry rd re
theorem h1g (I:Inv X pins σ H s) (n:Nat) (ih:0 < n→∀ {A:Around} {v u:V} {vv uu:Value} {d e:D},d.depth ≤ n - 1→A.units + (n - 1) < cLine→RelV v vv→RelV u uu→RepD X.K H v d→RepD X.K H u e→SeqAt.EqAt A s vv uu (eqD d e))
  {A:Around} {v u:V} {vv uu:Value} {d e:D} (hd:d.depth ≤ n) (hu:A.units + n < cLine) (rv:RelV v vv) (ru:RelV u uu) (hv:RepD X.K H v d) (he:RepD X.K H u e):SeqAt.RcAt A s vv uu (eqD d e)∧SeqAt.EqAt A s vv uu (eqD d e):=by
 have hu0:A.units < cLine:=by omega
 have isL:∀ {a xs},SqL X.K H a xs→∃ its:List Value,Vals xs its∧s.heap.IsList a its.toArray:=fun q=>by
  obtain ⟨its,r,p,_⟩:=I.list q
  exact ⟨its,r,p.isList⟩
 have isT:∀ {a xs},StT H a xs→∃ its:List Value,Vals xs its∧s.heap.IsTuple a its.toArray:=fun q=>by
  obtain ⟨its,r,p,_⟩:=I.tuple q.sq
  exact ⟨its,r,p⟩
 cases d with
 | non =>
  unfold RepD at hv; subst hv; cases rv
  cases e with
  | non=>unfold RepD at he; subst he; cases ru; exact ⟨.none_none,.same _⟩
  | bl b=>unfold RepD at he; subst he; cases ru; exact ⟨.none_bool _,.none_bool _⟩
  | int b=>unfold RepD at he; subst he; obtain ⟨t,rfl⟩:=ru; exact ⟨.none_int _ _,.none_int _ _⟩
  | str b=>unfold RepD at he; subst he; obtain ⟨t,rfl⟩:=ru; exact ⟨.none_str _ _,.none_str _ _⟩
  | tup es=>unfold RepD at he; obtain ⟨a,vs,rfl,q,_⟩:=he; cases ru; obtain ⟨its,_,q⟩:=isT q; exact ⟨.none_tuple q hu0,.none_tuple q hu0⟩
  | lst es=>unfold RepD at he; obtain ⟨a,vs,rfl,q,_⟩:=he; cases ru; obtain ⟨its,_,q⟩:=isL q; exact ⟨.none_list q hu0,.none_list q hu0⟩
 | bl x =>
  unfold RepD at hv; subst hv; cases rv
  cases e with
  | non=>unfold RepD at he; subst he; cases ru; exact ⟨.bool_none _,.bool_none _⟩
  | bl b=>unfold RepD at he; subst he; cases ru; exact ⟨.bool_bool _ _,.bool_bool _ _⟩
  | int b=>unfold RepD at he; subst he; obtain ⟨t,rfl⟩:=ru; exact ⟨.bool_int _ _ _,.bool_int _ _ _⟩
  | str b=>unfold RepD at he; subst he; obtain ⟨t,rfl⟩:=ru; exact ⟨.bool_str _ _ _,.bool_str _ _ _⟩
  | tup es=>unfold RepD at he; obtain ⟨a,vs,rfl,q,_⟩:=he; cases ru; obtain ⟨its,_,q⟩:=isT q; exact ⟨.bool_tuple _ q hu0,.bool_tuple _ q hu0⟩
  | lst es=>unfold RepD at he; obtain ⟨a,vs,rfl,q,_⟩:=he; cases ru; obtain ⟨its,_,q⟩:=isL q; exact ⟨.bool_list _ q hu0,.bool_list _ q hu0⟩
 | int x =>
  unfold RepD at hv; subst hv; obtain ⟨t0,rfl⟩:=rv
  cases e with
  | non=>unfold RepD at he; subst he; cases ru; exact ⟨.int_none _ _,.int_none _ _⟩
  | bl b=>unfold RepD at he; subst he; cases ru; exact ⟨.int_bool _ _ _,.int_bool _ _ _⟩
  | int b=>unfold RepD at he; subst he; obtain ⟨t,rfl⟩:=ru; exact ⟨.int_int _ _ _ _,.int_int _ _ _ _⟩
  | str b=>unfold RepD at he; subst he; obtain ⟨t,rfl⟩:=ru; exact ⟨.int_str _ _ _ _,.int_str _ _ _ _⟩
  | tup es=>unfold RepD at he; obtain ⟨a,vs,rfl,q,_⟩:=he; cases ru; obtain ⟨its,_,q⟩:=isT q; exact ⟨.int_tuple _ _ q hu0,.int_tuple _ _ q hu0⟩
  | lst es=>unfold RepD at he; obtain ⟨a,vs,rfl,q,_⟩:=he; cases ru; obtain ⟨its,_,q⟩:=isL q; exact ⟨.int_list _ _ q hu0,.int_list _ _ q hu0⟩
 | str x =>
  unfold RepD at hv; subst hv; obtain ⟨t0,rfl⟩:=rv
  cases e with
  | non=>unfold RepD at he; subst he; cases ru; exact ⟨.str_none _ _,.str_none _ _⟩
  | bl b=>unfold RepD at he; subst he; cases ru; exact ⟨.str_bool _ _ _,.str_bool _ _ _⟩
  | int b=>unfold RepD at he; subst he; obtain ⟨t,rfl⟩:=ru; exact ⟨.str_int _ _ _ _,.str_int _ _ _ _⟩
  | str b=>unfold RepD at he; subst he; obtain ⟨t,rfl⟩:=ru; exact ⟨.str_str _ _ _ _,.str_str _ _ _ _⟩
  | tup es=>unfold RepD at he; obtain ⟨a,vs,rfl,q,_⟩:=he; cases ru; obtain ⟨its,_,q⟩:=isT q; exact ⟨.str_tuple _ _ q hu0,.str_tuple _ _ q hu0⟩
  | lst es=>unfold RepD at he; obtain ⟨a,vs,rfl,q,_⟩:=he; cases ru; obtain ⟨its,_,q⟩:=isL q; exact ⟨.str_list _ _ q hu0,.str_list _ _ q hu0⟩
 | tup ds =>
  have hv0:=hv
  unfold RepD at hv
  obtain ⟨a,vs,rfl,q,hq⟩:=hv
  cases rv
  obtain ⟨its,r1,q1⟩:=isT q
  cases e with
  | non=>unfold RepD at he; subst he; cases ru; exact ⟨.tuple_none q1 hu0,.tuple_none q1 hu0⟩
  | bl b=>unfold RepD at he; subst he; cases ru; exact ⟨.tuple_bool _ q1 hu0,.tuple_bool _ q1 hu0⟩
  | int b=>unfold RepD at he; subst he; obtain ⟨t,rfl⟩:=ru; exact ⟨.tuple_int _ _ q1 hu0,.tuple_int _ _ q1 hu0⟩
  | str b=>unfold RepD at he; subst he; obtain ⟨t,rfl⟩:=ru; exact ⟨.tuple_str _ _ q1 hu0,.tuple_str _ _ q1 hu0⟩
  | lst es=>unfold RepD at he; obtain ⟨b,ws,rfl,g,_⟩:=he; cases ru; obtain ⟨its2,_,g1⟩:=isL g; exact ⟨.tuple_list q1 g1 hu0,.tuple_list q1 g1 hu0⟩
  | tup es =>
   have he0:=he
   unfold RepD at he
   obtain ⟨b,ws,rfl,g,hg⟩:=he
   cases ru
   obtain ⟨its2,r2,g1⟩:=isT g
   have hd':depths ds + 1 ≤ n:=by simpa [D.depth] using hd
   have l1:=r1.length
   have l2:=r2.length
   have m1:=hq.length
   have m2:=hg.length
   have rc:SeqAt.RcAt A s (.ref a) (.ref b) (eqD (.tup ds) (.tup es)):=by
    have:=SeqAt.RcAt.tuples (e:=s0q ds es) q1 g1 hu0 (l0x I (fun {A} {v} {u} {vv} {uu} {d} {e}=>ih (by omega) (A:=A)) (A:=A.in1) (by rw [h0r]; omega) (m:=n - 1) (by omega) r1 r2 hq hg)
    rw [List.size_toArray,List.size_toArray] at this
    unfold eqD
    by_cases hl:ds.length = es.length
    ·have z:(its.length == its2.length) = true:=by rw [beq_iff_eq]; omega
     have mm:min its.length its2.length = ds.length:=by omega
     rw [z,Bool.and_true,mm,g0j hl] at this
     exact this
    ·have z:(its.length == its2.length) = false:=by rw [beq_eq_false_iff_ne]; omega
     rw [z,Bool.and_false] at this
     rw [e0n hl]
     exact this
   refine ⟨rc,?_⟩
   by_cases hab:a = b
   ·subst hab
    rw [p0m I hv0 he0,e0z]
    exact .same _
   ·exact .of_refs hab rc
 | lst ds =>
  have hv0:=hv
  unfold RepD at hv
  obtain ⟨a,vs,rfl,q,hq⟩:=hv
  cases rv
  obtain ⟨its,r1,q1⟩:=isL q
  cases e with
  | non=>unfold RepD at he; subst he; cases ru; exact ⟨.list_none q1 hu0,.list_none q1 hu0⟩
  | bl b=>unfold RepD at he; subst he; cases ru; exact ⟨.list_bool _ q1 hu0,.list_bool _ q1 hu0⟩
  | int b=>unfold RepD at he; subst he; obtain ⟨t,rfl⟩:=ru; exact ⟨.list_int _ _ q1 hu0,.list_int _ _ q1 hu0⟩
  | str b=>unfold RepD at he; subst he; obtain ⟨t,rfl⟩:=ru; exact ⟨.list_str _ _ q1 hu0,.list_str _ _ q1 hu0⟩
  | tup es=>unfold RepD at he; obtain ⟨b,ws,rfl,g,_⟩:=he; cases ru; obtain ⟨its2,_,g1⟩:=isT g; exact ⟨.list_tuple q1 g1 hu0,.list_tuple q1 g1 hu0⟩
  | lst es =>
   have he0:=he
   unfold RepD at he
   obtain ⟨b,ws,rfl,g,hg⟩:=he
   cases ru
   obtain ⟨its2,r2,g1⟩:=isL g
   have hd':depths ds + 1 ≤ n:=by simpa [D.depth] using hd
   have l1:=r1.length
   have l2:=r2.length
   have m1:=hq.length
   have m2:=hg.length
   have rc:SeqAt.RcAt A s (.ref a) (.ref b) (eqD (.lst ds) (.lst es)):=by
    unfold eqD
    by_cases hl:ds.length = es.length
    ·have:=SeqAt.RcAt.lists (e:=s0q ds es) q1 g1 (by rw [List.size_toArray,List.size_toArray]; omega) hu0 (l0x I (fun {A} {v} {u} {vv} {uu} {d} {e}=>ih (by omega) (A:=A)) (A:=A.in1) (by rw [h0r]; omega) (m:=n - 1) (by omega) r1 r2 hq hg)
     rw [List.size_toArray,show its.length = ds.length by omega,g0j hl] at this
     exact this
    ·rw [e0n hl]
     exact SeqAt.RcAt.lists_lengths q1 g1 (by rw [List.size_toArray,List.size_toArray,bne_iff_ne]; omega) hu0
   refine ⟨rc,?_⟩
   by_cases hab:a = b
   ·subst hab
    rw [p0m I hv0 he0,e0z]
    exact .same _
   ·exact .of_refs hab rc
theorem w0d (I:Inv X pins σ H s):∀ (n:Nat) {A:Around} {v u:V} {vv uu:Value} {d e:D},d.depth ≤ n→A.units + n < cLine→RelV v vv→RelV u uu→RepD X.K H v d→RepD X.K H u e →
  SeqAt.RcAt A s vv uu (eqD d e)∧SeqAt.EqAt A s vv uu (eqD d e):=by
 intro n
 induction n with
 | zero=>exact fun hd hu=>h1g I 0 (fun hlt=>absurd hlt (by omega)) hd hu
 | succ n ih=>exact fun hd hu=>h1g I (n + 1) (fun _ A v u vv uu d e h1 h2 h3 h4 h5 h6=>(ih (A:=A) h1 h2 h3 h4 h5 h6).2) hd hu
end
section
variable {X:Cx} (K:PySem.W.Frag)
def rEqD (K:PySem.W.Frag):R2:=fun x y H Q=>∃ d e,RepD K H x d∧RepD K H y e∧d.depth ≤ 60∧Q (.bl (eqD d e)) H
def rNeD (K:PySem.W.Frag):R2:=fun x y H Q=>∃ d e,RepD K H x d∧RepD K H y e∧d.depth ≤ 60∧Q (.bl (!eqD d e)) H
theorem d0b (hu:X.A.units + 64 < cLine) (hK:X.K = K:=by rfl):OpR X (compareOp .Eq) (rEqD K):=by
 subst hK
 intro pins s σ H x y v u Q I rx ry h
 obtain ⟨d,e,hd,he,hz,q⟩:=h
 exact (w0d I 60 hz (by omega) rx ry hd he).1 X.prog X.w _ _ ⟨.bl _,H,I,rfl,q⟩
theorem m1f {pins:List (Addr × Obj)} {σ:St} {H:Hp} {s:Shared} (I:Inv X pins σ H s) {A:Around} {v u:V} {vv uu:Value} {d e:D} (hd:d.depth ≤ 60) (hu:A.units + 61 < cLine) (rv:RelV v vv) (ru:RelV u uu) (hv:RepD X.K H v d) (he:RepD X.K H u e) :
  SeqAt.RcNeAt A s vv uu (!eqD d e):=by
 have hu0:A.units < cLine:=by omega
 have isL:∀ {a xs},SqL X.K H a xs→∃ its:List Value,Vals xs its∧s.heap.IsList a its.toArray:=fun q=>by
  obtain ⟨its,r,p,_⟩:=I.list q
  exact ⟨its,r,p.isList⟩
 have isT:∀ {a xs},StT H a xs→∃ its:List Value,Vals xs its∧s.heap.IsTuple a its.toArray:=fun q=>by
  obtain ⟨its,r,p,_⟩:=I.tuple q.sq
  exact ⟨its,r,p⟩
 cases d with
 | non =>
  unfold RepD at hv; subst hv; cases rv
  cases e with
  | non=>unfold RepD at he; subst he; cases ru; exact .none_none
  | bl b=>unfold RepD at he; subst he; cases ru; exact .none_bool _
  | int b=>unfold RepD at he; subst he; obtain ⟨t,rfl⟩:=ru; exact .none_int _ _
  | str b=>unfold RepD at he; subst he; obtain ⟨t,rfl⟩:=ru; exact .none_str _ _
  | tup es=>unfold RepD at he; obtain ⟨a,vs,rfl,q,_⟩:=he; cases ru; obtain ⟨its,_,q⟩:=isT q; exact .none_tuple q hu0
  | lst es=>unfold RepD at he; obtain ⟨a,vs,rfl,q,_⟩:=he; cases ru; obtain ⟨its,_,q⟩:=isL q; exact .none_list q hu0
 | bl x =>
  unfold RepD at hv; subst hv; cases rv
  cases e with
  | non=>unfold RepD at he; subst he; cases ru; exact .bool_none _
  | bl b=>unfold RepD at he; subst he; cases ru; exact .bool_bool _ _
  | int b=>unfold RepD at he; subst he; obtain ⟨t,rfl⟩:=ru; exact .bool_int _ _ _
  | str b=>unfold RepD at he; subst he; obtain ⟨t,rfl⟩:=ru; exact .bool_str _ _ _
  | tup es=>unfold RepD at he; obtain ⟨a,vs,rfl,q,_⟩:=he; cases ru; obtain ⟨its,_,q⟩:=isT q; exact .bool_tuple _ q hu0
  | lst es=>unfold RepD at he; obtain ⟨a,vs,rfl,q,_⟩:=he; cases ru; obtain ⟨its,_,q⟩:=isL q; exact .bool_list _ q hu0
 | int x =>
  unfold RepD at hv; subst hv; obtain ⟨t0,rfl⟩:=rv
  cases e with
  | non=>unfold RepD at he; subst he; cases ru; exact .int_none _ _
  | bl b=>unfold RepD at he; subst he; cases ru; exact .int_bool _ _ _
  | int b=>unfold RepD at he; subst he; obtain ⟨t,rfl⟩:=ru; exact .int_int _ _ _ _
  | str b=>unfold RepD at he; subst he; obtain ⟨t,rfl⟩:=ru; exact .int_str _ _ _ _
  | tup es=>unfold RepD at he; obtain ⟨a,vs,rfl,q,_⟩:=he; cases ru; obtain ⟨its,_,q⟩:=isT q; exact .int_tuple _ _ q hu0
  | lst es=>unfold RepD at he; obtain ⟨a,vs,rfl,q,_⟩:=he; cases ru; obtain ⟨its,_,q⟩:=isL q; exact .int_list _ _ q hu0
 | str x =>
  unfold RepD at hv; subst hv; obtain ⟨t0,rfl⟩:=rv
  cases e with
  | non=>unfold RepD at he; subst he; cases ru; exact .str_none _ _
  | bl b=>unfold RepD at he; subst he; cases ru; exact .str_bool _ _ _
  | int b=>unfold RepD at he; subst he; obtain ⟨t,rfl⟩:=ru; exact .str_int _ _ _ _
  | str b=>unfold RepD at he; subst he; obtain ⟨t,rfl⟩:=ru; exact .str_str _ _ _ _
  | tup es=>unfold RepD at he; obtain ⟨a,vs,rfl,q,_⟩:=he; cases ru; obtain ⟨its,_,q⟩:=isT q; exact .str_tuple _ _ q hu0
  | lst es=>unfold RepD at he; obtain ⟨a,vs,rfl,q,_⟩:=he; cases ru; obtain ⟨its,_,q⟩:=isL q; exact .str_list _ _ q hu0
 | tup ds =>
  unfold RepD at hv
  obtain ⟨a,vs,rfl,q,hq⟩:=hv
  cases rv
  obtain ⟨its,r1,q1⟩:=isT q
  cases e with
  | non=>unfold RepD at he; subst he; cases ru; exact .tuple_none q1 hu0
  | bl b=>unfold RepD at he; subst he; cases ru; exact .tuple_bool _ q1 hu0
  | int b=>unfold RepD at he; subst he; obtain ⟨t,rfl⟩:=ru; exact .tuple_int _ _ q1 hu0
  | str b=>unfold RepD at he; subst he; obtain ⟨t,rfl⟩:=ru; exact .tuple_str _ _ q1 hu0
  | lst es=>unfold RepD at he; obtain ⟨b,ws,rfl,g,_⟩:=he; cases ru; obtain ⟨its2,_,g1⟩:=isL g; exact .tuple_list q1 g1 hu0
  | tup es =>
   unfold RepD at he
   obtain ⟨b,ws,rfl,g,hg⟩:=he
   cases ru
   obtain ⟨its2,r2,g1⟩:=isT g
   have hd':depths ds + 1 ≤ 60:=by simpa [D.depth] using hd
   have l1:=r1.length
   have l2:=r2.length
   have m1:=hq.length
   have m2:=hg.length
   have:=SeqAt.RcNeAt.tuples (e:=s0q ds es) q1 g1 hu0 (l0x I (fun {A} {v} {u} {vv} {uu} {d} {e} a1 a2 a3 a4 a5 a6=>(w0d I 60 a1 a2 a3 a4 a5 a6).2) (A:=A.in1) (by rw [h0r]; omega) (m:=60) (by omega) r1 r2 hq hg)
   rw [List.size_toArray,List.size_toArray] at this
   unfold eqD
   by_cases hl:ds.length = es.length
   ·have z:(its.length == its2.length) = true:=by rw [beq_iff_eq]; omega
    have mm:min its.length its2.length = ds.length:=by omega
    rw [z,Bool.and_true,mm,g0j hl] at this
    exact this
   ·have z:(its.length == its2.length) = false:=by rw [beq_eq_false_iff_ne]; omega
    rw [z,Bool.and_false] at this
    rw [e0n hl]
    exact this
 | lst ds =>
  unfold RepD at hv
  obtain ⟨a,vs,rfl,q,hq⟩:=hv
  cases rv
  obtain ⟨its,r1,q1⟩:=isL q
  cases e with
  | non=>unfold RepD at he; subst he; cases ru; exact .list_none q1 hu0
  | bl b=>unfold RepD at he; subst he; cases ru; exact .list_bool _ q1 hu0
  | int b=>unfold RepD at he; subst he; obtain ⟨t,rfl⟩:=ru; exact .list_int _ _ q1 hu0
  | str b=>unfold RepD at he; subst he; obtain ⟨t,rfl⟩:=ru; exact .list_str _ _ q1 hu0
  | tup es=>unfold RepD at he; obtain ⟨b,ws,rfl,g,_⟩:=he; cases ru; obtain ⟨its2,_,g1⟩:=isT g; exact .list_tuple q1 g1 hu0
  | lst es =>
   unfold RepD at he
   obtain ⟨b,ws,rfl,g,hg⟩:=he
   cases ru
   obtain ⟨its2,r2,g1⟩:=isL g
   have hd':depths ds + 1 ≤ 60:=by simpa [D.depth] using hd
   have l1:=r1.length
   have l2:=r2.length
   have m1:=hq.length
   have m2:=hg.length
   unfold eqD
   by_cases hl:ds.length = es.length
   ·have:=SeqAt.RcNeAt.lists (e:=s0q ds es) q1 g1 (by rw [List.size_toArray,List.size_toArray]; omega) hu0 (l0x I (fun {A} {v} {u} {vv} {uu} {d} {e} a1 a2 a3 a4 a5 a6=>(w0d I 60 a1 a2 a3 a4 a5 a6).2) (A:=A.in1) (by rw [h0r]; omega) (m:=60) (by omega) r1 r2 hq hg)
    rw [List.size_toArray,show its.length = ds.length by omega,g0j hl] at this
    exact this
   ·rw [e0n hl]
    exact SeqAt.RcNeAt.lists_lengths q1 g1 (by rw [List.size_toArray,List.size_toArray,bne_iff_ne]; omega) hu0
theorem j0q (hu:X.A.units + 64 < cLine) (hK:X.K = K:=by rfl):OpR X (compareOp .NotEq) (rNeD K):=by
 subst hK
 intro pins s σ H x y v u Q I rx ry h
 obtain ⟨d,e,hd,he,hz,q⟩:=h
 exact m1f I hz (by omega) rx ry hd he X.prog X.w _ _ ⟨.bl _,H,I,rfl,q⟩
theorem j0c (ns:List Int):∀ j,j ≤ ns.length→preSum (fun i=>ns.getD i 0) j = (ns.take j).sum
 | 0,_=>by simp [preSum]
 | j + 1,h=>by
  rw [preSum,j0c ns j (by omega),List.take_add_one,List.sum_append]
  have:ns[j]? = some ns[j]:=List.getElem?_eq_getElem (by omega)
  rw [this,List.getD_eq_getElem?_getD,this]
  simp
theorem m0f {ns:List Int} (h:∀ n ∈ ns,0 ≤ n):∀ j,0 ≤ (ns.take j).sum∧(ns.take j).sum ≤ ns.sum:=by
 induction ns with
 | nil=>intro j; simp
 | cons a r ih =>
  intro j
  have ha:=h a List.mem_cons_self
  have ih':=ih fun n hn=>h n (List.mem_cons_of_mem _ hn)
  have h0:=ih' r.length
  rw [List.take_length] at h0
  cases j with
  | zero=>simp; omega
  | succ j =>
   have:=ih' j
   simp only [List.take_succ_cons,List.sum_cons]
   omega
theorem x0w {ns:List Int} (h:∀ n ∈ ns,0 ≤ n):∀ n ∈ ns,n ≤ ns.sum:=by
 induction ns with
 | nil=>intro n hn; cases hn
 | cons a r ih =>
  intro n hn
  have ha:=h a List.mem_cons_self
  have hr:∀ n ∈ r,0 ≤ n:=fun n hn=>h n (List.mem_cons_of_mem _ hn)
  have h0:=m0f hr r.length
  rw [List.take_length] at h0
  rw [List.sum_cons]
  rcases List.mem_cons.mp hn with rfl | hn
  ·omega
  ·have:=ih hr n hn
   omega
theorem c1t (hc:X.calm = true) (hK:X.K = K:=by rfl):g0l X (.builtin "sum") (fun xs H Q=>∃ (p:Addr) (ns:List Int),xs = [.ref p]∧SqL K H p (ns.map V.int)∧(∀ n ∈ ns,0 ≤ n)∧ns.sum < 2 ^ 62∧Q (.int ns.sum) H):=by
 subst hK
 intro pins s σ H xs us Q I r h
 obtain ⟨p,ns,rfl,hq,h0,hb,q⟩:=h
 obtain ⟨u,rfl,ru⟩:=l0j r
 cases ru
 obtain ⟨its,rv,pl,hz⟩:=I.list hq
 refine call_sum_walk (wpAny_pyIter_list pl.isList ?_)
 have hne:p ≠ s.heap.objs.size:=Nat.ne_of_lt (by obtain ⟨o,n,e,_⟩:=pl; exact Heap.lt_size e)
 have hl:its.length = ns.length:=by have:=rv.length; rw [List.length_map] at this; omega
 refine ⟨s.heap.objs.size,_,_,_,_,_,fun i=>ns.getD i 0,rfl,Walks.list (A:=X.A.in1) (show X.A.in1.handled = none from I.ok.hd hc) s.heap.objs.size p hne its.toArray,⟨⟨_,Heap.get?_push_size _ rfl,rfl,rfl⟩,?_⟩,fun b hb=>?_,fun i v hv=>?_,fun j hj=>?_,fun h' tk t' hk=>?_⟩
 ·exact pl.isList.at fun o e=>Heap.get?_push_of_some _ e
 ·rw [Heap.size_push]
  rcases List.mem_cons.mp hb with rfl | hb
  ·exact Nat.lt_succ_self _
  ·rw [List.mem_singleton.mp hb]
   obtain ⟨o,n,e,_⟩:=pl
   exact Nat.lt_succ_of_lt (Heap.lt_size e)
 ·have hv':its[i]? = some v:=by simpa using hv
  have hi:i < its.length:=(List.getElem?_eq_some_iff.mp hv').1
  obtain ⟨w,e1,e2⟩:=rv.get (i:=i) (x:=V.int ns[i]) (by rw [List.getElem?_map,List.getElem?_eq_getElem (by omega)]; rfl)
  rw [hv'] at e1; cases e1
  obtain ⟨t,rfl⟩:=e2
  exact ⟨t,by show _ = Value.int (ns.getD i 0) t; rw [List.getD_eq_getElem?_getD,List.getElem?_eq_getElem (by omega)]; rfl⟩
 ·rw [List.size_toArray] at hj
  have m1:ns.getD j 0 ∈ ns:=by
   rw [List.getD_eq_getElem?_getD,List.getElem?_eq_getElem (by omega)]
   exact List.getElem_mem _
  have a1:=h0 _ m1
  have a2:=x0w h0 _ m1
  have a3:=m0f h0 (j + 1)
  rw [j0c ns (j + 1) (by omega)]
  exact ⟨⟨by show _ ≤ ns.getD j 0; omega,by show ns.getD j 0 < _; omega⟩,by omega,by omega⟩
 ·rw [List.size_toArray,hl,j0c ns _ (Nat.le_refl _),List.take_length]
  refine ⟨.int ns.sum,H,I.kept fun b o e=>?_,⟨_,rfl⟩,q⟩
  refine hk b o (fun z=>?_) (Heap.get?_push_of_some _ e)
  rw [List.mem_singleton.mp z] at e
  exact absurd (Heap.lt_size e) (Nat.lt_irrefl _)
theorem c1x (hc:X.calm = true) (hK:X.K = K:=by rfl):g0l X (.builtin "all") (fun xs H Q=>∃ (p:Addr) (bs:List Bool),xs = [.ref p]∧SqL K H p (bs.map V.bl)∧Q (.bl (bs.all id)) H):=by
 subst hK
 intro pins s σ H xs us Q I r h
 obtain ⟨p,bs,rfl,hq,q⟩:=h
 obtain ⟨u,rfl,ru⟩:=l0j r
 cases ru
 obtain ⟨its,rv,pl,hz⟩:=I.list hq
 refine call_all_walk (wpAny_pyIter_list pl.isList ?_)
 have hne:p ≠ s.heap.objs.size:=Nat.ne_of_lt (by obtain ⟨o,n,e,_⟩:=pl; exact Heap.lt_size e)
 have hl:its.length = bs.length:=by have:=rv.length; rw [List.length_map] at this; omega
 refine ⟨s.heap.objs.size,_,_,_,_,_,fun i=>bs.getD i true,rfl,Walks.list (A:=X.A.in1) (show X.A.in1.handled = none from I.ok.hd hc) s.heap.objs.size p hne its.toArray,⟨⟨_,Heap.get?_push_size _ rfl,rfl,rfl⟩,?_⟩,fun i v s' Q' E' hv hQ'=>?_,fun h' tk hk=>?_⟩
 ·exact pl.isList.at fun o e=>Heap.get?_push_of_some _ e
 ·have hv':its[i]? = some v:=by simpa using hv
  have hi:i < its.length:=(List.getElem?_eq_some_iff.mp hv').1
  obtain ⟨w,e1,e2⟩:=rv.get (i:=i) (x:=V.bl bs[i]) (by rw [List.getElem?_map,List.getElem?_eq_getElem (by omega)]; rfl)
  rw [hv'] at e1; cases e1
  cases e2
  have hQ2:Q' (bs.getD i true) s':=hQ'
  rw [List.getD_eq_getElem?_getD,List.getElem?_eq_getElem (by omega)] at hQ2
  exact wpAny_truthy_bool hQ2
 ·rw [List.size_toArray,hl]
  have e:((List.range bs.length).all fun i=>bs.getD i true) = bs.all id:=by
   rw [Bool.eq_iff_iff]
   simp only [List.all_eq_true,List.mem_range,id]
   constructor
   ·intro g b hb
    obtain ⟨i,hi,rfl⟩:=List.getElem_of_mem hb
    have:=g i hi
    rw [List.getD_eq_getElem?_getD,List.getElem?_eq_getElem hi] at this
    exact this
   ·intro g i hi
    rw [List.getD_eq_getElem?_getD,List.getElem?_eq_getElem hi]
    exact g _ (List.getElem_mem _)
  rw [e]
  refine ⟨.bl (bs.all id),H,I.kept fun b o e=>?_,rfl,q⟩
  refine hk b o (fun z=>?_) (Heap.get?_push_of_some _ e)
  rw [List.mem_singleton.mp z] at e
  exact absurd (Heap.lt_size e) (Nat.lt_irrefl _)
end
def c0t (ks:List Nat):Nat:=ks.foldl (fun r k=>r ^^^ (1 <<< k)) 0
theorem k0j (ks:List Nat) (k:Nat):c0t (ks ++ [k]) = c0t ks ^^^ (1 <<< k):=by
 unfold c0t
 rw [List.foldl_append]
 rfl
theorem m0k (k:Nat):∀ ks:List Nat,(c0t ks).testBit k = decide (ks.count k % 2 = 1):=by
 intro ks
 have gen:∀ (ks:List Nat) (r:Nat),(ks.foldl (fun r k=>r ^^^ (1 <<< k)) r).testBit k = (r.testBit k ^^ decide (ks.count k % 2 = 1)):=by
  intro ks
  induction ks with
  | nil=>intro r; simp
  | cons a t ih =>
   intro r
   rw [List.foldl_cons,ih,Nat.testBit_xor,Nat.one_shiftLeft,Nat.testBit_two_pow,List.count_cons]
   by_cases h:a = k
   ·subst h
    simp only [decide_true,beq_self_eq_true,if_true]
    rcases Nat.mod_two_eq_zero_or_one (t.count a) with p | p
    ·have q:(t.count a + 1) % 2 = 1:=by omega
     simp [p,q]
    ·have q:(t.count a + 1) % 2 = 0:=by omega
     simp [p,q]
   ·have hb:(a == k) = false:=beq_eq_false_iff_ne.mpr h
    simp [h,hb]
 have:=gen ks 0
 simpa [c0t] using this
theorem n0e {k:Nat}:∀ m:Nat,(List.range m).count k = if k < m then 1 else 0
 | 0=>by simp
 | m + 1=>by
  rw [List.range_succ,List.count_append,n0e m]
  by_cases h:m = k
  ·subst h; simp
  ·have hb:(m == k) = false:=beq_eq_false_iff_ne.mpr h
   rw [List.count_cons,hb]
   simp only [List.count_nil]
   by_cases h2:k < m
   ·rw [if_pos h2,if_pos (show k < m + 1 by omega)]; simp
   ·rw [if_neg h2,if_neg (show ¬ k < m + 1 by omega)]; simp
theorem s0m (n k:Nat):(c0a n).count k = if n.testBit k then 1 else 0:=by
 unfold c0a
 by_cases h:n.testBit k = true
 ·rw [if_pos h]
  have hk:=u0m h
  rw [List.count_filter h]
  rw [n0e,if_pos hk]
 ·rw [if_neg h]
  exact List.count_eq_zero.mpr fun m=>h (List.mem_filter.mp m).2
theorem l0c (n:Nat):c0t (c0a n) = n:=by
 apply Nat.eq_of_testBit_eq
 intro k
 rw [m0k,s0m]
 cases n.testBit k <;> simp
theorem p0l {ks:List Nat} {m:Nat} (h:∀ k ∈ ks,k < m):c0t ks < 2 ^ m:=by
 apply Nat.lt_pow_two_of_testBit
 intro k hk
 rw [m0k]
 have:ks.count k = 0:=List.count_eq_zero.mpr fun q=>by have:=h k q; omega
 simp [this]
theorem x0x {n k:Nat}:k ∈ c0a n↔n.testBit k = true:=by
 unfold c0a
 rw [List.mem_filter,List.mem_range]
 exact ⟨fun h=>h.2,fun h=>⟨u0m h,h⟩⟩
abbrev n1b (ks:List Nat):List V:=ks.map fun j=>V.int (j:Nat)
abbrev a0y (ks:List Nat):List D:=ks.map fun j=>D.int (j:Nat)
theorem depth_nats:∀ ks:List Nat,depths (a0y ks) = 0
 | []=>by simp [depths]
 | a :: r=>by
  have:=depth_nats r
  show depths (D.int (a:Nat) :: a0y r) = 0
  unfold depths
  rw [this]
  simp [D.depth]
theorem PSs.pre {X:Cx} {sts:List Stmt} {u P:TS} (h:PSs X sts u) (hw:∀ D σ H,P D σ H→u D σ H):PSs X sts P:=fun pins s σ H D I hp=>h pins s σ H D I (hw D σ H hp)
section
variable {X:Cx}
theorem a1m {x:Str} {v:V} {pos:Pos} (h:∃ u,X.mg x = some u∧RelV v u) (hg:Gl X x) (hd:(x == ("__debug__" : Str)) = false:=by decide):PE X (.Name x pos) (tC v):=by
 obtain ⟨u,hm,r⟩:=h
 exact e0t hg hm r hd
end
structure Net where
 m:Nat
 js:List (Nat × Nat)
 os:List Nat
def g0m (rows:List Nat) (p:Nat × Nat):List Nat:=rows ++ [rows.getD p.1 0 ^^^ rows.getD p.2 0]
def k0o (m:Nat):List Nat:=(List.range m).map fun k=>1 <<< k
def i1u (N:Net):List Nat:=N.js.foldl g0m (k0o N.m)
def okIx:Nat→List (Nat × Nat)→Prop
 | _,[]=>True
 | n,p :: r=>p.1 < p.2∧p.2 < n∧okIx (n + 1) r
def okJs:List Nat→List (Nat × Nat)→Prop
 | _,[]=>True
 | rows,p :: r=>p.1 < p.2∧p.2 < rows.length∧rows.getD p.1 0 ≠ rows.getD p.2 0∧okJs (g0m rows p) r
theorem e1d (rows:List Nat) (p:Nat × Nat):(g0m rows p).length = rows.length + 1:=by simp [g0m]
theorem f1q (js:List (Nat × Nat)):∀ rows:List Nat,(js.foldl g0m rows).length = rows.length + js.length:=by
 induction js with
 | nil=>intro rows; rfl
 | cons p r ih=>intro rows; rw [List.foldl_cons,ih,e1d,List.length_cons]; omega
theorem j1m (m:Nat):(k0o m).length = m:=by simp [k0o]
def tyD:D→String
 | .non => "NoneType" | .bl _ => "bool" | .int _ => "int" | .str _ => "str" | .tup _ => "tuple" | .lst _ => "list"
theorem h0y (K:PySem.W.Frag) {X:Cx} (hK:X.K = K:=by rfl):g0l X (.builtin "isinstance") (fun xs H Q=>∃ x d T b,xs = [x,.ty T]∧RepD K H x d∧isaT (tyD d) T = some b∧Q (.bl b) H):=by
 subst hK
 intro pins s σ H xs us Q I r h
 obtain ⟨x,d,T,b,rfl,hd,e,q⟩:=h
 cases r with
 | cons r1 rr =>
  cases rr with
  | cons r2 rr =>
   cases rr
   cases (show _ = Value.type T from r2)
   have e':∀ {t:String},tyD d = t→PySem.W.kitOne X.K (.type t) (.type T) = some b:=fun {t} z=>by rw [← z]; exact f1g.trans e
   have fin:∀ tk,EP X pins σ Q (.bool b) { s with toks:=tk }:=fun tk=>⟨.bl b,H,I.tok tk,rfl,q⟩
   cases d with
   | non=>unfold RepD at hd; subst hd; exact j0y I r1 .non (e' rfl) fin
   | bl y=>unfold RepD at hd; subst hd; exact j0y I r1 (.bl y) (e' rfl) fin
   | int y=>unfold RepD at hd; subst hd; exact j0y I r1 (.int y) (e' rfl) fin
   | str y=>unfold RepD at hd; subst hd; exact j0y I r1 (.str y) (e' rfl) fin
   | tup ds =>
    unfold RepD at hd
    obtain ⟨a,vs,rfl,hq,_⟩:=hd
    cases r1
    obtain ⟨its,_,⟨o,h1,h2,_⟩,_⟩:=I.tuple hq.sq
    exact PySem.W.kia_one PySem.W.kitx_tuple I.kIn ⟨o,h1,h2⟩ (e' rfl) (fun z=>nomatch z) fin
   | lst ds =>
    unfold RepD at hd
    obtain ⟨a,vs,rfl,hq,_⟩:=hd
    cases r1
    obtain ⟨its,_,⟨o,n,h1,h2,_⟩,_⟩:=I.list hq
    exact PySem.W.kia_one PySem.W.kitx_list I.kIn ⟨o,h1,h2⟩ (e' rfl) (fun z=>nomatch z) fin
def f0y (K:PySem.W.Frag) (H:Hp):List V→List (Nat × Nat)→Prop
 | [],[]=>True
 | v :: vs,p :: ps=>(∃ a,v = .ref a∧StT H a [.int (p.1:Nat),.int (p.2:Nat)])∧f0y K H vs ps
 | _,_=>False
section
variable {K:PySem.W.Frag} {H H':Hp}
def v0k (K:PySem.W.Frag) (H H':Hp):Prop:=∀ a xs,StT H a xs→StT H' a xs
theorem v0k.trans {H1:Hp} (a:v0k K H H1) (b:v0k K H1 H'):v0k K H H':=fun x xs q=>b x xs (a x xs q)
theorem f0y.keep (k:v0k K H H'):∀ {vs:List V} {ps:List (Nat × Nat)},f0y K H vs ps→f0y K H' vs ps
 | [],[],_=>trivial
 | v :: vs,p :: ps,⟨⟨a,e,h⟩,t⟩=>⟨⟨a,e,k _ _ h⟩,t.keep k⟩
 | [],_ :: _,h=>h.elim
 | _ :: _,[],h=>h.elim
theorem f0y.snoc {v:V} {p:Nat × Nat} (hv:∃ a,v = .ref a∧StT H a [.int (p.1:Nat),.int (p.2:Nat)]):∀ {vs:List V} {ps:List (Nat × Nat)},f0y K H vs ps→f0y K H (vs ++ [v]) (ps ++ [p])
 | [],[],_=>⟨hv,trivial⟩
 | _ :: _,_ :: _,⟨h,t⟩=>⟨h,t.snoc hv⟩
 | [],_ :: _,h=>h.elim
 | _ :: _,[],h=>h.elim
theorem f0y.length:∀ {vs:List V} {ps:List (Nat × Nat)},f0y K H vs ps→vs.length = ps.length
 | [],[],_=>rfl
 | _ :: _,_ :: _,⟨_,t⟩=>by rw [List.length_cons,List.length_cons,t.length]
 | [],_ :: _,h=>h.elim
 | _ :: _,[],h=>h.elim
theorem Grow.keepT {t:Addr} {kvs:List (Key × V)} (g:Grow t H H') (ht:H t = some (.dK kvs)):v0k K H H':=fun _ _ q=>g _ _ q (n0o q ht (by intro z; cases z))
theorem Same.keepT (s:Same H H'):v0k K H H':=fun _ _ q=>s _ _ q
end
structure Mid (K:PySem.W.Frag) (t lr lj:Addr) (m:Nat) (js:List (Nat × Nat)) (H0 H:Hp):Prop where
 rows:H lr = some (.lst (n1b (js.foldl g0m (k0o m))))
 joins:∃ ps,H lj = some (.lst ps)∧f0y K H ps js
 ok:okJs (k0o m) js
 gr:Grow t H0 H
 fr:H0 lr = none
 fj:H0 lj = none
 ne:lr ≠ lj
 td:∃ kvs,H t = some (.dK kvs)
theorem Mid.grow {K:PySem.W.Frag} {t lr lj:Addr} {m:Nat} {js:List (Nat × Nat)} {H0 H H':Hp} (M:Mid K t lr lj m js H0 H) (g:Grow t H H') (T:∃ kvs,H' t = some (.dK kvs)):Mid K t lr lj m js H0 H':=by
 obtain ⟨kvs,ht⟩:=M.td
 obtain ⟨ps,h1,h2⟩:=M.joins
 exact ⟨g _ _ M.rows (n0o M.rows ht (by intro z; cases z)),⟨ps,g _ _ h1 (n0o h1 ht (by intro z; cases z)),h2.keep (g.keepT ht)⟩,M.ok,M.gr.trans g,M.fr,M.fj,M.ne,T⟩
theorem Mid.len {K:PySem.W.Frag} {t lr lj:Addr} {m:Nat} {js:List (Nat × Nat)} {H0 H:Hp} (M:Mid K t lr lj m js H0 H):(n1b (js.foldl g0m (k0o m))).length = m + js.length:=by
 rw [List.length_map,f1q,j1m]
inductive Sv where
 | un | vl (d:D) | ow (ds:List D) | tp (n:Nat) | dk (kvs:List (Key × D)) | dt (kvs:List (List Key × D)) | ex (C:Addr) (fs:Option (List (Str × D)))
def Sv.own:Sv→Bool
 | .ow _=>true
 | .tp _=>true
 | .dk _=>true
 | .dt _=>true
 | _=>false
abbrev En:=List Sv
inductive R where
 | d (d:D) | o (i:Nat) | n (s:Sv) | t (n:String)
abbrev R.f (ds:List D):R:=.n (.ow ds)
def gt:En→Nat→Sv
 | [],_=>.un
 | s :: _,0=>s
 | _ :: r,n + 1=>gt r n
def pt:En→Nat→Sv→En
 | [],_,_=>[]
 | _ :: r,0,s=>s :: r
 | x :: r,n + 1,s=>x :: pt r n s
theorem i0s:∀ (ρ:En) (i:Nat) (s:Sv),(pt ρ i s).length = ρ.length
 | [],_,_=>rfl
 | _ :: _,0,_=>rfl
 | x :: r,n + 1,s=>by simp [pt,i0s r n s]
theorem c0j:∀ (ρ:En) (i j:Nat) (s:Sv),i ≠ j→gt (pt ρ i s) j = gt ρ j
 | [],_,_,_,_=>rfl
 | _ :: _,0,0,_,h=>absurd rfl h
 | _ :: _,0,j + 1,_,_=>rfl
 | x :: r,i + 1,0,s,_=>rfl
 | x :: r,i + 1,j + 1,s,h=>c0j r i j s (by omega)
theorem q0c:∀ (ρ:En) (i:Nat) (s:Sv),i < ρ.length→gt (pt ρ i s) i = s
 | [],_,_,h=>by simp at h
 | _ :: _,0,_,_=>rfl
 | x :: r,i + 1,s,h=>q0c r i s (by simpa using h)
theorem o0o:∀ (ρ:En) (i:Nat),ρ.length ≤ i→gt ρ i = .un
 | [],_,_=>rfl
 | x :: r,0,h=>by simp at h
 | x :: r,i + 1,h=>o0o r i (by simpa using h)
theorem o0g {ρ:En} {i:Nat} (h:(gt ρ i).own = true):i < ρ.length:=by
 rcases Nat.lt_or_ge i ρ.length with q | q
 ·exact q
 ·rw [o0o ρ i q] at h; cases h
def b0u (σ:St) (ρ:En) (a:Addr):Prop:=∃ i,(gt ρ i).own = true∧σ[i]? = some (some (.ref a))
open Classical in
noncomputable def hid (H:Hp) (S:Addr→Prop):Hp:=fun a=>if S a then none else H a
theorem g0x {H:Hp} {S:Addr→Prop} {a:Addr} {o:HO}:hid H S a = some o↔¬ S a∧H a = some o:=by
 unfold hid
 split
 ·rename_i h; simp [h]
 ·rename_i h; simp [h]
theorem j0z {H:Hp} {S:Addr→Prop} {a:Addr} {o:HO} (h:¬ S a) (e:H a = some o):hid H S a = some o:=g0x.mpr ⟨h,e⟩
theorem b0t {H H':Hp} {S S':Addr→Prop} (h:∀ a o,H a = some o→¬ S a→H' a = some o∧¬ S' a):Same (hid H S) (hid H' S'):=fun a o e=>by
 obtain ⟨n,e⟩:=g0x.mp e
 obtain ⟨e',n'⟩:=h a o e n
 exact j0z n' e'
theorem c0y {H:Hp} {S:Addr→Prop}:Same (hid H S) H:=fun a o e=>(g0x.mp e).2
structure Fr where
 H0:Hp
 Z:Addr→Prop
 M:Addr→Prop
 I:Nat→Addr→Prop
 P:Nat→Addr→Prop
def Fr.pin (F:Fr) (i:Nat) (a:Addr):Prop:=F.I i a ∨ F.P i a
def hs (F:Fr) (σ:St) (ρ:En):Addr→Prop:=fun a=>F.Z a ∨ b0u σ ρ a
def exP (e C:Addr) (od:Option Addr):Heap→Prop:=fun h=>∃ oe vs,h.get? e = some oe∧oe.cls = .ref C∧oe.dict = od∧oe.data = .fields vs
def exD (K:PySem.W.Frag) (Hh:Hp):Option (List (Str × D))→Option Addr→Prop
 | none,none=>True
 | some fs,some dx=>∃ ks,Hh dx = some (.xd ks)∧ks.map Prod.fst = fs.map Prod.fst∧RepDs K Hh (ks.map Prod.snd) (fs.map Prod.snd)
 | _,_=>False
theorem exD.same {K:PySem.W.Frag} {Hh Hh':Hp}:∀ {fs:Option (List (Str × D))} {od:Option Addr},exD K Hh fs od→Same Hh Hh'→exD K Hh' fs od
 | none,none,h,_=>h
 | some fs,some dx,⟨ks,h1,h2,h3⟩,g=>⟨ks,g _ _ h1,h2,h3.same g⟩
 | none,some _,h,_=>h.elim
 | some _,none,h,_=>h.elim
def SvOk (K:PySem.W.Frag) (Hh H:Hp) (v:Option (Option V)):Sv→Prop
 | .ex C fs=>∃ e od,v = some (some (.ref e))∧Hh e = some (.ext (exP e C od))∧exD K Hh fs od
 | .un=>True
 | .vl d=>∃ x,v = some (some x)∧RepD K Hh x d
 | .ow ds=>∃ l vs,v = some (some (.ref l))∧H l = some (.lst vs)∧RepDs K Hh vs ds
 | .tp n=>∃ t c ns sp lf,v = some (some (.ref t))∧H t = some (.dK (c0u c sp lf))∧SqL K Hh c (List.map V.int ns)∧0 ≤ sp∧sp ≤ n∧0 ≤ lf
 | .dk kvs=>∃ t ks,v = some (some (.ref t))∧H t = some (.dK ks)∧ks.map Prod.fst = kvs.map Prod.fst∧RepDs K Hh (ks.map Prod.snd) (kvs.map Prod.snd)
 | .dt kvs=>∃ t ks,v = some (some (.ref t))∧H t = some (.dT ks)∧ks.map Prod.fst = kvs.map Prod.fst∧RepDs K Hh (ks.map Prod.snd) (kvs.map Prod.snd)
theorem SvOk.keep {K:PySem.W.Frag} {Hh Hh' H H':Hp} {v:Option (Option V)} {s:Sv} (h:SvOk K Hh H v s) (g:Same Hh Hh') (k:∀ l o,s.own = true→v = some (some (.ref l))→H l = some o→H' l = some o):SvOk K Hh' H' v s:=by
 cases s with
 | un=>trivial
 | vl d=>obtain ⟨x,e,r⟩:=h; exact ⟨x,e,r.same g⟩
 | ow ds=>obtain ⟨l,vs,e,a,r⟩:=h; exact ⟨l,vs,e,k _ _ rfl e a,r.same g⟩
 | tp n=>obtain ⟨t,c,ns,sp,lf,e,a,b,r⟩:=h; exact ⟨t,c,ns,sp,lf,e,k _ _ rfl e a,g.seq b,r⟩
 | dk kvs=>obtain ⟨t,ks,e,a,b,r⟩:=h; exact ⟨t,ks,e,k _ _ rfl e a,b,r.same g⟩
 | dt kvs=>obtain ⟨t,ks,e,a,b,r⟩:=h; exact ⟨t,ks,e,k _ _ rfl e a,b,r.same g⟩
 | ex C fs=>obtain ⟨t,od,e,a,b⟩:=h; exact ⟨t,od,e,g _ _ a,b.same g⟩
theorem SvOk.alive {K:PySem.W.Frag} {Hh H:Hp} {v:Option (Option V)} {s:Sv} (h:SvOk K Hh H v s) (ho:s.own = true):∃ l o,v = some (some (.ref l))∧H l = some o:=by
 cases s with
 | un=>cases ho
 | vl d=>cases ho
 | ow ds=>obtain ⟨l,vs,e,a,r⟩:=h; exact ⟨l,_,e,a⟩
 | tp n=>obtain ⟨t,c,ns,sp,lf,e,a,b,r⟩:=h; exact ⟨t,_,e,a⟩
 | dk kvs=>obtain ⟨t,ks,e,a,b,r⟩:=h; exact ⟨t,_,e,a⟩
 | dt kvs=>obtain ⟨t,ks,e,a,b,r⟩:=h; exact ⟨t,_,e,a⟩
 | ex C fs=>cases ho
def Nt (H:Hp) (a:Addr):Prop:=H a ≠ none∧∀ xs,H a ≠ some (.tup xs)
theorem m1z {H:Hp} {a l:Addr} {o:HO} (al:a ≠ l) (h:Nt H a):Nt (upd H l o) a:=by unfold Nt; rw [a0o al]; exact h
structure Rel (K:PySem.W.Frag) (F:Fr) (σ:St) (ρ:En) (H:Hp):Prop where
 len:σ.length = ρ.length
 fr:∀ a o,F.H0 a = some o→¬ F.M a→H a = some o
 zl:∀ a,F.Z a→Nt H a
 zo:∀ a,b0u σ ρ a→¬ F.Z a
 ow:∀ i a,(gt ρ i).own = true→σ[i]? = some (some (.ref a))→(F.I i a∧F.M a) ∨ F.H0 a = none
 mi:∀ i a,F.pin i a→σ[i]? = some (some (.ref a))
 ml:∀ a,F.M a→F.H0 a ≠ none
 ma:∀ a,F.M a→H a ≠ none
 nd:∀ i j a,(gt ρ i).own = true→(gt ρ j).own = true→σ[i]? = some (some (.ref a))→σ[j]? = some (some (.ref a))→i = j
 sl:∀ i,SvOk K (hid H (hs F σ ρ)) H σ[i]? (gt ρ i)
structure Kp (σ:St) (ρ ρ':En) (H H':Hp):Prop where
 st:∀ a o,H a = some o→¬ b0u σ ρ a→H' a = some o
 sb:∀ i,(gt ρ' i).own = true→(gt ρ i).own = true
theorem Kp.so {σ:St} {ρ ρ':En} {H H':Hp} (k:Kp σ ρ ρ' H H') {a:Addr} (h:b0u σ ρ' a):b0u σ ρ a:=by
 obtain ⟨i,hi,e⟩:=h
 exact ⟨i,k.sb i hi,e⟩
theorem Kp.refl {σ:St} {ρ:En} {H:Hp}:Kp σ ρ ρ H H:=⟨fun _ _ e _=>e,fun _ h=>h⟩
theorem Kp.trans {σ:St} {ρ ρ1 ρ2:En} {H H1 H2:Hp} (a:Kp σ ρ ρ1 H H1) (b:Kp σ ρ1 ρ2 H1 H2):Kp σ ρ ρ2 H H2 :=
 ⟨fun x o e n=>b.st x o (a.st x o e n) fun z=>n (a.so z),fun x z=>a.sb x (b.sb x z)⟩
theorem Kp.fresh {σ:St} {ρ:En} {H:Hp} {l:Addr} {o:HO} (h:H l = none):Kp σ ρ ρ H (upd H l o) :=
 ⟨fun a u e _=>by rw [a0o (b0h e h)]; exact e,fun _ h=>h⟩
section
variable {K:PySem.W.Frag} {F:Fr} {σ:St} {ρ ρ':En} {H H':Hp}
theorem f0k (r:Rel K F σ ρ H) {a:Addr} (h:b0u σ ρ a):H a ≠ none:=by
 obtain ⟨i,hi,e⟩:=h
 obtain ⟨l,o,e',h'⟩:=(r.sl i).alive hi
 rw [e] at e'; injection e' with e'; injection e' with e'; injection e' with e'
 rw [e',h']; exact fun z=>nomatch z
theorem f1j (r:Rel K F σ ρ H) {a:Addr} (h:hs F σ ρ a):H a ≠ none:=by
 rcases h with h | h
 ·exact (r.zl a h).1
 ·exact f0k r h
theorem SvOk.nt {K:PySem.W.Frag} {Hh H:Hp} {v:Option (Option V)} {s:Sv} (h:SvOk K Hh H v s) (ho:s.own = true):∃ l,v = some (some (.ref l))∧Nt H l:=by
 cases s with
 | un=>cases ho
 | vl d=>cases ho
 | ow ds=>obtain ⟨l,vs,e,a,r⟩:=h; exact ⟨l,e,by rw [a]; exact (fun z=>nomatch z),by rw [a]; exact fun _ z=>nomatch z⟩
 | tp n=>obtain ⟨l,c,ns,sp,lf,e,a,b,r⟩:=h; exact ⟨l,e,by rw [a]; exact (fun z=>nomatch z),by rw [a]; exact fun _ z=>nomatch z⟩
 | dk kvs=>obtain ⟨l,ks,e,a,b,r⟩:=h; exact ⟨l,e,by rw [a]; exact (fun z=>nomatch z),by rw [a]; exact fun _ z=>nomatch z⟩
 | dt kvs=>obtain ⟨l,ks,e,a,b,r⟩:=h; exact ⟨l,e,by rw [a]; exact (fun z=>nomatch z),by rw [a]; exact fun _ z=>nomatch z⟩
 | ex C fs=>cases ho
theorem w0j (r:Rel K F σ ρ H) {a:Addr} (h:b0u σ ρ a):Nt H a:=by
 obtain ⟨i,hi,e⟩:=h
 obtain ⟨l,e',h'⟩:=(r.sl i).nt hi
 rw [e] at e'; injection e' with e'; injection e' with e'; injection e' with e'
 rw [e']; exact h'
theorem n1v (r:Rel K F σ ρ H) {a:Addr} (h:hs F σ ρ a):Nt H a:=by
 rcases h with h | h
 ·exact r.zl a h
 ·exact w0j r h
theorem k0a (r:Rel K F σ ρ H) {l:Addr} (h:H l = none):¬ hs F σ ρ l:=fun z=>f1j r z h
theorem f1o (r:Rel K F σ ρ H) {l:Addr} (h:H l = none):F.H0 l = none:=by
 cases h0:F.H0 l with
 | none=>rfl
 | some o =>
  by_cases q:F.M l
  ·exact absurd h (r.ma l q)
  ·have:=r.fr l o h0 q
   rw [h] at this; cases this
theorem Kp.vis (k:Kp σ ρ ρ' H H'):Same (hid H (hs F σ ρ)) (hid H' (hs F σ ρ')):=b0t fun a o e n =>
 ⟨k.st a o e fun z=>n (.inr z),fun z=>by
  rcases z with z | z
  ·exact n (.inl z)
  ·exact n (.inr (k.so z))⟩
theorem y0e {a:Addr} (g:Same H H') (h:H a ≠ none):H' a ≠ none:=fun e=>by
 cases h':H a with
 | none=>exact h h'
 | some o=>rw [g a o h'] at e; cases e
theorem k1g {a:Addr} (g:Same H H') (h:Nt H a):Nt H' a:=by
 cases h':H a with
 | none=>exact (h.1 h').elim
 | some o =>
  have e:=g a o h'
  unfold Nt
  rw [e,← h']; exact h
theorem Rel.grow (r:Rel K F σ ρ H) (g:Same H H'):Rel K F σ ρ H' where
 len:=r.len
 fr:=fun a o e n=>g a o (r.fr a o e n)
 zl:=fun a z=>k1g g (r.zl a z)
 zo:=r.zo
 ow:=r.ow
 mi:=r.mi
 ml:=r.ml
 ma:=fun a z=>y0e g (r.ma a z)
 nd:=r.nd
 sl:=fun i=>(r.sl i).keep (b0t fun a o e n=>⟨g a o e,n⟩) fun l o _ _ e=>g l o e
theorem Rel.fresh (r:Rel K F σ ρ H) {l:Addr} {o:HO} (h:H l = none):Rel K F σ ρ (upd H l o):=r.grow ((Same.refl H).new h)
theorem w0g:∀ (ρ:En) (i:Nat) (s:Sv),ρ.length ≤ i→pt ρ i s = ρ
 | [],_,_,_=>rfl
 | x :: r,0,s,h=>by simp at h
 | x :: r,i + 1,s,h=>by simp [pt,w0g r i s (by simpa using h)]
theorem e0u {i j:Nat} {s:Sv} (hs:s.own = false) (hj:(gt (pt ρ i s) j).own = true):i ≠ j∧(gt ρ j).own = true:=by
 by_cases ij:i = j
 ·subst ij
  rcases Nat.lt_or_ge i ρ.length with q | q
  ·rw [q0c ρ i s q,hs] at hj; cases hj
  ·rw [o0o _ i (by rw [i0s]; exact q)] at hj; cases hj
 ·rw [c0j ρ i j s ij] at hj
  exact ⟨ij,hj⟩
theorem Rel.setS (r:Rel K F σ ρ H) {i:Nat} {v:V} {s:Sv} (hs':s.own = false) (hd:SvOk K (hid H (hs F σ ρ)) H (some (some v)) s) (hm:∀ a,¬ F.pin i a):Rel K F (σ.set i (some v)) (pt ρ i s) H:=by
 rcases Nat.lt_or_ge i ρ.length with hi | hi
 case inr =>
  rw [w0g ρ i s hi,List.set_eq_of_length_le (by rw [r.len]; exact hi)]; exact r
 have sub:∀ a,b0u (σ.set i (some v)) (pt ρ i s) a→b0u σ ρ a:=fun a ⟨j,hj,e⟩=>by
  obtain ⟨ij,hj⟩:=e0u hs' hj
  rw [List.getElem?_set_ne ij] at e
  exact ⟨j,hj,e⟩
 have vis:Same (hid H (hs F σ ρ)) (hid H (hs F (σ.set i (some v)) (pt ρ i s))):=b0t fun a o e n=>⟨e,fun z=>n (z.imp id (sub a))⟩
 refine ⟨by rw [List.length_set,i0s,r.len],r.fr,r.zl,fun a h=>r.zo a (sub a h),fun j a hj e=>?_,fun j a h=>?_,r.ml,r.ma,fun j k a hj hk ej ek=>?_,fun j=>?_⟩
 ·obtain ⟨ij,hj⟩:=e0u hs' hj
  rw [List.getElem?_set_ne ij] at e
  exact r.ow j a hj e
 ·have:i ≠ j:=fun e=>hm a (e ▸ h)
  rw [List.getElem?_set_ne this]; exact r.mi j a h
 ·obtain ⟨nj,hj⟩:=e0u hs' hj
  obtain ⟨nk,hk⟩:=e0u hs' hk
  rw [List.getElem?_set_ne nj] at ej
  rw [List.getElem?_set_ne nk] at ek
  exact r.nd j k a hj hk ej ek
 ·by_cases ij:i = j
  ·subst ij
   rw [q0c ρ i _ hi,List.getElem?_set_self (by rw [r.len]; exact hi)]
   exact hd.keep vis fun l o ho=>by rw [hs'] at ho; cases ho
  ·rw [c0j ρ i j _ ij,List.getElem?_set_ne ij]
   exact (r.sl j).keep vis fun l o _ _ e=>e
theorem Rel.set (r:Rel K F σ ρ H) {i:Nat} {v:V} {d:D} (hd:RepD K (hid H (hs F σ ρ)) v d) (hm:∀ a,¬ F.pin i a):Rel K F (σ.set i (some v)) (pt ρ i (.vl d)) H :=
 r.setS rfl ⟨v,rfl,hd⟩ hm
theorem Rel.setF (r:Rel K F σ ρ H) {i:Nat} {l:Addr} {o:HO} {s:Sv} (hs':s.own = true) (hd:SvOk K (hid H (hs F σ ρ)) (upd H l o) (some (some (.ref l))) s) (hn:H l = none) (hm:∀ a,¬ F.pin i a) :
  Rel K F (σ.set i (some (.ref l))) (pt ρ i s) (upd H l o):=by
 have rf:=r.fresh (o:=o) hn
 rcases Nat.lt_or_ge i ρ.length with hi | hi
 case inr =>
  rw [w0g ρ i s hi,List.set_eq_of_length_le (by rw [r.len]; exact hi)]; exact rf
 have at1:∀ {a},(σ.set i (some (V.ref l)))[i]? = some (some (.ref a))→a = l:=fun e=>by
  rw [List.getElem?_set_self (by rw [r.len]; exact hi)] at e
  injection e with e; injection e with e; injection e with e
  exact e.symm
 have sub:∀ a,b0u (σ.set i (some (.ref l))) (pt ρ i s) a→b0u σ ρ a ∨ a = l:=fun a h=>by
  obtain ⟨j,hj,e⟩:=h
  by_cases ij:i = j
  ·subst ij; exact .inr (at1 e)
  ·rw [c0j ρ i j _ ij] at hj
   rw [List.getElem?_set_ne ij] at e
   exact .inl ⟨j,hj,e⟩
 have vis:Same (hid H (hs F σ ρ)) (hid (upd H l o) (hs F (σ.set i (some (.ref l))) (pt ρ i s))):=b0t fun a u e n=>by
  have al:=b0h e hn
  refine ⟨by rw [a0o al]; exact e,fun z=>?_⟩
  rcases z with z | z
  ·exact n (.inl z)
  ·rcases sub a z with z | z
   ·exact n (.inr z)
   ·exact al z
 have nol:∀ j,(gt ρ j).own = true→σ[j]? ≠ some (some (.ref l)):=fun j hj e=>f0k r ⟨j,hj,e⟩ hn
 refine ⟨by rw [List.length_set,i0s,r.len],rf.fr,rf.zl,fun a h=>?_,fun j a hj e=>?_,fun j a h=>?_,r.ml,rf.ma,fun j k a hj hk ej ek=>?_,fun j=>?_⟩
 ·rcases sub a h with h | h
  ·exact r.zo a h
  ·subst h; exact fun z=>(r.zl _ z).1 hn
 ·by_cases ij:i = j
  ·subst ij
   rw [at1 e]; exact .inr (f1o r hn)
  ·rw [c0j ρ i j _ ij] at hj
   rw [List.getElem?_set_ne ij] at e
   exact r.ow j a hj e
 ·have:i ≠ j:=fun e=>hm a (e ▸ h)
  rw [List.getElem?_set_ne this]; exact r.mi j a h
 ·by_cases nj:i = j
  ·by_cases nk:i = k
   ·omega
   ·subst nj
    have:=at1 ej
    subst this
    rw [c0j ρ i k _ nk] at hk
    rw [List.getElem?_set_ne nk] at ek
    exact absurd ek (nol k hk)
  ·rw [c0j ρ i j _ nj] at hj
   rw [List.getElem?_set_ne nj] at ej
   by_cases nk:i = k
   ·subst nk
    have:=at1 ek
    subst this
    exact absurd ej (nol j hj)
   ·rw [c0j ρ i k _ nk] at hk
    rw [List.getElem?_set_ne nk] at ek
    exact r.nd j k a hj hk ej ek
 ·by_cases ij:i = j
  ·subst ij
   rw [q0c ρ i _ hi,List.getElem?_set_self (by rw [r.len]; exact hi)]
   exact hd.keep vis fun _ _ _ _ e=>e
  ·rw [c0j ρ i j _ ij,List.getElem?_set_ne ij]
   exact (r.sl j).keep vis fun a o ho e h=>by
    rw [a0o (b0h h hn)]; exact h
theorem Rel.write (r:Rel K F σ ρ H) {i:Nat} {l:Addr} {o:HO} {s:Sv} (hi:(gt ρ i).own = true) (el:σ[i]? = some (some (.ref l))) (hs':s.own = true) (new:SvOk K (hid H (hs F σ ρ)) (upd H l o) (some (some (.ref l))) s):Rel K F σ (pt ρ i s) (upd H l o)∧Kp σ ρ (pt ρ i s) H (upd H l o):=by
 have lt:=o0g hi
 have own':∀ j,(gt (pt ρ i s) j).own = true→(gt ρ j).own = true:=fun j h=>by
  by_cases ij:i = j
  ·subst ij; exact hi
  ·rw [c0j ρ i j _ ij] at h; exact h
 have sub:∀ a,b0u σ (pt ρ i s) a→b0u σ ρ a:=fun a ⟨j,hj,e⟩=>⟨j,own' j hj,e⟩
 have hso:b0u σ ρ l:=⟨i,hi,el⟩
 have vis:Same (hid H (hs F σ ρ)) (hid (upd H l o) (hs F σ (pt ρ i s))):=b0t fun a u e n=>by
  have al:a ≠ l:=fun z=>n (.inr (z ▸ hso))
  exact ⟨by rw [a0o al]; exact e,fun z=>n (z.imp id (sub a))⟩
 have up:∀ {a},H a ≠ none→(upd H l o) a ≠ none:=fun {a} h e=>by
  by_cases al:a = l
  ·subst al; rw [b0g] at e; cases e
  ·rw [a0o al] at e; exact h e
 refine ⟨⟨by rw [i0s,r.len],fun a u e n=>?_,fun a z=>m1z (fun q=>r.zo l hso (q ▸ z)) (r.zl a z),fun a h=>r.zo a (sub a h),fun j a hj e=>r.ow j a (own' j hj) e,r.mi,r.ml,fun a z=>up (r.ma a z),fun j k a hj hk ej ek=>r.nd j k a (own' j hj) (own' k hk) ej ek,fun j=>?_⟩,⟨fun a u e n=>?_,own'⟩⟩
 ·have al:a ≠ l:=fun z=>by
   subst z
   rcases r.ow i _ hi el with ⟨_,q⟩ | q
   ·exact n q
   ·rw [e] at q; cases q
  rw [a0o al]; exact r.fr a u e n
 ·by_cases ij:i = j
  ·subst ij
   rw [q0c ρ i s lt,el]
   exact new.keep vis fun _ _ _ _ e=>e
  ·rw [c0j ρ i j _ ij]
   refine (r.sl j).keep vis fun a u ho e h=>?_
   have al:a ≠ l:=fun z=>ij (r.nd i j l hi ho el (z ▸ e))
   rw [a0o al]; exact h
 ·have al:a ≠ l:=fun z=>n (z ▸ hso)
  rw [a0o al]; exact e
theorem Rel.frz (r:Rel K F σ ρ H) {i:Nat} {ds:List D} (hi:gt ρ i = .ow ds):∃ l,σ[i]? = some (some (.ref l))∧Rel K F σ (pt ρ i (.vl (.lst ds))) H∧Kp σ ρ (pt ρ i (.vl (.lst ds))) H H∧RepD K (hid H (hs F σ (pt ρ i (.vl (.lst ds))))) (.ref l) (.lst ds):=by
 have ho:(gt ρ i).own = true:=by rw [hi]; rfl
 have lt:=o0g ho
 have q:=r.sl i
 rw [hi] at q
 obtain ⟨l,vs,el,hl,hd⟩:=q
 have own':∀ j,(gt (pt ρ i (.vl (.lst ds))) j).own = true→i ≠ j∧(gt ρ j).own = true:=fun j h=>e0u rfl h
 have sub:∀ a,b0u σ (pt ρ i (.vl (.lst ds))) a→b0u σ ρ a∧a ≠ l:=fun a ⟨j,hj,e⟩=>by
  obtain ⟨ij,hj⟩:=own' j hj
  exact ⟨⟨j,hj,e⟩,fun z=>ij (r.nd i j l ho hj el (z ▸ e))⟩
 have vis:Same (hid H (hs F σ ρ)) (hid H (hs F σ (pt ρ i (.vl (.lst ds))))):=b0t fun a u e n=>⟨e,fun z=>n (z.imp id fun z=>(sub a z).1)⟩
 have vl:¬ hs F σ (pt ρ i (.vl (.lst ds))) l:=fun z=>by
  rcases z with z | z
  ·exact r.zo l ⟨i,ho,el⟩ z
  ·exact (sub l z).2 rfl
 have rd:RepD K (hid H (hs F σ (pt ρ i (.vl (.lst ds))))) (.ref l) (.lst ds):=by
  unfold RepD
  exact ⟨l,vs,rfl,SqL.of (j0z vl hl),hd.same vis⟩
 refine ⟨l,el,⟨by rw [i0s,r.len],r.fr,r.zl,fun a h=>r.zo a (sub a h).1,fun j a hj e=>r.ow j a (own' j hj).2 e,r.mi,r.ml,r.ma,fun j k a hj hk ej ek=>r.nd j k a (own' j hj).2 (own' k hk).2 ej ek,fun j=>?_⟩,⟨fun _ _ e _=>e,fun j h=>(own' j h).2⟩,rd⟩
 by_cases ij:i = j
 ·subst ij
  rw [q0c ρ i _ lt,el]
  exact ⟨_,rfl,rd⟩
 ·rw [c0j ρ i j _ ij]
  exact (r.sl j).keep vis fun a u _ _ h=>h
end
def RelR (K:PySem.W.Frag) (F:Fr) (σ:St) (ρ:En) (v:V) (H:Hp):R→Prop
 | .d d=>Rel K F σ ρ H∧RepD K (hid H (hs F σ ρ)) v d
 | .o i=>Rel K F σ ρ H∧σ[i]? = some (some v)
 | .n s=>∃ Hb l o,Rel K F σ ρ Hb∧s.own = true∧SvOk K (hid Hb (hs F σ ρ)) (upd Hb l o) (some (some (.ref l))) s∧Hb l = none∧H = upd Hb l o∧v = .ref l
 | .t n=>Rel K F σ ρ H∧v = .ty n
def Out (K:PySem.W.Frag) (F:Fr) (σ:St) (ρ:En) (H:Hp) (ρ':En) (v:V) (H':Hp):R→Prop
 | .d d=>Rel K F σ ρ' H'∧Kp σ ρ ρ' H H'∧RepD K (hid H' (hs F σ ρ')) v d
 | .o i=>Rel K F σ ρ' H'∧Kp σ ρ ρ' H H'∧σ[i]? = some (some v)
 | .n s=>∃ Hb l o,Rel K F σ ρ' Hb∧Kp σ ρ ρ' H Hb∧s.own = true∧SvOk K (hid Hb (hs F σ ρ')) (upd Hb l o) (some (some (.ref l))) s∧Hb l = none∧H' = upd Hb l o∧v = .ref l
 | .t n=>Rel K F σ ρ' H'∧Kp σ ρ ρ' H H'∧v = .ty n
def InF (K:PySem.W.Frag) (F:Fr) (σ:St) (ρ:En) (H:Hp) (v:V):R→Prop
 | .d d=>RepD K (hid H (hs F σ ρ)) v d
 | .o i=>σ[i]? = some (some v)
 | .n _=>True
 | .t n=>v = .ty n
def R.frz:R→R
 | .n (.ow ds)=>.d (.lst ds)
 | r=>r
inductive InFs (K:PySem.W.Frag) (F:Fr) (σ:St) (ρ:En) (H:Hp):List V→List R→Prop
 | nil:InFs K F σ ρ H [] []
 | cons {v:V} {r:R} {vs:List V} {rs:List R}:InF K F σ ρ H v r→InFs K F σ ρ H vs rs→InFs K F σ ρ H (v :: vs) (r :: rs)
def view (ρ:En):R→Option D
 | .d d=>some d
 | .o i=>(match gt ρ i with | .ow ds=>some (.lst ds) | .vl d=>some d | _=>none)
 | _=>none
section
variable {K:PySem.W.Frag} {F:Fr} {σ:St} {ρ ρ':En} {H H':Hp} {v:V} {r:R}
theorem InF.keep (h:InF K F σ ρ H v r) (k:Kp σ ρ ρ' H H'):InF K F σ ρ' H' v r:=by
 cases r with
 | d d=>exact RepD.same h k.vis
 | o i=>exact h
 | n s=>exact h
 | t n=>exact h
theorem InFs.keep {vs:List V} {rs:List R} (h:InFs K F σ ρ H vs rs) (k:Kp σ ρ ρ' H H'):InFs K F σ ρ' H' vs rs:=by
 induction h with
 | nil=>exact .nil
 | cons a _ ih=>exact .cons (a.keep k) ih
theorem Out.inF (h:Out K F σ ρ H ρ' v H' r):Rel K F σ ρ' H'∧Kp σ ρ ρ' H H'∧InF K F σ ρ' H' v r.frz:=by
 cases r with
 | d d=>exact ⟨h.1,h.2.1,h.2.2⟩
 | o i=>exact ⟨h.1,h.2.1,h.2.2⟩
 | t n=>exact ⟨h.1,h.2.1,h.2.2⟩
 | n s =>
  obtain ⟨Hb,l,o,a,k0,hs',b,c,rfl,rfl⟩:=h
  have k:Kp σ ρ' ρ' Hb (upd Hb l o):=Kp.fresh c
  refine ⟨a.fresh c,k0.trans k,?_⟩
  cases s with
  | un=>trivial
  | vl d=>trivial
  | tp n=>trivial
  | dk n=>trivial
  | dt n=>trivial
  | ex n m=>trivial
  | ow ds =>
   obtain ⟨l',vs,e,h1,h2⟩:=b
   injection e with e; injection e with e; injection e with e; subst e
   show RepD K _ (.ref l) (.lst ds)
   unfold RepD
   exact ⟨l,vs,rfl,SqL.of (j0z (k0a a c) h1),h2.same k.vis⟩
theorem Out.rel (h:Out K F σ ρ H ρ' v H' r):RelR K F σ ρ' v H' r:=by
 cases r with
 | d d=>exact ⟨h.1,h.2.2⟩
 | o i=>exact ⟨h.1,h.2.2⟩
 | t n=>exact ⟨h.1,h.2.2⟩
 | n s =>
  obtain ⟨Hb,l,o,a,k0,hs',b,c,e1,e2⟩:=h
  exact ⟨Hb,l,o,a,hs',b,c,e1,e2⟩
theorem Out.after {ρ1:En} {H1:Hp} (k:Kp σ ρ ρ1 H H1) (h:Out K F σ ρ1 H1 ρ' v H' r):Out K F σ ρ H ρ' v H' r:=by
 cases r with
 | d d=>exact ⟨h.1,k.trans h.2.1,h.2.2⟩
 | o i=>exact ⟨h.1,k.trans h.2.1,h.2.2⟩
 | t n=>exact ⟨h.1,k.trans h.2.1,h.2.2⟩
 | n s =>
  obtain ⟨Hb,l,o,a,k0,hs',b,c,e1,e2⟩:=h
  exact ⟨Hb,l,o,a,k.trans k0,hs',b,c,e1,e2⟩
theorem f0m {d:D} (a:Rel K F σ ρ H) (h:InF K F σ ρ H v r) (e:view ρ r = some d):RepD K H v d:=by
 cases r with
 | d d'=>injection e with e; subst e; exact RepD.same h c0y
 | t n=>cases e
 | n s=>cases e
 | o i =>
  have q:=a.sl i
  unfold view at e
  cases hg:gt ρ i with
  | un=>simp [hg] at e
  | tp n=>simp [hg] at e
  | dk n=>simp [hg] at e
  | dt n=>simp [hg] at e
  | ex n m=>simp [hg] at e
  | vl d' =>
   simp [hg] at e
   subst e
   rw [hg] at q
   obtain ⟨x,e1,r1⟩:=q
   rw [show σ[i]? = _ from h] at e1
   injection e1 with e1; injection e1 with e1; subst e1
   exact r1.same c0y
  | ow ds =>
   simp [hg] at e
   subst e
   rw [hg] at q
   obtain ⟨l,vs,e1,r1,r2⟩:=q
   rw [show σ[i]? = _ from h] at e1
   injection e1 with e1; injection e1 with e1; subst e1
   unfold RepD
   exact ⟨l,vs,rfl,SqL.of r1,r2.same c0y⟩
theorem c0s {ds:List D} (a:Rel K F σ ρ H) (h:InF K F σ ρ H v r) (e:view ρ r = some (.lst ds)):∃ l vs,v = .ref l∧SqL K H l vs∧RepDs K (hid H (hs F σ ρ)) vs ds:=by
 cases r with
 | d d' =>
  injection e with e; subst e
  have h':RepD K _ v (.lst ds):=h
  unfold RepD at h'
  obtain ⟨l,vs,e,q,r⟩:=h'
  exact ⟨l,vs,e,c0y.seq q,r⟩
 | t n=>cases e
 | n s=>cases e
 | o i =>
  have q:=a.sl i
  unfold view at e
  cases hg:gt ρ i with
  | un=>simp [hg] at e
  | tp n=>simp [hg] at e
  | dk n=>simp [hg] at e
  | dt n=>simp [hg] at e
  | ex n m=>simp [hg] at e
  | vl d' =>
   simp [hg] at e
   subst e
   rw [hg] at q
   obtain ⟨x,e1,r1⟩:=q
   rw [show σ[i]? = _ from h] at e1
   injection e1 with e1; injection e1 with e1; subst e1
   unfold RepD at r1
   obtain ⟨l,vs,e,q,r⟩:=r1
   exact ⟨l,vs,e,c0y.seq q,r⟩
  | ow ds =>
   simp [hg] at e
   subst e
   rw [hg] at q
   obtain ⟨l,vs,e1,r1,r2⟩:=q
   rw [show σ[i]? = _ from h] at e1
   injection e1 with e1; injection e1 with e1; subst e1
   exact ⟨l,vs,rfl,SqL.of r1,r2⟩
theorem l0p {ds:List D} (a:Rel K F σ ρ H) (h:InF K F σ ρ H v r) (e:view ρ r = some (.tup ds)):∃ l vs,v = .ref l∧SqT K H l vs∧RepDs K (hid H (hs F σ ρ)) vs ds∧StT (hid H (hs F σ ρ)) l vs:=by
 have go:∀ {x:V},RepD K (hid H (hs F σ ρ)) x (.tup ds)→∃ l vs,x = .ref l∧SqT K H l vs∧RepDs K (hid H (hs F σ ρ)) vs ds∧StT (hid H (hs F σ ρ)) l vs:=fun h'=>by
  unfold RepD at h'
  obtain ⟨l,vs,e,q,r⟩:=h'
  exact ⟨l,vs,e,c0y.seqT q.sq,r,q⟩
 cases r with
 | d d'=>injection e with e; subst e; exact go h
 | t n=>cases e
 | n s=>cases e
 | o i =>
  have q:=a.sl i
  unfold view at e
  cases hg:gt ρ i with
  | un=>simp [hg] at e
  | tp n=>simp [hg] at e
  | dk n=>simp [hg] at e
  | dt n=>simp [hg] at e
  | ex n m=>simp [hg] at e
  | ow ds'=>simp [hg] at e
  | vl d' =>
   simp [hg] at e
   subst e
   rw [hg] at q
   obtain ⟨x,e1,r1⟩:=q
   rw [show σ[i]? = _ from h] at e1
   injection e1 with e1; injection e1 with e1; subst e1
   exact go r1
end
abbrev Ko:=R→En→Prop
abbrev AE:=En→Ko→Prop
abbrev AT:=En→(Bool→En→Prop)→Prop
abbrev AA:=En→(List R→En→Prop)→Prop
structure AEnds where
 nx:En→Prop
 rt:R→En→Prop
 bk:En→Prop
 ct:En→Prop
abbrev AS:=AEnds→En→Prop
def Beh (K:PySem.W.Frag) (F:Fr) (σ:St) (ρ:En) (H:Hp) (q:Ko) (Q:VK):Prop:=∀ r ρ' v H',q r ρ'→Out K F σ ρ H ρ' v H' r→Q v H'
def TEok (K:PySem.W.Frag) (t:TE) (a:AE):Prop:=∀ F σ ρ H q Q,Rel K F σ ρ H→a ρ q→Beh K F σ ρ H q Q→t σ H Q
def TTok (K:PySem.W.Frag) (t:TT) (a:AT):Prop:=∀ F σ ρ H q Q,Rel K F σ ρ H→a ρ q→(∀ b ρ' H',q b ρ'→Rel K F σ ρ' H'→Kp σ ρ ρ' H H'→Q b H')→t σ H Q
def TAok (K:PySem.W.Frag) (t:TA) (a:AA):Prop:=∀ F σ ρ H q Q,Rel K F σ ρ H→a ρ q→(∀ rs ρ' vs H',q rs ρ'→Rel K F σ ρ' H'→InFs K F σ ρ' H' vs rs→Kp σ ρ ρ' H H'→Q vs H')→t σ H Q
def OpOk (K:PySem.W.Frag) (r:R2) (g:R→R→AE):Prop:=∀ F σ ρ H x y r1 r2 q Q,Rel K F σ ρ H→InF K F σ ρ H x r1→InF K F σ ρ H y r2→g r1 r2 ρ q→Beh K F σ ρ H q Q→r x y H Q
def CbOk (K:PySem.W.Frag) (r:List V→Hp→VK→Prop) (g:List R→AE):Prop:=∀ F σ ρ H vs rs q Q,Rel K F σ ρ H→InFs K F σ ρ H vs rs→g rs ρ q→Beh K F σ ρ H q Q→r vs H Q
section
variable {K:PySem.W.Frag} {F:Fr} {σ:St} {ρ ρ':En} {H H':Hp} {v:V} {r:R} {q:Ko} {Q:VK}
theorem Beh.dat (b:Beh K F σ ρ H q Q) (a:Rel K F σ ρ H) {d:D} (hq:q (.d d) ρ) (h:RepD K (hid H (hs F σ ρ)) v d):Q v H:=b (.d d) ρ v H hq ⟨a,.refl,h⟩
theorem Beh.int (b:Beh K F σ ρ H q Q) (a:Rel K F σ ρ H) {i:Int} (hq:q (.d (.int i)) ρ):Q (.int i) H:=b.dat a hq (by unfold RepD; rfl)
theorem Beh.bl (b:Beh K F σ ρ H q Q) (a:Rel K F σ ρ H) {i:Bool} (hq:q (.d (.bl i)) ρ):Q (.bl i) H:=b.dat a hq (by unfold RepD; rfl)
theorem Beh.non (b:Beh K F σ ρ H q Q) (a:Rel K F σ ρ H) (hq:q (.d .non) ρ):Q .non H:=b.dat a hq (by unfold RepD; rfl)
theorem Beh.str (b:Beh K F σ ρ H q Q) (a:Rel K F σ ρ H) {x:Str} (hq:q (.d (.str x)) ρ):Q (.str x) H:=b.dat a hq (by unfold RepD; rfl)
theorem Beh.new (b:Beh K F σ ρ H q Q) (a:Rel K F σ ρ H) {ds:List D} {vs:List V} {l:Addr} (hq:q (.f ds) ρ) (hd:RepDs K (hid H (hs F σ ρ)) vs ds) (hl:H l = none):Q (.ref l) (upd H l (.lst vs)) :=
 b (.f ds) ρ _ _ hq ⟨H,l,_,a,.refl,rfl,⟨l,vs,rfl,b0g,hd⟩,hl,rfl,rfl⟩
theorem Beh.newT (b:Beh K F σ ρ H q Q) (a:Rel K F σ ρ H) {ds:List D} {vs:List V} {l:Addr} (hq:q (.d (.tup ds)) ρ) (hd:RepDs K (hid H (hs F σ ρ)) vs ds) (hl:H l = none):Q (.ref l) (upd H l (.tup vs)):=by
 have k:Kp σ ρ ρ H (upd H l (.tup vs)):=Kp.fresh hl
 refine b (.d (.tup ds)) ρ _ _ hq ⟨a.fresh hl,k,?_⟩
 unfold RepD
 exact ⟨l,vs,rfl,(j0z (k0a a hl) b0g),hd.same k.vis⟩
theorem Beh.after {ρ1:En} {H1:Hp} (b:Beh K F σ ρ H q Q) (k:Kp σ ρ ρ1 H H1):Beh K F σ ρ1 H1 q Q:=fun r ρ' v H' hq h=>b r ρ' v H' hq (.after k h)
def aVar (i:Nat):AE:=fun ρ q=>match gt ρ i with
 | .un=>False
 | .vl d=>q (.d d) ρ
 | .ow _=>q (.o i) ρ
 | .tp _=>q (.o i) ρ
 | .dk _=>q (.o i) ρ
 | .dt _=>q (.o i) ρ
 | .ex _ _=>q (.o i) ρ
theorem a0b {i:Nat}:TEok K (tVar i) (aVar i):=by
 intro F σ ρ H q Q a h b
 have s:=a.sl i
 unfold aVar at h
 cases hg:gt ρ i with
 | un=>rw [hg] at h; exact h.elim
 | vl d =>
  rw [hg] at h s
  obtain ⟨x,e,r⟩:=s
  exact ⟨x,e,b _ _ _ _ h ⟨a,.refl,r⟩⟩
 | ow ds =>
  rw [hg] at h s
  obtain ⟨l,vs,e,_⟩:=s
  exact ⟨_,e,b _ _ _ _ h ⟨a,.refl,e⟩⟩
 | tp n =>
  rw [hg] at h s
  obtain ⟨l,c,ns,sp,lf,e,_⟩:=s
  exact ⟨_,e,b _ _ _ _ h ⟨a,.refl,e⟩⟩
 | dk kvs =>
  rw [hg] at h s
  obtain ⟨l,ks,e,_⟩:=s
  exact ⟨_,e,b _ _ _ _ h ⟨a,.refl,e⟩⟩
 | dt kvs =>
  rw [hg] at h s
  obtain ⟨l,ks,e,_⟩:=s
  exact ⟨_,e,b _ _ _ _ h ⟨a,.refl,e⟩⟩
 | ex C fs =>
  rw [hg] at h s
  obtain ⟨l,ks,e,_⟩:=s
  exact ⟨_,e,b _ _ _ _ h ⟨a,.refl,e⟩⟩
def aC (r:R):AE:=fun ρ q=>q r ρ
theorem a0g {i:Int}:TEok K (tC (.int i)) (aC (.d (.int i))):=fun _ _ _ _ _ _ a h b=>b.int a h
theorem y0z {i:Bool}:TEok K (tC (.bl i)) (aC (.d (.bl i))):=fun _ _ _ _ _ _ a h b=>b.bl a h
theorem a0q {i:Str}:TEok K (tC (.str i)) (aC (.d (.str i))):=fun _ _ _ _ _ _ a h b=>b.str a h
theorem e0q:TEok K (tC .non) (aC (.d .non)):=fun _ _ _ _ _ _ a h b=>b.non a h
theorem q0r {n:String}:TEok K (tC (.ty n)) (aC (.t n)):=fun _ _ _ _ _ _ a h b=>b _ _ _ _ h ⟨a,.refl,rfl⟩
def aOp (g:R→R→AE) (a b:AE):AE:=fun ρ q=>a ρ fun r1 ρ1=>b ρ1 fun r2 ρ2=>g r1.frz r2.frz ρ2 q
variable {t t' ta tb tc:TE} {a b c:AE} {rr:R2} {g:R→R→AE}
theorem a0i (ho:OpOk K rr g) (ha:TEok K ta a) (hb:TEok K tb b):TEok K (tOp rr ta tb) (aOp g a b):=by
 intro F σ ρ H q Q r h k
 refine ha F σ ρ H _ _ r h fun r1 ρ1 x H1 h1 rel1=>?_
 obtain ⟨r',k1,i1⟩:=rel1.inF
 refine hb F σ ρ1 H1 _ _ r' h1 fun r2 ρ2 y H2 h2 rel2=>?_
 obtain ⟨r'',k2,i2⟩:=rel2.inF
 exact ho F σ ρ2 H2 x y _ _ q Q r'' (i1.keep k2) i2 h2 (k.after (k1.trans k2))
def aUn (g:R→AE) (a:AE):AE:=fun ρ q=>a ρ fun r1 ρ1=>g r1.frz ρ1 q
def gI (C:Int→Int→Prop) (f:Int→Int→D):R→R→AE:=fun r1 r2 ρ q=>match r1,r2 with
 | .d (.int i),.d (.int j)=>C i j∧q (.d (f i j)) ρ
 | _,_=>False
theorem n1z {C:Int→Int→Prop} {f:Int→Int→D} {r1 r2:R} (h:gI C f r1 r2 ρ q):∃ i j,r1 = .d (.int i)∧r2 = .d (.int j)∧C i j∧q (.d (f i j)) ρ:=by
 unfold gI at h
 split at h
 ·exact ⟨_,_,rfl,rfl,h⟩
 ·exact h.elim
theorem InF.int {i:Int} (h:InF K F σ ρ H v (.d (.int i))):v = .int i:=by
 unfold InF RepD at h; exact h
theorem InF.blv {i:Bool} (h:InF K F σ ρ H v (.d (.bl i))):v = .bl i:=by
 unfold InF RepD at h; exact h
theorem g0v {C:Int→Int→Prop} {f:Int→Int→Int}:OpOk K (rI C fun i j=>.int (f i j)) (gI C fun i j=>.int (f i j)):=by
 intro F σ ρ H x y r1 r2 q Q a h1 h2 h b
 obtain ⟨i,j,rfl,rfl,c,h⟩:=n1z h
 exact ⟨i,j,h1.int,h2.int,c,b.int a h⟩
def gI0 (f:Int→Int→D):R→R→AE:=fun r1 r2 ρ q=>match r1,r2 with
 | .d (.int i),.d (.int j)=>q (.d (f i j)) ρ
 | _,_=>False
theorem c1a {f:Int→Int→D} {r1 r2:R} (h:gI0 f r1 r2 ρ q):∃ i j,r1 = .d (.int i)∧r2 = .d (.int j)∧q (.d (f i j)) ρ:=by
 unfold gI0 at h
 split at h
 ·exact ⟨_,_,rfl,rfl,h⟩
 ·exact h.elim
theorem b0o {f:Int→Int→Int}:OpOk K (rI0 fun i j=>.int (f i j)) (gI0 fun i j=>.int (f i j)):=by
 intro F σ ρ H x y r1 r2 q Q a h1 h2 h b
 obtain ⟨i,j,rfl,rfl,h⟩:=c1a h
 exact ⟨i,j,h1.int,h2.int,b.int a h⟩
theorem d0d {f:Int→Int→Bool}:OpOk K (rI0 fun i j=>.bl (f i j)) (gI0 fun i j=>.bl (f i j)):=by
 intro F σ ρ H x y r1 r2 q Q a h1 h2 h b
 obtain ⟨i,j,rfl,rfl,h⟩:=c1a h
 exact ⟨i,j,h1.int,h2.int,b.bl a h⟩
@[irreducible] def gEq (neg:Bool):R→R→AE:=fun r1 r2 ρ q=>match view ρ r1,view ρ r2 with
 | some d,some e=>d.depth ≤ 60∧q (.d (.bl (if neg then !eqD d e else eqD d e))) ρ
 | _,_=>False
theorem c1b {neg:Bool} {r1 r2:R} (h:gEq neg r1 r2 ρ q):∃ d e,view ρ r1 = some d∧view ρ r2 = some e∧d.depth ≤ 60∧q (.d (.bl (if neg then !eqD d e else eqD d e))) ρ:=by
 unfold gEq at h
 split at h
 ·rename_i d e h1 h2; exact ⟨d,e,h1,h2,h⟩
 ·exact h.elim
theorem d0c:OpOk K (rEqD K) (gEq false):=by
 intro F σ ρ H x y r1 r2 q Q a h1 h2 h b
 obtain ⟨d,e,e1,e2,c,h⟩:=c1b h
 exact ⟨d,e,f0m a h1 e1,f0m a h2 e2,c,b.bl a h⟩
theorem j0r:OpOk K (rNeD K) (gEq true):=by
 intro F σ ρ H x y r1 r2 q Q a h1 h2 h b
 obtain ⟨d,e,e1,e2,c,h⟩:=c1b h
 exact ⟨d,e,f0m a h1 e1,f0m a h2 e2,c,b.bl a h⟩
@[irreducible] def gIx:R→R→AE:=fun r1 r2 ρ q=>match view ρ r1,r2 with
 | some (.lst ds),.d (.int i)=>(match atI ds i with | some d=>q (.d d) ρ | none=>False)
 | some (.tup ds),.d (.int i)=>(match atI ds i with | some d=>q (.d d) ρ | none=>False)
 | _,_=>False
theorem d1f {Hh:Hp} {vs:List V} {ds:List D} {i:Int} {d:D} (h:RepDs K Hh vs ds) (e:atI ds i = some d):∃ v,atI vs i = some v∧RepD K Hh v d:=by
 unfold atI at e ⊢
 rw [h.length]
 cases hx:ixN ds.length i with
 | none=>rw [hx] at e; cases e
 | some j =>
  rw [hx] at e
  exact h.get e
theorem c0g:OpOk K (rIx K) gIx:=by
 intro F σ ρ H x y r1 r2 q Q a h1 h2 h b
 unfold gIx at h
 split at h
 ·rename_i ds i e1
  split at h
  ·rename_i d e
   obtain ⟨l,vs,rfl,sq,rd⟩:=c0s a h1 e1
   obtain ⟨v,e2,rv⟩:=d1f rd e
   exact .inl ⟨l,vs,i,v,rfl,h2.int,sq,e2,b.dat a h rv⟩
  ·exact h.elim
 ·rename_i ds i e1
  split at h
  ·rename_i d e
   obtain ⟨l,vs,rfl,sq,rd,_⟩:=l0p a h1 e1
   obtain ⟨v,e2,rv⟩:=d1f rd e
   exact .inr (.inl ⟨l,vs,i,v,rfl,h2.int,sq,e2,b.dat a h rv⟩)
  ·exact h.elim
 ·exact h.elim
def q1m (a b:AE):AE:=fun ρ q=>a ρ fun r ρ1=>match r with
 | .d (.bl c)=>if c = true then b ρ1 q else q (.d (.bl false)) ρ1
 | _=>False
def q1i (a:AE):AE:=fun ρ q=>a ρ fun r ρ1=>match r with
 | .d (.bl c)=>q (.d (.bl (!c))) ρ1
 | _=>False
theorem e0f (ha:TEok K ta a) (hb:TEok K tb b):TEok K (m1b ta tb) (q1m a b):=by
 intro F σ ρ H q Q r h k
 refine ha F σ ρ H _ _ r h fun r1 ρ1 x H1 h1 rel1=>?_
 split at h1
 ·rename_i c
  obtain ⟨r',k1,i1⟩:=rel1.inF
  refine ⟨c,i1.blv,?_⟩
  cases c with
  | true=>exact hb F σ ρ1 H1 q Q r' h1 (k.after k1)
  | false=>exact (k.after k1).bl r' h1
 ·exact h1.elim
theorem d1z (ha:TEok K ta a):TEok K (l1z ta) (q1i a):=by
 intro F σ ρ H q Q r h k
 refine ha F σ ρ H _ _ r h fun r1 ρ1 x H1 h1 rel1=>?_
 split at h1
 ·rename_i c
  obtain ⟨r',k1,i1⟩:=rel1.inF
  exact ⟨c,i1.blv,(k.after k1).bl r' h1⟩
 ·exact h1.elim
variable {tt tu:TT} {at' au:AT}
def aB (a:AE):AT:=fun ρ q=>a ρ fun r ρ1=>match r with
 | .d (.bl c)=>q c ρ1
 | _=>False
theorem h0g (ha:TEok K ta a):TTok K (tB ta) (aB a):=by
 intro F σ ρ H q Q r h k
 refine ha F σ ρ H _ _ r h fun r1 ρ1 x H1 h1 rel1=>?_
 split at h1
 ·rename_i c
  obtain ⟨r',k1,i1⟩:=rel1.inF
  exact ⟨c,i1.blv,k _ _ _ h1 r' k1⟩
 ·exact h1.elim
theorem a0n (ha:TEok K ta a):TTok K (i1l ta) (aB a):=h0g ha
def aAnd (a b:AT):AT:=fun ρ q=>a ρ fun c ρ1=>if c = true then b ρ1 q else q false ρ1
def aOr (a b:AT):AT:=fun ρ q=>a ρ fun c ρ1=>if c = true then q true ρ1 else b ρ1 q
def aNot (a:AT):AT:=fun ρ q=>a ρ fun c ρ1=>q (!c) ρ1
theorem p0f (ha:TTok K tt at') (hb:TTok K tu au):TTok K (tAnd tt tu) (aAnd at' au):=by
 intro F σ ρ H q Q r h k
 refine ha F σ ρ H _ _ r h fun c ρ1 H1 h1 r1 k1=>?_
 cases c with
 | true=>exact hb F σ ρ1 H1 q Q r1 h1 fun b ρ2 H2 h2 r2 k2=>k _ _ _ h2 r2 (k1.trans k2)
 | false=>exact k _ _ _ h1 r1 k1
theorem c0r (ha:TTok K tt at') (hb:TTok K tu au):TTok K (tOr tt tu) (aOr at' au):=by
 intro F σ ρ H q Q r h k
 refine ha F σ ρ H _ _ r h fun c ρ1 H1 h1 r1 k1=>?_
 cases c with
 | true=>exact k _ _ _ h1 r1 k1
 | false=>exact hb F σ ρ1 H1 q Q r1 h1 fun b ρ2 H2 h2 r2 k2=>k _ _ _ h2 r2 (k1.trans k2)
theorem c0c (ha:TTok K tt at'):TTok K (tNot tt) (aNot at'):=fun F σ ρ H q Q r h k=>ha F σ ρ H _ _ r h fun c ρ1 H1 h1 r1 k1=>k _ _ _ h1 r1 k1
def truD:D→Bool
 | .non=>false
 | .bl b=>b
 | .int i=>i != 0
 | .str _=>true
 | .tup ds=>!ds.isEmpty
 | .lst ds=>!ds.isEmpty
def aTru (a:AE):AT:=fun ρ q=>a ρ fun r ρ1=>match view ρ1 r.frz with
 | some (.str _)=>False
 | some d=>q (truD d) ρ1
 | none=>False
theorem m0z {Hh:Hp} {vs:List V} {ds:List D} (h:RepDs K Hh vs ds):vs.isEmpty = ds.isEmpty:=by
 have:=h.length
 cases vs <;> cases ds <;> simp_all
theorem p0e (ha:TEok K ta a):TTok K (fun σ H Q=>ta σ H fun x H'=>∃ k,TruV K x H' k∧Q k H') (aTru a):=by
 intro F σ ρ H q Q r h k
 refine ha F σ ρ H _ _ r h fun r1 ρ1 x H1 h1 rel1=>?_
 obtain ⟨r',k1,i1⟩:=rel1.inF
 cases e:view ρ1 r1.frz with
 | none=>rw [e] at h1; exact h1.elim
 | some d =>
  rw [e] at h1
  have rd:=f0m r' i1 e
  cases d with
  | str x=>exact h1.elim
  | non=>unfold RepD at rd; subst rd; exact ⟨_,rfl,k _ _ _ h1 r' k1⟩
  | bl b=>unfold RepD at rd; subst rd; exact ⟨_,rfl,k _ _ _ h1 r' k1⟩
  | int b=>unfold RepD at rd; subst rd; exact ⟨_,rfl,k _ _ _ h1 r' k1⟩
  | tup ds =>
   unfold RepD at rd
   obtain ⟨p,vs,rfl,sq,rr⟩:=rd
   exact ⟨_,.inr (.inl ⟨vs,sq,by rw [m0z rr]; rfl⟩),k _ _ _ h1 r' k1⟩
  | lst ds =>
   unfold RepD at rd
   obtain ⟨p,vs,rfl,sq,rr⟩:=rd
   exact ⟨_,.inl ⟨vs,sq,by rw [m0z rr]; rfl⟩,k _ _ _ h1 r' k1⟩
def aIf (c:AT) (a b:AE):AE:=fun ρ q=>c ρ fun k ρ1=>if k = true then a ρ1 q else b ρ1 q
theorem g1u (hc:TTok K tt at') (ha:TEok K ta a) (hb:TEok K tb b):TEok K (tIf tt ta tb) (aIf at' a b):=by
 intro F σ ρ H q Q r h k
 refine hc F σ ρ H _ _ r h fun c ρ1 H1 h1 r1 k1=>?_
 cases c with
 | true=>exact ha F σ ρ1 H1 q Q r1 h1 (k.after k1)
 | false=>exact hb F σ ρ1 H1 q Q r1 h1 (k.after k1)
variable {ts:TA} {as:AA}
def aNil:AA:=fun ρ q=>q [] ρ
def d1j (a:AE) (as:AA):AA:=fun ρ q=>a ρ fun r ρ1=>as ρ1 fun rs ρ2=>q (r.frz :: rs) ρ2
theorem a0d:TAok K tNil aNil:=fun F σ ρ H q Q r h k=>k _ _ _ _ h r .nil .refl
theorem a0a (ha:TEok K ta a) (hs:TAok K ts as):TAok K (z0h ta ts) (d1j a as):=by
 intro F σ ρ H q Q r h k
 refine ha F σ ρ H _ _ r h fun r1 ρ1 x H1 h1 rel1=>?_
 obtain ⟨r',k1,i1⟩:=rel1.inF
 refine hs F σ ρ1 H1 _ _ r' h1 fun rs ρ2 vs H2 h2 r2 i2 k2=>?_
 exact k _ _ _ _ h2 r2 (.cons (i1.keep k2) i2) (k1.trans k2)
def sto:List R→En→(List D→En→Prop)→Prop
 | [],ρ,q=>q [] ρ
 | .d d :: rs,ρ,q=>sto rs ρ fun ds ρ'=>q (d :: ds) ρ'
 | .o i :: rs,ρ,q=>(match gt ρ i with
  | .ow ds=>sto rs (pt ρ i (.vl (.lst ds))) fun es ρ'=>q (.lst ds :: es) ρ'
  | .vl d=>sto rs ρ fun es ρ'=>q (d :: es) ρ'
  | _=>False)
 | _ :: _,_,_=>False
theorem j0m:∀ {vs:List V} {rs:List R} {ρ:En} {q:List D→En→Prop},Rel K F σ ρ H→InFs K F σ ρ H vs rs→sto rs ρ q→∃ ds ρ',q ds ρ'∧Rel K F σ ρ' H∧Kp σ ρ ρ' H H∧RepDs K (hid H (hs F σ ρ')) vs ds
 | _,_,ρ,q,r,.nil,h=>⟨[],ρ,h,r,.refl,.nil⟩
 | _,_,ρ,q,r,.cons (v:=v) (r:=rr) (vs:=vs) (rs:=rs) a t,h=>by
  cases rr with
  | n s=>exact h.elim
  | t n=>exact h.elim
  | d d =>
   obtain ⟨ds,ρ',hq,r',k,rd⟩:=j0m r t (show sto rs ρ _ from h)
   exact ⟨d :: ds,ρ',hq,r',k,.cons (RepD.same a k.vis) rd⟩
  | o i =>
   have s:=r.sl i
   unfold sto at h
   cases hg:gt ρ i with
   | un=>rw [hg] at h; exact h.elim
   | tp n=>rw [hg] at h; exact h.elim
   | dk n=>rw [hg] at h; exact h.elim
   | dt n=>rw [hg] at h; exact h.elim
   | ex n m=>rw [hg] at h; exact h.elim
   | vl d =>
    rw [hg] at h s
    obtain ⟨x,e,rd1⟩:=s
    rw [show σ[i]? = _ from a] at e
    injection e with e; injection e with e; subst e
    obtain ⟨ds,ρ',hq,r',k,rd⟩:=j0m r t h
    exact ⟨d :: ds,ρ',hq,r',k,.cons (rd1.same k.vis) rd⟩
   | ow ds =>
    rw [hg] at h
    obtain ⟨l,e,r1,k1,rd1⟩:=r.frz hg
    rw [show σ[i]? = _ from a] at e
    injection e with e; injection e with e; subst e
    obtain ⟨es,ρ',hq,r',k,rd⟩:=j0m r1 (t.keep k1) h
    exact ⟨_,ρ',hq,r',k1.trans k,.cons (rd1.same k.vis) rd⟩
theorem small {n:Nat} (h:n ≤ 1000000):n ≤ sizeLine:=by unfold sizeLine; omega
theorem h1a {n:Nat} (h:n ≤ 1000000):n < sizeLine:=by unfold sizeLine; omega
def aTup (as:AA):AE:=fun ρ q=>as ρ fun rs ρ1=>sto rs ρ1 fun ds ρ2=>ds.length ≤ 1000000∧q (.d (.tup ds)) ρ2
def aLst (as:AA):AE:=fun ρ q=>as ρ fun rs ρ1=>sto rs ρ1 fun ds ρ2=>ds.length ≤ 1000000∧q (.f ds) ρ2
theorem m0c (hs:TAok K ts as):TEok K (tTup ts) (aTup as):=by
 intro F σ ρ H q Q r h k
 refine hs F σ ρ H _ _ r h fun rs ρ1 vs H1 h1 r1 i1 k1=>?_
 obtain ⟨ds,ρ2,⟨hz,hq⟩,r2,k2,rd⟩:=j0m r1 i1 h1
 exact ⟨small (by rw [rd.length]; exact hz),fun p hp=>((k.after k1).after k2).newT r2 hq rd hp⟩
theorem b0r (hs:TAok K ts as):TEok K (tLst ts) (aLst as):=by
 intro F σ ρ H q Q r h k
 refine hs F σ ρ H _ _ r h fun rs ρ1 vs H1 h1 r1 i1 k1=>?_
 obtain ⟨ds,ρ2,⟨hz,hq⟩,r2,k2,rd⟩:=j0m r1 i1 h1
 exact ⟨small (by rw [rd.length]; exact hz),fun p hp=>((k.after k1).after k2).new r2 hq rd hp⟩
def aCB (g:List R→AE) (as:AA):AE:=fun ρ q=>as ρ fun rs ρ1=>g rs ρ1 q
theorem b0n {rb:List V→Hp→VK→Prop} {g:List R→AE} (hb:CbOk K rb g) (hs:TAok K ts as):TEok K (tCB rb ts) (aCB g as):=by
 intro F σ ρ H q Q r h k
 exact hs F σ ρ H _ _ r h fun rs ρ1 vs H1 h1 r1 i1 k1=>hb F σ ρ1 H1 vs rs q Q r1 i1 h1 (k.after k1)
theorem InFs.one {vs:List V} {r1:R} (h:InFs K F σ ρ H vs [r1]):∃ x,vs = [x]∧InF K F σ ρ H x r1:=by
 cases h with | cons a t=>cases t; exact ⟨_,rfl,a⟩
theorem InFs.two {vs:List V} {r1 r2:R} (h:InFs K F σ ρ H vs [r1,r2]):∃ x y,vs = [x,y]∧InF K F σ ρ H x r1∧InF K F σ ρ H y r2:=by
 cases h with | cons a t=>obtain ⟨y,rfl,b⟩:=t.one; exact ⟨_,_,rfl,a,b⟩
def gLen:List R→AE:=fun rs ρ q=>match rs with
 | [r]=>(match view ρ r with
  | some (.lst ds)=>q (.d (.int ds.length)) ρ
  | some (.tup ds)=>q (.d (.int ds.length)) ρ
  | _=>False)
 | _=>False
theorem c0k:CbOk K (fun xs H Q=>∃ p ys,xs = [.ref p]∧(SqL K H p ys ∨ SqT K H p ys)∧Q (.int ys.length) H) gLen:=by
 intro F σ ρ H vs rs q Q a i h b
 unfold gLen at h
 split at h
 ·obtain ⟨x,rfl,i1⟩:=i.one
  split at h
  ·rename_i ds e
   obtain ⟨l,vs,rfl,sq,rd⟩:=c0s a i1 e
   exact ⟨l,vs,rfl,.inl sq,by rw [rd.length]; exact b.int a h⟩
  ·rename_i ds e
   obtain ⟨l,vs,rfl,sq,rd,_⟩:=l0p a i1 e
   exact ⟨l,vs,rfl,.inr sq,by rw [rd.length]; exact b.int a h⟩
  ·exact h.elim
 ·exact h.elim
@[irreducible] def gIsa:List R→AE:=fun rs ρ q=>match rs with
 | [r,.t n]=>(match view ρ r with
  | some d=>(match isaT (tyD d) n with | some b=>q (.d (.bl b)) ρ | none=>False)
  | none=>False)
 | _=>False
theorem k0f:CbOk K (fun xs H Q=>∃ x d T b,xs = [x,.ty T]∧RepD K H x d∧isaT (tyD d) T = some b∧Q (.bl b) H) gIsa:=by
 intro F σ ρ H vs rs q Q a i h b
 unfold gIsa at h
 split at h
 ·obtain ⟨x,y,rfl,i1,j1⟩:=i.two
  split at h
  ·rename_i d e
   split at h
   ·rename_i b' e'
    exact ⟨x,d,_,b',by rw [show y = _ from j1],f0m a i1 e,e',b.bl a h⟩
   ·exact h.elim
  ·exact h.elim
 ·exact h.elim
def gTuple:List R→AE:=fun rs ρ q=>match rs with
 | [r]=>(match view ρ r with
  | some (.lst ds)=>q (.d (.tup ds)) ρ
  | some (.tup ds)=>q (.d (.tup ds)) ρ
  | _=>False)
 | _=>False
theorem k0w:CbOk K (fun xs H Q=>∃ p ys,xs = [.ref p]∧((SqL K H p ys∧∀ l,H l = none→Q (.ref l) (upd H l (.tup ys))) ∨ (SqT K H p ys∧Q (.ref p) H))) gTuple:=by
 intro F σ ρ H vs rs q Q a i h b
 unfold gTuple at h
 split at h
 ·obtain ⟨x,rfl,i1⟩:=i.one
  split at h
  ·rename_i ds e
   obtain ⟨l,vs,rfl,sq,rd⟩:=c0s a i1 e
   exact ⟨l,vs,rfl,.inl ⟨sq,fun p hp=>b.newT a h rd hp⟩⟩
  ·rename_i ds e
   obtain ⟨l,vs,rfl,sq,rd,sq'⟩:=l0p a i1 e
   refine ⟨l,vs,rfl,.inr ⟨sq,b.dat a h ?_⟩⟩
   unfold RepD
   exact ⟨l,vs,rfl,sq',rd⟩
  ·exact h.elim
 ·exact h.elim
def gII (f:Int→Int→Int):List R→AE:=fun rs ρ q=>match rs with
 | [.d (.int i),.d (.int j)]=>q (.d (.int (f i j))) ρ
 | _=>False
theorem f1z:CbOk K (fun xs H Q=>∃ i j,xs = [.int i,.int j]∧Q (.int (if j > i then j else i)) H) (gII fun i j=>if j > i then j else i):=by
 intro F σ ρ H vs rs q Q a i h b
 unfold gII at h
 split at h
 ·obtain ⟨x,y,rfl,i1,j1⟩:=i.two
  exact ⟨_,_,by rw [i1.int,j1.int],b.int a h⟩
 ·exact h.elim
def g0f:List D→Option (List Int)
 | []=>some []
 | .int i :: ds=>(g0f ds).map (i :: ·)
 | _=>none
theorem n0b:∀ {ds:List D} {ns:List Int},g0f ds = some ns→ds = ns.map D.int
 | [],ns,h=>by simp [g0f] at h; subst h; rfl
 | .int i :: ds,ns,h=>by
  simp only [g0f,Option.map_eq_some_iff] at h
  obtain ⟨ms,e,rfl⟩:=h
  rw [n0b e]; rfl
 | .non :: ds,ns,h=>by simp [g0f] at h
 | .bl _ :: ds,ns,h=>by simp [g0f] at h
 | .str _ :: ds,ns,h=>by simp [g0f] at h
 | .tup _ :: ds,ns,h=>by simp [g0f] at h
 | .lst _ :: ds,ns,h=>by simp [g0f] at h
theorem o0n (ns:List Int):g0f (ns.map D.int) = some ns:=by
 induction ns with
 | nil=>rfl
 | cons n ns ih=>simp [g0f,ih]
def l0o:List D→Option (List Bool)
 | []=>some []
 | .bl i :: ds=>(l0o ds).map (i :: ·)
 | _=>none
theorem w0z:∀ {ds:List D} {ns:List Bool},l0o ds = some ns→ds = ns.map D.bl
 | [],ns,h=>by simp [l0o] at h; subst h; rfl
 | .bl i :: ds,ns,h=>by
  simp only [l0o,Option.map_eq_some_iff] at h
  obtain ⟨ms,e,rfl⟩:=h
  rw [w0z e]; rfl
 | .non :: ds,ns,h=>by simp [l0o] at h
 | .int _ :: ds,ns,h=>by simp [l0o] at h
 | .str _ :: ds,ns,h=>by simp [l0o] at h
 | .tup _ :: ds,ns,h=>by simp [l0o] at h
 | .lst _ :: ds,ns,h=>by simp [l0o] at h
theorem d1a (ns:List Bool):l0o (ns.map D.bl) = some ns:=by
 induction ns with
 | nil=>rfl
 | cons n ns ih=>simp [l0o,ih]
theorem h1f:∀ {vs:List V} {ns:List Bool},RepDs K H vs (ns.map D.bl)→vs = ns.map V.bl
 | [],[],_=>rfl
 | v :: vs,n :: ns,h=>by
  rw [List.map_cons] at h
  unfold RepDs at h
  obtain ⟨h1,h2⟩:=h
  unfold RepD at h1
  rw [List.map_cons,h1,h1f h2]
 | [],n :: ns,h=>by rw [List.map_cons] at h; unfold RepDs at h; exact h.elim
 | v :: vs,[],h=>by rw [List.map_nil] at h; unfold RepDs at h; exact h.elim
@[irreducible] def gAll:List R→AE:=fun rs ρ q=>match rs with
 | [r]=>(match view ρ r with
  | some (.lst ds)=>(match l0o ds with | some bs=>q (.d (.bl (bs.all id))) ρ | none=>False)
  | _=>False)
 | _=>False
theorem g1b:CbOk K (fun xs H Q=>∃ (p:Addr) (bs:List Bool),xs = [.ref p]∧SqL K H p (bs.map V.bl)∧Q (.bl (bs.all id)) H) gAll:=by
 intro F σ ρ H vs rs q Q a i h b
 unfold gAll at h
 split at h
 ·obtain ⟨x,rfl,i1⟩:=i.one
  split at h
  ·rename_i ds e
   split at h
   ·rename_i bs e'
    obtain ⟨l,vs,rfl,sq,rd⟩:=c0s a i1 e
    rw [w0z e'] at rd
    rw [h1f rd] at sq
    exact ⟨l,bs,rfl,sq,b.bl a h⟩
   ·exact h.elim
  ·exact h.elim
 ·exact h.elim
@[irreducible] def gSum:List R→AE:=fun rs ρ q=>match rs with
 | [r]=>(match view ρ r with
  | some (.lst ds)=>(match g0f ds with | some ns=>(∀ n ∈ ns,0 ≤ n)∧ns.sum < 2 ^ 62∧q (.d (.int ns.sum)) ρ | none=>False)
  | _=>False)
 | _=>False
theorem f1y:CbOk K (fun xs H Q=>∃ (p:Addr) (ns:List Int),xs = [.ref p]∧SqL K H p (ns.map V.int)∧(∀ n ∈ ns,0 ≤ n)∧ns.sum < 2 ^ 62∧Q (.int ns.sum) H) gSum:=by
 intro F σ ρ H vs rs q Q a i h b
 unfold gSum at h
 split at h
 ·obtain ⟨x,rfl,i1⟩:=i.one
  split at h
  ·rename_i ds e
   split at h
   ·rename_i bs e'
    obtain ⟨l,vs,rfl,sq,rd⟩:=c0s a i1 e
    rw [n0b e',k0k] at rd
    rw [rd] at sq
    exact ⟨l,bs,rfl,sq,h.1,h.2.1,b.int a h.2.2⟩
   ·exact h.elim
  ·exact h.elim
 ·exact h.elim
def aApp (a:AE) (as:AA):AE:=fun ρ q=>a ρ fun r ρ1=>match r with
 | .o i=>(match gt ρ1 i with
  | .ow _=>as ρ1 fun rs ρ2=>(match rs with
   | [y]=>sto [y] ρ2 fun es ρ3=>(match gt ρ3 i with
    | .ow ds=>ds.length ≤ 1000000∧q (.d .non) (pt ρ3 i (.ow (ds ++ es)))
    | _=>False)
   | _=>False)
  | _=>False)
 | _=>False
theorem m0e (ha:TEok K ta a) (hs:TAok K ts as):TEok K (tBM K "list" rAppend ta ts) (aApp a as):=by
 intro F σ ρ H q Q r h k
 refine ha F σ ρ H _ _ r h fun r1 ρ1 x H1 h1 rel1=>?_
 split at h1
 ·rename_i i
  obtain ⟨r',k1,i1⟩:=rel1.inF
  have ex:σ[i]? = some (some x):=i1
  split at h1
  ·rename_i ds0 hg0
   have s:=r'.sl i
   rw [hg0,ex] at s
   obtain ⟨l,vs0,e,hl,_⟩:=s
   injection e with e; injection e with e; subst e
   refine ⟨.inl ⟨rfl,_,SqL.of hl⟩,hs F σ ρ1 H1 _ _ r' h1 fun rs ρ2 vs H2 h2 r2 i2 k2=>?_⟩
   split at h2
   ·obtain ⟨es,ρ3,h3,r3,k3,rd⟩:=j0m r2 i2 h2
    split at h3
    ·rename_i ds hg
     have s:=r3.sl i
     rw [hg,ex] at s
     obtain ⟨l',us,e,hl',rd'⟩:=s
     injection e with e; injection e with e; injection e with e; subst e
     obtain ⟨y,rfl,_⟩:=i2.one
     have hw:=r3.write (i:=i) (l:=l) (o:=.lst (us ++ [y])) (s:=.ow (ds ++ es)) (by rw [hg]; rfl) ex rfl ⟨l,_,rfl,b0g,rd'.append rd⟩
     refine ⟨l,us,y,rfl,rfl,hl',h1a (by rw [rd'.length]; exact h3.1),?_⟩
     exact (((k.after k1).after k2).after (k3.trans hw.2)).non hw.1 h3.2
    ·exact h3.elim
   ·exact h2.elim
  ·exact h1.elim
 ·exact h1.elim
abbrev AO:=En→(Option Int→En→Prop)→Prop
def TOok (K:PySem.W.Frag) (t:TO) (a:AO):Prop:=∀ F σ ρ H q Q,Rel K F σ ρ H→a ρ q→(∀ b ρ' H',q b ρ'→Rel K F σ ρ' H'→Kp σ ρ ρ' H H'→Q b H')→t σ H Q
def oNo:AO:=fun ρ q=>q none ρ
def p1q (a:AE):AO:=fun ρ q=>a ρ fun r ρ1=>match r with
 | .d (.int i)=>q (some i) ρ1
 | _=>False
theorem d0t:TOok K tNoPart oNo:=fun F σ ρ H q Q r h k=>k _ _ _ h r .refl
theorem b0x (ha:TEok K ta a):TOok K (l1y ta) (p1q a):=by
 intro F σ ρ H q Q r h k
 refine ha F σ ρ H _ _ r h fun r1 ρ1 x H1 h1 rel1=>?_
 split at h1
 ·obtain ⟨r',k1,i1⟩:=rel1.inF
  exact ⟨_,i1.int,k _ _ _ h1 r' k1⟩
 ·exact h1.elim
def cutD (xs:List D) (lo hi:Option Int):List D:=(xs.drop (HT.sIx xs.length 0 lo)).take (HT.sIx xs.length xs.length hi - HT.sIx xs.length 0 lo)
theorem RepDs.drop:∀ {vs:List V} {ds:List D} (n:Nat),RepDs K H vs ds→RepDs K H (vs.drop n) (ds.drop n)
 | [],[],n,h=>by simp [RepDs.nil]
 | v :: vs,d :: ds,0,h=>h
 | v :: vs,d :: ds,n + 1,h=>by unfold RepDs at h; exact RepDs.drop n h.2
 | [],d :: ds,_,h=>by unfold RepDs at h; exact h.elim
 | v :: vs,[],_,h=>by unfold RepDs at h; exact h.elim
theorem RepDs.take:∀ {vs:List V} {ds:List D} (n:Nat),RepDs K H vs ds→RepDs K H (vs.take n) (ds.take n)
 | [],[],n,h=>by simp [RepDs.nil]
 | v :: vs,d :: ds,0,h=>.nil
 | v :: vs,d :: ds,n + 1,h=>by unfold RepDs at h; exact .cons h.1 (RepDs.take n h.2)
 | [],d :: ds,_,h=>by unfold RepDs at h; exact h.elim
 | v :: vs,[],_,h=>by unfold RepDs at h; exact h.elim
theorem k1y {vs:List V} {ds:List D} {lo hi:Option Int} (h:RepDs K H vs ds):RepDs K H (cutV vs lo hi) (cutD ds lo hi):=by
 unfold cutV cutD
 rw [h.length]
 exact (h.drop _).take _
def aSlL (a:AE) (l u:AO):AE:=fun ρ q=>a ρ fun r ρ1=>l ρ1 fun lo ρ2=>u ρ2 fun hi ρ3=>match view ρ3 r.frz with
 | some (.lst ds)=>q (.f (cutD ds lo hi)) ρ3
 | _=>False
theorem f0c {tl th:TO} {al au:AO} (ha:TEok K ta a) (hl:TOok K tl al) (hh:TOok K th au):TEok K (tSl (rSlL K) ta tl th) (aSlL a al au):=by
 intro F σ ρ H q Q r h k
 refine ha F σ ρ H _ _ r h fun r1 ρ1 x H1 h1 rel1=>?_
 obtain ⟨r',k1,i1⟩:=rel1.inF
 refine hl F σ ρ1 H1 _ _ r' h1 fun lo ρ2 H2 h2 r2 k2=>?_
 refine hh F σ ρ2 H2 _ _ r2 h2 fun hi ρ3 H3 h3 r3 k3=>?_
 split at h3
 ·rename_i ds e
  obtain ⟨p,vs,rfl,sq,rd⟩:=c0s r3 ((i1.keep k2).keep k3) e
  exact ⟨p,vs,rfl,sq,fun p' hp=>(((k.after k1).after k2).after k3).new r3 h3 (k1y rd) hp⟩
 ·exact h3.elim
end
def e0s (ρ:En):R→Sv
 | .d d=>.vl d
 | .o j=>gt ρ j
 | _=>.un
def Src (K:PySem.W.Frag) (F:Fr) (σ:St) (ρ:En) (H:Hp) (ov:Option V):R→Prop
 | .d d=>∃ v,ov = some v∧RepD K (hid H (hs F σ ρ)) v d
 | .o j=>(σ[j]?).getD none = ov
 | _=>True
inductive Srcs (K:PySem.W.Frag) (F:Fr) (σ:St) (ρ:En) (H:Hp):St→List R→Prop
 | nil:Srcs K F σ ρ H [] []
 | cons {v:Option V} {r:R} {vs:St} {rs:List R}:Src K F σ ρ H v r→Srcs K F σ ρ H vs rs→Srcs K F σ ρ H (v :: vs) (r :: rs)
def isO (j:Nat):R→Bool
 | .o i=>i == j
 | _=>false
def dis:List R→Bool
 | []=>true
 | .o j :: rs=>rs.all (fun r=>!isO j r) && dis rs
 | _ :: rs=>dis rs
theorem f1w:∀ {rs:List R} {k k' j:Nat},dis rs = true→rs[k]? = some (.o j)→rs[k']? = some (.o j)→k = k':=by
 intro rs
 induction rs with
 | nil=>intro k k' j _ h; simp at h
 | cons r rs ih =>
  intro k k' j hd h h'
  have hd':dis rs = true:=by
   cases r <;> simp [dis] at hd <;> first | exact hd.2 | exact hd
  have no:∀ (m:Nat),r = .o j→rs[m]? = some (.o j)→False:=fun m e hm=>by
   subst e
   simp [dis] at hd
   have:=hd.1 _ (List.mem_of_getElem? hm)
   simp [isO] at this
  cases k with
  | zero =>
   cases k' with
   | zero=>rfl
   | succ k'=>simp at h h'; exact (no k' h h').elim
  | succ k =>
   cases k' with
   | zero=>simp at h h'; exact (no k h' h).elim
   | succ k'=>simp at h h'; rw [ih hd' h h']
def back:En→List R→En→En
 | ρ,.o j :: rs,s :: ss=>back (pt ρ j s) rs ss
 | ρ,_ :: rs,_ :: ss=>back ρ rs ss
 | ρ,_,_=>ρ
theorem i0l:∀ (rs:List R) (ρ ss:En),(back ρ rs ss).length = ρ.length
 | [],ρ,ss=>by cases ss <;> rfl
 | r :: rs,ρ,[]=>by cases r <;> rfl
 | .o j :: rs,ρ,s :: ss=>by show (back (pt ρ j s) rs ss).length = _; rw [i0l,i0s]
 | .d d :: rs,ρ,s :: ss=>i0l rs ρ ss
 | .n d :: rs,ρ,s :: ss=>i0l rs ρ ss
 | .t d :: rs,ρ,s :: ss=>i0l rs ρ ss
theorem k0x:∀ (rs:List R) (ρ ss:En) (i:Nat),(∀ k:Nat,rs[k]? ≠ some (R.o i))→gt (back ρ rs ss) i = gt ρ i
 | [],ρ,ss,i,_=>by cases ss <;> rfl
 | r :: rs,ρ,[],i,_=>by cases r <;> rfl
 | .o j :: rs,ρ,s :: ss,i,h=>by
  have ne:j ≠ i:=fun e=>h 0 (by simp [e])
  show gt (back (pt ρ j s) rs ss) i = _
  rw [k0x rs _ ss i (fun k z=>h (k + 1) (by simpa using z)),c0j ρ j i s ne]
 | .d d :: rs,ρ,s :: ss,i,h=>k0x rs ρ ss i (fun k z=>h (k + 1) (by simpa using z))
 | .n d :: rs,ρ,s :: ss,i,h=>k0x rs ρ ss i (fun k z=>h (k + 1) (by simpa using z))
 | .t d :: rs,ρ,s :: ss,i,h=>k0x rs ρ ss i (fun k z=>h (k + 1) (by simpa using z))
theorem n0g:∀ (rs:List R) (ρ ss:En) (i k:Nat),dis rs = true→rs[k]? = some (.o i)→ss.length = rs.length→i < ρ.length→gt (back ρ rs ss) i = gt ss k
 | [],ρ,ss,i,k,_,h,_,_=>by simp at h
 | r :: rs,ρ,[],i,k,_,_,e,_=>by simp at e
 | .o j :: rs,ρ,s :: ss,i,0,hd,h,e,l=>by
  simp at h; subst h
  simp [dis] at hd
  show gt (back (pt ρ j s) rs ss) j = s
  rw [k0x rs _ ss j (fun k z=>by have:=hd.1 _ (List.mem_of_getElem? z); simp [isO] at this),q0c ρ j s l]
 | .o j :: rs,ρ,s :: ss,i,k + 1,hd,h,e,l=>by
  simp [dis] at hd
  exact n0g rs (pt ρ j s) ss i k hd.2 (by simpa using h) (by simpa using e) (by rw [i0s]; exact l)
 | .d d :: rs,ρ,s :: ss,i,0,hd,h,e,l=>by simp at h
 | .n d :: rs,ρ,s :: ss,i,0,hd,h,e,l=>by simp at h
 | .t d :: rs,ρ,s :: ss,i,0,hd,h,e,l=>by simp at h
 | .d d :: rs,ρ,s :: ss,i,k + 1,hd,h,e,l=>n0g rs ρ ss i k hd (by simpa using h) (by simpa using e) l
 | .n d :: rs,ρ,s :: ss,i,k + 1,hd,h,e,l=>n0g rs ρ ss i k hd (by simpa using h) (by simpa using e) l
 | .t d :: rs,ρ,s :: ss,i,k + 1,hd,h,e,l=>n0g rs ρ ss i k hd (by simpa using h) (by simpa using e) l
theorem s0k (ρ:En):∀ (rs:List R) (k:Nat),gt (rs.map (e0s ρ)) k = (match rs[k]? with | some r=>e0s ρ r | none=>.un)
 | [],k=>by simp [gt]
 | r :: rs,0=>by simp [gt]
 | r :: rs,k + 1=>by simp [gt,s0k ρ rs k]
section
variable {K:PySem.W.Frag} {F:Fr} {σ:St} {ρ ρ':En} {H H':Hp} {ovs:St} {rs:List R}
theorem Srcs.length (s:Srcs K F σ ρ H ovs rs):ovs.length = rs.length:=by
 induction s with
 | nil=>rfl
 | cons _ _ ih=>simp [ih]
theorem Srcs.get {k:Nat} {r:R} (s:Srcs K F σ ρ H ovs rs) (h:rs[k]? = some r):∃ ov,ovs[k]? = some ov∧Src K F σ ρ H ov r:=by
 induction s generalizing k with
 | nil=>simp at h
 | cons a _ ih =>
  cases k with
  | zero=>simp at h; subst h; exact ⟨_,rfl,a⟩
  | succ k=>obtain ⟨ov,e,q⟩:=ih (by simpa using h); exact ⟨ov,by simpa using e,q⟩
def l0k (F:Fr) (σ:St) (ρ:En) (H:Hp) (ovs:St) (ss:En):Fr :=
 ⟨H,fun a=>F.Z a ∨ (b0u σ ρ a∧¬ b0u ovs ss a),fun a=>b0u ovs ss a,fun i a=>(gt ss i).own = true∧ovs[i]? = some (some (.ref a)),fun _ _=>False⟩
theorem t0i (s:Srcs K F σ ρ H ovs rs) {k:Nat} (h:(gt (rs.map (e0s ρ)) k).own = true):∃ j:Nat,rs[k]? = some (R.o j)∧(gt ρ j).own = true∧gt (rs.map (e0s ρ)) k = gt ρ j∧ovs[k]? = some ((σ[j]?).getD none):=by
 rw [s0k] at h
 cases e:rs[k]? with
 | none=>simp [e] at h; cases h
 | some r =>
  rw [e] at h
  cases r with
  | d d=>cases h
  | n d=>cases h
  | t d=>cases h
  | o j =>
   obtain ⟨ov,e1,e2⟩:=s.get e
   exact ⟨j,rfl,h,by rw [s0k,e]; rfl,by rw [e1,show _ = ov from e2]⟩
theorem q0d {x:Option (Option V)} {a:Addr} (h:some (x.getD none) = some (some (V.ref a))):x = some (some (.ref a)):=by
 cases x with
 | none=>simp at h
 | some y=>simpa using h
theorem e0k (s:Srcs K F σ ρ H ovs rs) {a:Addr} (h:b0u ovs (rs.map (e0s ρ)) a):∃ k j:Nat,rs[k]? = some (R.o j)∧(gt ρ j).own = true∧σ[j]? = some (some (V.ref a))∧ovs[k]? = some (some (V.ref a)):=by
 obtain ⟨k,hk,e⟩:=h
 obtain ⟨j,e1,e2,e3,e4⟩:=t0i s hk
 rw [e] at e4
 exact ⟨k,j,e1,e2,q0d e4.symm,e⟩
theorem g1x (r:Rel K F σ ρ H) (s:Srcs K F σ ρ H ovs rs):hs (l0k F σ ρ H ovs (rs.map (e0s ρ))) ovs (rs.map (e0s ρ)) = hs F σ ρ:=by
 funext a
 apply propext
 constructor
 ·rintro ((h | h) | h)
  ·exact .inl h
  ·exact .inr h.1
  ·obtain ⟨k,j,e1,e2,e3,_⟩:=e0k s h
   exact .inr ⟨j,e2,e3⟩
 ·rintro (h | h)
  ·exact .inl (.inl h)
  ·by_cases q:b0u ovs (rs.map (e0s ρ)) a
   ·exact .inr q
   ·exact .inl (.inr ⟨h,q⟩)
theorem Rel.sub (r:Rel K F σ ρ H) (s:Srcs K F σ ρ H ovs rs) (hd:dis rs = true):Rel K (l0k F σ ρ H ovs (rs.map (e0s ρ))) ovs (rs.map (e0s ρ)) H:=by
 refine ⟨by rw [s.length,List.length_map],fun a o e _=>e,fun a z=>?_,fun a h z=>?_,fun i a hi e=>.inl ⟨⟨hi,e⟩,i,hi,e⟩,fun i a h=>?_,fun a h=>?_,fun a h=>?_,fun i j a hi hj ei ej=>?_,fun k=>?_⟩
 ·rcases z with z | z
  ·exact r.zl a z
  ·exact w0j r z.1
 ·obtain ⟨k,j,e1,e2,e3,_⟩:=e0k s h
  rcases z with z | z
  ·exact r.zo a ⟨j,e2,e3⟩ z
  ·exact z.2 h
 ·rcases h with h | h
  ·exact h.2
  ·exact h.elim
 ·obtain ⟨k,j,e1,e2,e3,_⟩:=e0k s h
  exact f0k r ⟨j,e2,e3⟩
 ·obtain ⟨k,j,e1,e2,e3,_⟩:=e0k s h
  exact f0k r ⟨j,e2,e3⟩
 ·obtain ⟨p,a1,a2,a3,a4⟩:=t0i s hi
  obtain ⟨p',b1,b2,b3,b4⟩:=t0i s hj
  rw [ei] at a4
  rw [ej] at b4
  have:p = p':=r.nd p p' a a2 b2 (q0d a4.symm) (q0d b4.symm)
  subst this
  exact f1w hd a1 b1
 ·rw [g1x r s,s0k]
  cases e:rs[k]? with
  | none=>trivial
  | some x =>
   obtain ⟨ov,e1,e2⟩:=s.get e
   cases x with
   | n d=>trivial
   | t d=>trivial
   | d d=>obtain ⟨v,e3,e4⟩:=e2; rw [e1,e3]; exact ⟨v,rfl,e4⟩
   | o j =>
    rw [e1]
    have q:=r.sl j
    show SvOk K _ H (some ov) (gt ρ j)
    rw [← show (σ[j]?).getD none = ov from e2]
    cases e5:σ[j]? with
    | none =>
     rw [e5] at q
     cases hg:gt ρ j with
     | un=>trivial
     | vl d=>rw [hg] at q; obtain ⟨x,z,_⟩:=q; cases z
     | ow d=>rw [hg] at q; obtain ⟨x,_,z,_⟩:=q; cases z
     | tp d=>rw [hg] at q; obtain ⟨x,_,_,_,_,z,_⟩:=q; cases z
     | dk d=>rw [hg] at q; obtain ⟨x,_,z,_⟩:=q; cases z
     | dt d=>rw [hg] at q; obtain ⟨x,_,z,_⟩:=q; cases z
     | ex d m=>rw [hg] at q; obtain ⟨x,_,z,_⟩:=q; cases z
    | some y=>rw [e5] at q; exact q
theorem Rel.back (r:Rel K F σ ρ H) (s:Srcs K F σ ρ H ovs rs) (hd:dis rs = true) {ss':En} (r':Rel K (l0k F σ ρ H ovs (rs.map (e0s ρ))) ovs ss' H') (sb:∀ i,(gt ss' i).own = true→(gt (rs.map (e0s ρ)) i).own = true) :
  Rel K F σ (L2.back ρ rs ss') H'∧Kp σ ρ (L2.back ρ rs ss') H H'∧Same (hid H' (hs (l0k F σ ρ H ovs (rs.map (e0s ρ))) ovs ss')) (hid H' (hs F σ (L2.back ρ rs ss'))):=by
 have ln:ss'.length = rs.length:=by rw [← r'.len,s.length]
 have cs:∀ i:Nat,(∃ k:Nat,rs[k]? = some (R.o i)∧i < ρ.length∧gt (L2.back ρ rs ss') i = gt ss' k) ∨ ((∀ k:Nat,i < ρ.length→rs[k]? ≠ some (R.o i))∧gt (L2.back ρ rs ss') i = gt ρ i):=fun i=>by
  by_cases hi:i < ρ.length
  ·by_cases q:∃ k:Nat,rs[k]? = some (R.o i)
   ·obtain ⟨k,e⟩:=q
    exact .inl ⟨k,e,hi,n0g rs ρ ss' i k hd e ln hi⟩
   ·exact .inr ⟨fun k _ z=>q ⟨k,z⟩,k0x rs ρ ss' i fun k z=>q ⟨k,z⟩⟩
  ·refine .inr ⟨fun k z=>absurd z hi,?_⟩
   rw [o0o _ i (by rw [i0l]; omega),o0o _ i (by omega)]
 have own':∀ i,(gt (L2.back ρ rs ss') i).own = true→(gt ρ i).own = true:=fun i h=>by
  rcases cs i with ⟨k,e,hi,g⟩ | ⟨_,g⟩
  ·rw [g] at h
   have:=sb k h
   rw [s0k,e] at this
   exact this
  ·rw [g] at h; exact h
 have subo:∀ {a},b0u σ (L2.back ρ rs ss') a→b0u σ ρ a:=fun ⟨i,hi,e⟩=>⟨i,own' i hi,e⟩
 have no:∀ a,¬ b0u σ ρ a→¬ b0u ovs (rs.map (e0s ρ)) a:=fun a h z=>by
  obtain ⟨k,j,e1,e2,e3,_⟩:=e0k s z
  exact h ⟨j,e2,e3⟩
 have st:∀ a o,H a = some o→¬ b0u ovs (rs.map (e0s ρ)) a→H' a = some o:=fun a o e n=>r'.fr a o e n
 have hsub:∀ a,hs F σ (L2.back ρ rs ss') a→hs (l0k F σ ρ H ovs (rs.map (e0s ρ))) ovs ss' a:=fun a h=>by
  rcases h with h | ⟨i,hi,e⟩
  ·exact .inl (.inl h)
  ·rcases cs i with ⟨k,e1,hl,g⟩ | ⟨n,g⟩
   ·right
    rw [g] at hi
    obtain ⟨ov,q1,q2⟩:=s.get e1
    refine ⟨k,hi,?_⟩
    rw [q1,← show (σ[i]?).getD none = ov from q2,e]
    rfl
   ·left; right
    rw [g] at hi
    refine ⟨⟨i,hi,e⟩,fun z=>?_⟩
    obtain ⟨k,j,e1,e2,e3,_⟩:=e0k s z
    have:i = j:=r.nd i j a hi e2 e e3
    subst this
    exact n k (o0g hi) e1
 have v1:Same (hid H' (hs (l0k F σ ρ H ovs (rs.map (e0s ρ))) ovs ss')) (hid H' (hs F σ (L2.back ρ rs ss'))):=b0t fun a o e n=>⟨e,fun z=>n (hsub a z)⟩
 have v2:Same (hid H (hs F σ ρ)) (hid H' (hs F σ (L2.back ρ rs ss'))):=b0t fun a o e n=>⟨st a o e (no a fun z=>n (.inr z)),fun z=>n (z.imp id subo)⟩
 refine ⟨⟨by rw [i0l,r.len],fun a o e n=>?_,fun a z=>r'.zl a (.inl z),fun a h=>r.zo a (subo h),fun i a hi e=>r.ow i a (own' i hi) e,r.mi,r.ml,fun a z=>?_,fun i j a hi hj ei ej=>r.nd i j a (own' i hi) (own' j hj) ei ej,fun i=>?_⟩,⟨fun a o e n=>st a o e (no a n),own'⟩,v1⟩
 ·have e1:=r.fr a o e n
  refine st a o e1 fun z=>?_
  obtain ⟨k,j,h1,h2,h3,_⟩:=e0k s z
  rcases r.ow j a h2 h3 with q | q
  ·exact n q.2
  ·rw [e] at q; cases q
 ·by_cases q:b0u ovs (rs.map (e0s ρ)) a
  ·exact r'.ma a q
  ·cases h:H a with
   | none=>exact absurd h (r.ma a z)
   | some o=>rw [st a o h q]; exact fun z=>nomatch z
 ·rcases cs i with ⟨k,e1,hl,g⟩ | ⟨n,g⟩
  ·rw [g]
   have q:=(r'.sl k).keep v1 fun _ _ _ _ e=>e
   obtain ⟨ov,q1,q2⟩:=s.get e1
   rw [q1,← show (σ[i]?).getD none = ov from q2] at q
   cases e5:σ[i]? with
   | none =>
    rw [e5] at q
    cases hg:gt ss' k with
    | un=>trivial
    | vl d=>rw [hg] at q; obtain ⟨x,z,_⟩:=q; cases z
    | ow d=>rw [hg] at q; obtain ⟨x,_,z,_⟩:=q; cases z
    | tp d=>rw [hg] at q; obtain ⟨x,_,_,_,_,z,_⟩:=q; cases z
    | dk d=>rw [hg] at q; obtain ⟨x,_,z,_⟩:=q; cases z
    | dt d=>rw [hg] at q; obtain ⟨x,_,z,_⟩:=q; cases z
    | ex d m=>rw [hg] at q; obtain ⟨x,_,z,_⟩:=q; cases z
   | some y=>rw [e5] at q; exact q
  ·rw [g]
   refine (r.sl i).keep v2 fun l o ho e h=>st l o h fun z=>?_
   obtain ⟨k,j,e1,e2,e3,_⟩:=e0k s z
   have:i = j:=r.nd i j l ho e2 e e3
   subst this
   exact n k (o0g ho) e1
end
abbrev ASp:=En→Ko→Prop
def F0 (vs:List V) (ss:En) (H:Hp) (Z:Addr→Prop):Fr:=⟨H,Z,fun a=>b0u (vs.map some) ss a,fun i a=>(gt ss i).own = true∧(vs.map some)[i]? = some (some (.ref a)),fun _ _=>False⟩
def spA (K:PySem.W.Frag) (S:ASp):Sp:=fun vs H Q _=>∃ ss Z q,Rel K (F0 vs ss H Z) (vs.map some) ss H∧S ss q ∧
 ∀ r ss' v H',q r ss'→(∀ i,(gt ss' i).own = true→(gt ss i).own = true)→(∀ i,r ≠ .o i)→RelR K (F0 vs ss H Z) (vs.map some) ss' v H' r→Q v H'
def p1c (S:ASp) (as:AA):AE:=fun ρ q=>as ρ fun rs ρ1=>dis rs = true∧S (rs.map (e0s ρ1)) fun r ss'=>q r (back ρ1 rs ss')
section
variable {K:PySem.W.Frag} {F:Fr} {σ:St} {ρ ρ':En} {H H':Hp} {ovs:St} {rs:List R}
theorem InFs.srcs {vs:List V} (h:InFs K F σ ρ H vs rs):Srcs K F σ ρ H (vs.map some) rs:=by
 induction h with
 | nil=>exact .nil
 | cons a t ih =>
  rename_i v r vs rs
  refine .cons ?_ ih
  cases r with
  | d d=>exact ⟨v,rfl,a⟩
  | o j=>show (σ[j]?).getD none = some v; rw [show σ[j]? = _ from a]; rfl
  | n s=>trivial
  | t n=>trivial
theorem a0k {S:ASp} {E:XK} {ts:TA} {as:AA} (hs':TAok K ts as):TEok K (p0g (spA K S) [] E ts) (p1c S as):=by
 intro F σ ρ H q Q r h k
 refine hs' F σ ρ H _ _ r h fun rs ρ1 vs H1 h1 r1 i1 k1=>?_
 obtain ⟨hd,hS⟩:=h1
 have s:=i1.srcs
 rw [List.append_nil]
 refine ⟨rs.map (e0s ρ1),(l0k F σ ρ1 H1 (vs.map some) (rs.map (e0s ρ1))).Z,_,r1.sub s hd,hS,fun rr ss' v H' hq sb no out=>?_⟩
 refine (k.after k1) rr (back ρ1 rs ss') v H' hq ?_
 cases rr with
 | o i=>exact absurd rfl (no i)
 | d d =>
  obtain ⟨a,b⟩:=out
  obtain ⟨x,y,z⟩:=r1.back s hd a sb
  exact ⟨x,y,RepD.same b z⟩
 | t n =>
  obtain ⟨a,b⟩:=out
  obtain ⟨x,y,z⟩:=r1.back s hd a sb
  exact ⟨x,y,b⟩
 | n sv =>
  obtain ⟨Hb,l,o,a,b,c,e1,e2,e3⟩:=out
  obtain ⟨x,y,z⟩:=r1.back s hd a sb
  exact ⟨Hb,l,o,x,y,b,c.keep z fun _ _ _ _ e=>e,e1,e2,e3⟩
end
section
variable {K:PySem.W.Frag} {F:Fr} {σ σ':St} {ρ ρ':En} {H H':Hp}
open Classical in
noncomputable def rebase (F:Fr) (σ:St) (ρ:En) (H:Hp) (pin:Nat→Bool):Fr :=
 ⟨fun a=>if b0u σ ρ a∧F.H0 a = none then none else H a,F.Z,fun a=>F.M a∧b0u σ ρ a,F.I,fun i a=>F.P i a ∨ (pin i = true∧σ[i]? = some (some (.ref a)))⟩
open Classical in
theorem m0l {pin:Nat→Bool} {a:Addr} {o:HO} (h:¬ (b0u σ ρ a∧F.H0 a = none)) (e:H a = some o):(rebase F σ ρ H pin).H0 a = some o:=by
 show (if b0u σ ρ a∧F.H0 a = none then none else H a) = some o
 rw [if_neg h]; exact e
open Classical in
theorem m1g {pin:Nat→Bool} {a:Addr} {o:HO} (e:(rebase F σ ρ H pin).H0 a = some o):H a = some o:=by
 have e':(if b0u σ ρ a∧F.H0 a = none then none else H a) = some o:=e
 split at e'
 ·cases e'
 ·exact e'
open Classical in
theorem Rel.rebase (r:Rel K F σ ρ H) (pin:Nat→Bool):Rel K (L2.rebase F σ ρ H pin) σ ρ H where
 len:=r.len
 fr:=fun a o e _=>m1g e
 zl:=r.zl
 zo:=r.zo
 ow:=fun i a hi e=>by
  rcases r.ow i a hi e with ⟨h1,h2⟩ | h
  ·exact .inl ⟨h1,h2,i,hi,e⟩
  ·refine .inr ?_
   show (if b0u σ ρ a∧F.H0 a = none then none else H a) = none
   rw [if_pos ⟨⟨i,hi,e⟩,h⟩]
 mi:=fun i a h=>by
  rcases h with h | h | h
  ·exact r.mi i a (.inl h)
  ·exact r.mi i a (.inr h)
  ·exact h.2
 ml:=fun a h=>by
  cases e:H a with
  | none=>exact absurd e (r.ma a h.1)
  | some o=>rw [m0l (fun z=>r.ml a h.1 z.2) e]; exact fun z=>nomatch z
 ma:=fun a h=>r.ma a h.1
 nd:=r.nd
 sl:=r.sl
theorem Rel.unbase {pin:Nat→Bool} (r:Rel K F σ ρ H) (r':Rel K (L2.rebase F σ ρ H pin) σ' ρ' H'):Rel K F σ' ρ' H'∧Same (hid H (hs F σ ρ)) (hid H' (hs F σ' ρ')):=by
 refine ⟨⟨r'.len,fun a o e n=>?_,r'.zl,r'.zo,fun i a hi e=>?_,fun i a h=>r'.mi i a (h.imp id .inl),r.ml,fun a h=>?_,r'.nd,r'.sl⟩,b0t fun a o e n=>?_⟩
 ·exact r'.fr a o (m0l (fun z=>by rw [e] at z; cases z.2) (r.fr a o e n)) fun z=>n z.1
 ·rcases r'.ow i a hi e with ⟨h1,h2⟩ | h
  ·exact .inl ⟨h1,h2.1⟩
  ·right
   cases h0:F.H0 a with
   | none=>rfl
   | some o =>
    exfalso
    have nn:H a ≠ none:=by
     by_cases q:F.M a
     ·exact r.ma a q
     ·rw [r.fr a o h0 q]; exact fun z=>nomatch z
    cases e2:H a with
    | none=>exact nn e2
    | some u =>
     rw [m0l (fun z=>by rw [h0] at z; cases z.2) e2] at h
     cases h
 ·by_cases q:b0u σ ρ a
  ·exact r'.ma a ⟨h,q⟩
  ·cases e:H a with
   | none=>exact absurd e (r.ma a h)
   | some o=>rw [r'.fr a o (m0l (fun z=>q z.1) e) fun z=>q z.2]; exact fun z=>nomatch z
 ·have n':¬ b0u σ ρ a:=fun z=>n (.inr z)
  have e0:=m0l (F:=F) (pin:=pin) (fun z=>n' z.1) e
  refine ⟨r'.fr a o e0 fun z=>n' z.2,fun z=>?_⟩
  rcases z with z | ⟨i,hi,ei⟩
  ·exact n (.inl z)
  ·rcases r'.ow i a hi ei with ⟨_,h2⟩ | h
   ·exact n' h2.2
   ·rw [e0] at h; cases h
theorem RelR.unbase {pin:Nat→Bool} {v:V} {rr:R} (r:Rel K F σ ρ H) (r':RelR K (L2.rebase F σ ρ H pin) σ' ρ' v H' rr):RelR K F σ' ρ' v H' rr:=by
 cases rr with
 | d d=>exact ⟨(r.unbase r'.1).1,r'.2⟩
 | o d=>exact ⟨(r.unbase r'.1).1,r'.2⟩
 | t d=>exact ⟨(r.unbase r'.1).1,r'.2⟩
 | n s =>
  obtain ⟨Hb,l,o,a,b,c,e⟩:=r'
  exact ⟨Hb,l,o,(r.unbase a).1,b,c,e⟩
end
structure g1n (K:PySem.W.Frag) (F:Fr) (D:Ends) (e:AEnds):Prop where
 nx:∀ σ' ρ' H',e.nx ρ'→Rel K F σ' ρ' H'→D.nx σ' H'
 bk:∀ σ' ρ' H',e.bk ρ'→Rel K F σ' ρ' H'→D.bk σ' H'
 ct:∀ σ' ρ' H',e.ct ρ'→Rel K F σ' ρ' H'→D.ct σ' H'
 rt:∀ σ' ρ' r v H',e.rt r ρ'→RelR K F σ' ρ' v H' r→D.rt v H'
def TSok (K:PySem.W.Frag) (pr:Nat→Bool) (t:TS) (a:AS):Prop:=∀ F σ ρ H D e,(∀ i a,F.pin i a→pr i = true)→Rel K F σ ρ H→a e ρ→g1n K F D e→t D σ H
abbrev AG:=D→En→(En→Prop)→Prop
abbrev AGs:=List D→En→(En→Prop)→Prop
def TGok (K:PySem.W.Frag) (pr:Nat→Bool) (g:TG) (ag:AG):Prop:=∀ F σ ρ H v d k Q,(∀ i a,F.pin i a→pr i = true)→Rel K F σ ρ H→RepD K (hid H (hs F σ ρ)) v d→ag d ρ k →
 (∀ σ' ρ',k ρ'→Rel K F σ' ρ' H→σ'.length = σ.length→(∀ i,pr i = true→σ'[i]? = σ[i]?)→(∀ i,(gt ρ' i).own = true→(gt ρ i).own = true∧σ'[i]? = σ[i]?)→Q σ' H)→g v σ H Q
def g1j (K:PySem.W.Frag) (pr:Nat→Bool) (n:Nat) (g:TGs) (ag:AGs):Prop:=(∀ ds ρ k,ag ds ρ k→ds.length = n)∧∀ F σ ρ H vs ds k Q,(∀ i a,F.pin i a→pr i = true)→Rel K F σ ρ H→RepDs K (hid H (hs F σ ρ)) vs ds→ag ds ρ k →
 (∀ σ' ρ',k ρ'→Rel K F σ' ρ' H→σ'.length = σ.length→(∀ i,pr i = true→σ'[i]? = σ[i]?)→(∀ i,(gt ρ' i).own = true→(gt ρ i).own = true∧σ'[i]? = σ[i]?)→Q σ' H)→g vs σ H Q
section
variable {K:PySem.W.Frag} {pr:Nat→Bool} {t u:TS} {a b:AS} {te:TE} {ae:AE} {tt:TT} {at':AT}
theorem a1y {F:Fr} {i:Nat} (hp:∀ i a,F.pin i a→pr i = true) (h:pr i = false):∀ a,¬ F.pin i a:=fun a z=>by rw [hp i a z] at h; cases h
def s0n (i:Nat):AG:=fun d ρ k=>k (pt ρ i (.vl d))
theorem b0i {i:Nat} (h:pr i = false):TGok K pr (u0v i) (s0n i):=by
 intro F σ ρ H v d k Q hp r hd ha kk
 refine kk _ _ ha (r.set hd (a1y hp h)) (by rw [List.length_set]) (fun j hj=>?_) fun j hj=>?_
 ·rw [List.getElem?_set_ne]; rintro rfl; rw [h] at hj; cases hj
 ·obtain ⟨ne,q⟩:=e0u rfl hj
  exact ⟨q,by rw [List.getElem?_set_ne ne]⟩
def gaNil:AGs:=fun ds ρ k=>match ds with
 | []=>k ρ
 | _=>False
def b1z (g:AG) (gs:AGs):AGs:=fun ds ρ k=>match ds with
 | d :: r=>g d ρ fun ρ1=>gs r ρ1 k
 | []=>False
theorem j0l:g1j K pr 0 gNil gaNil:=by
 refine ⟨fun ds ρ k h=>?_,?_⟩
 ·cases ds with
  | nil=>rfl
  | cons _ _=>exact h.elim
 intro F σ ρ H vs ds k Q hp r hd ha kk
 cases ds with
 | cons _ _=>exact ha.elim
 | nil =>
  cases vs with
  | nil=>exact ⟨rfl,kk _ _ ha r rfl (fun _ _=>rfl) fun _ h=>⟨h,rfl⟩⟩
  | cons v vs=>unfold RepDs at hd; exact hd.elim
theorem a1n {F:Fr} {σ σ':St} {ρ ρ':En} {H:Hp} (h:∀ i,(gt ρ' i).own = true→(gt ρ i).own = true∧σ'[i]? = σ[i]?):Same (hid H (hs F σ ρ)) (hid H (hs F σ' ρ')):=b0t fun a o e n=>⟨e,fun z=>by
 rcases z with z | ⟨i,hi,ei⟩
 ·exact n (.inl z)
 ·obtain ⟨q1,q2⟩:=h i hi
  exact n (.inr ⟨i,q1,q2 ▸ ei⟩)⟩
theorem d0l {g:TG} {gs:TGs} {ag:AG} {ags:AGs} {n:Nat} (h:TGok K pr g ag) (hs':g1j K pr n gs ags) (gl:∀ d ρ k,ag d ρ k→∃ ρ',k ρ'):g1j K pr (n + 1) (o1a g gs) (b1z ag ags):=by
 refine ⟨fun ds ρ k ha=>?_,?_⟩
 ·cases ds with
  | nil=>exact ha.elim
  | cons d ds=>obtain ⟨ρ',q⟩:=gl _ _ _ ha; rw [List.length_cons,hs'.1 _ _ _ q]
 intro F σ ρ H vs ds k Q hp r hd ha kk
 cases ds with
 | nil=>exact ha.elim
 | cons d ds =>
  cases vs with
  | nil=>unfold RepDs at hd; exact hd.elim
  | cons v vs =>
   unfold RepDs at hd
   refine ⟨v,vs,rfl,h F σ ρ H v d _ _ hp r hd.1 ha fun σ1 ρ1 h1 r1 l1 p1 o1=>?_⟩
   refine hs'.2 F σ1 ρ1 H vs ds _ _ hp r1 (hd.2.same (a1n o1)) h1 fun σ2 ρ2 h2 r2 l2 p2 o2=>?_
   refine kk _ _ h2 r2 (l2.trans l1) (fun i hi=>(p2 i hi).trans (p1 i hi)) fun i hi=>?_
   obtain ⟨a1,a2⟩:=o2 i hi
   obtain ⟨b1,b2⟩:=o1 i a1
   exact ⟨b1,a2.trans b2⟩
def k1i (n:Nat) (gs:AGs):AG:=fun d ρ k=>match d with
 | .tup ds=>gs ds ρ k
 | _=>False
theorem h0s {i:Nat} {d:D} {ρ:En} {k:En→Prop} (h:s0n i d ρ k):∃ ρ',k ρ':=⟨_,h⟩
theorem l0q {gs:TGs} {ags:AGs} {n:Nat} (hs':g1j K pr n gs ags):TGok K pr (gTup K n gs) (k1i n ags):=by
 intro F σ ρ H v d k Q hp r hd ha kk
 unfold k1i at ha
 split at ha
 ·rename_i ds
  unfold RepD at hd
  obtain ⟨p,vs,rfl,sq,rd⟩:=hd
  exact ⟨p,vs,rfl,c0y.seqT sq.sq,by rw [rd.length]; exact hs'.1 _ _ _ ha,hs'.2 F σ ρ H vs ds k Q hp r rd ha kk⟩
 ·exact ha.elim
def aNext:AS:=fun e ρ=>e.nx ρ
def aSeq (a b:AS):AS:=fun e ρ=>a { e with nx:=b e } ρ
theorem a0v:TSok K pr tNext aNext:=fun F σ ρ H D e hp r h k=>k.nx _ _ _ h r
theorem a0h (ha:TSok K pr t a) (hb:TSok K pr u b):TSok K pr (tSeq t u) (aSeq a b):=fun F σ ρ H D e hp r h k =>
 ha F σ ρ H _ _ hp r h ⟨fun σ' ρ' H' h' r'=>hb F σ' ρ' H' D e hp r' h' k,k.bk,k.ct,k.rt⟩
def q1k (x:AE):AS:=fun e ρ=>x ρ fun _ ρ1=>e.nx ρ1
theorem g0n (h:TEok K te ae):TSok K pr (m1a te) (q1k ae):=fun F σ ρ H D e hp r ha k =>
 h F σ ρ H _ _ r ha fun r1 ρ1 v H1 h1 o=>k.nx _ _ _ h1 o.inF.1
def aRet (x:AE):AS:=fun e ρ=>x ρ e.rt
theorem a0u (h:TEok K te ae):TSok K pr (tRet te) (aRet ae):=fun F σ ρ H D e hp r ha k =>
 h F σ ρ H _ _ r ha fun r1 ρ1 v H1 h1 o=>k.rt _ _ _ _ _ h1 o.rel
def aIfS (c:AT) (a b:AS):AS:=fun e ρ=>c ρ fun k ρ1=>if k = true then a e ρ1 else b e ρ1
theorem b0v (hc:TTok K tt at') (ha:TSok K pr t a) (hb:TSok K pr u b):TSok K pr (tIfS tt t u) (aIfS at' a b):=by
 intro F σ ρ H D e hp r h k
 refine hc F σ ρ H _ _ r h fun c ρ1 H1 h1 r1 k1=>?_
 cases c with
 | true=>exact ha F σ ρ1 H1 D e hp r1 h1 k
 | false=>exact hb F σ ρ1 H1 D e hp r1 h1 k
def stS (i:Nat):R→En→(En→Prop)→Prop
 | .d d,ρ,k=>k (pt ρ i (.vl d))
 | .n s,ρ,k=>k (pt ρ i s)
 | .o j,ρ,k=>(match gt ρ j with
  | .ow ds=>k (pt (pt ρ j (.vl (.lst ds))) i (.vl (.lst ds)))
  | .vl d=>k (pt ρ i (.vl d))
  | .ex C fs=>k (pt ρ i (.ex C fs))
  | _=>False)
 | .t _,_,_=>False
def aSet (i:Nat) (x:AE):AS:=fun e ρ=>x ρ fun r ρ1=>stS i r ρ1 e.nx
theorem h1b {i:Nat} (hi:pr i = false) (h:TEok K te ae):TSok K pr (fun D σ H=>te σ H fun v H'=>D.nx (σ.set i (some v)) H') (aSet i ae):=by
 intro F σ ρ H D e hp r ha k
 refine h F σ ρ H _ _ r ha fun r1 ρ1 v H1 h1 o=>?_
 have np:=a1y hp hi
 cases r1 with
 | d d=>exact k.nx _ _ _ h1 (o.1.set o.2.2 np)
 | t n=>exact h1.elim
 | n s =>
  obtain ⟨Hb,l,u,a1,a2,a3,a4,a5,rfl,rfl⟩:=o
  exact k.nx _ _ _ h1 (a1.setF a3 a4 a5 np)
 | o j =>
  obtain ⟨r1,k1,ej⟩:=o
  have h2:(match gt ρ1 j with
   | .ow ds=>e.nx (pt (pt ρ1 j (.vl (.lst ds))) i (.vl (.lst ds)))
   | .vl d=>e.nx (pt ρ1 i (.vl d))
   | .ex C fs=>e.nx (pt ρ1 i (.ex C fs))
   | _=>False):=h1
  clear h1
  split at h2
  ·rename_i ds hg
   obtain ⟨l,el,r2,k2,rd⟩:=r1.frz hg
   rw [ej] at el
   injection el with el; injection el with el; subst el
   exact k.nx _ _ _ h2 (r2.set rd np)
  ·rename_i d hg
   have q:=r1.sl j
   rw [hg] at q
   obtain ⟨x,e1,e2⟩:=q
   rw [ej] at e1
   injection e1 with e1; injection e1 with e1; subst e1
   exact k.nx _ _ _ h2 (r1.set e2 np)
  ·rename_i C fs hg
   have q:=r1.sl j
   rw [hg,ej] at q
   exact k.nx _ _ _ h2 (r1.setS rfl q np)
  ·exact h2.elim
theorem a0p {i:Nat} (h:TEok K te ae) (hi:pr i = false):TSok K pr (tAsg te (u0v i)) (aSet i ae):=h1b hi h
theorem v0x {i n:Nat} {js:List Nat} {wi:TI} {g:TG} {tc:TT} (h:TEok K (z0i n js wi g tc te) ae) (hi:pr i = false):TSok K pr (fun D σ H=>z0i n js wi g tc te σ H fun v H'=>D.nx (σ.set i (some v)) H') (aSet i ae):=h1b hi h
def aAsg (x:AE) (g:AG):AS:=fun e ρ=>x ρ fun r ρ1=>sto [r.frz] ρ1 fun ds ρ2=>match ds with
 | [d]=>g d ρ2 e.nx
 | _=>False
theorem z0q {g:TG} {ag:AG} (h:TEok K te ae) (hg:TGok K pr g ag):TSok K pr (tAsg te g) (aAsg ae ag):=by
 intro F σ ρ H D e hp r ha k
 refine h F σ ρ H _ _ r ha fun r1 ρ1 v H1 h1 o=>?_
 obtain ⟨r',k1,i1⟩:=o.inF
 obtain ⟨ds,ρ2,h2,r2,k2,rd⟩:=j0m r' (.cons i1 .nil) h1
 split at h2
 ·rename_i d
  unfold RepDs at rd
  exact hg F σ ρ2 H1 v d _ _ hp r2 rd.1 h2 fun σ3 ρ3 h3 r3 _ _ _=>k.nx _ _ _ h3 r3
 ·exact h2.elim
theorem RepDs.set {H:Hp}:∀ {vs:List V} {ds:List D} {v:V} {d:D} (p:Nat),RepDs K H vs ds→RepD K H v d→RepDs K H (vs.set p v) (ds.set p d)
 | [],[],_,_,p,h,_=>by simp [RepDs.nil]
 | v :: vs,d :: ds,_,_,0,h,q=>by unfold RepDs at h; exact .cons q h.2
 | v :: vs,d :: ds,_,_,p + 1,h,q=>by unfold RepDs at h; exact .cons h.1 (RepDs.set p h.2 q)
 | [],d :: ds,_,_,_,h,_=>by unfold RepDs at h; exact h.elim
 | v :: vs,[],_,_,_,h,_=>by unfold RepDs at h; exact h.elim
abbrev AI:=En→(List D→(En→Prop)→En→Prop)→Prop
def WkAt (K:PySem.W.Frag) (S:Addr→Prop) (H:Hp) (J:It) (ds:List D):Prop:=∀ k:Nat,(∀ d,ds[k]? = some d→J.go k H∧∀ x H',J.yld k H x H'→Same H H'∧RepD K (hid H' S) x d)∧(ds.length ≤ k→J.stop k H)
def TIok (K:PySem.W.Frag) (pin:Nat→Bool) (wi:TI) (ai:AI):Prop:=∀ F σ ρ H q Rk,Rel K F σ ρ H→ai ρ q→(∀ ds c ρ' J H',q ds c ρ'→Rel K F σ ρ' H'→Kp σ ρ ρ' H H' →
 (∀ σ2 ρ2 H2,Same (hid H' (hs F σ ρ')) (hid H2 (hs F σ2 ρ2))→(∀ i,SvOk K (hid H2 (hs F σ2 ρ2)) H2 σ2[i]? (gt ρ2 i))→(∀ j a,pin j = true→σ[j]? = some (some (.ref a))→σ2[j]? = some (some (.ref a)))→(∀ a,hs F σ2 ρ2 a→Nt H2 a)→c ρ2→WkAt K (hs F σ2 ρ2) H2 J ds)→Rk J H')→wi σ H Rk
def rngD (lo:Int) (n:Nat):List D:=(List.range n).map fun (i:Nat)=>D.int (lo + (i:Nat))
theorem f0q (lo:Int) (n:Nat):(rngD lo n).length = n:=by simp [rngD]
theorem g1p {S:Addr→Prop} {H:Hp} {lo:Int} {n:Nat}:WkAt K S H (Itr lo n) (rngD lo n):=by
 intro k
 constructor
 ·intro d h
  unfold rngD at h
  rw [List.getElem?_map] at h
  obtain ⟨j,e1,e2⟩:=Option.map_eq_some_iff.mp h
  have lt:k < n:=by
   rcases Nat.lt_or_ge k n with q | q
   ·exact q
   ·rw [List.getElem?_eq_none (by simpa using q)] at e1; cases e1
  rw [List.getElem?_range lt] at e1
  cases e1
  refine ⟨lt,fun x H' z=>⟨z.1 ▸ Same.refl H,?_⟩⟩
  rw [z.2,← e2]
  unfold RepD; rfl
 ·intro h; rw [f0q] at h; exact h
def q1h (as:AA):AI:=fun ρ q=>as ρ fun rs ρ1=>match rs with
 | [.d (.int j)]=>(-(2 ^ 62) ≤ j∧j < 2 ^ 62)∧q (rngD 0 j.toNat) (fun _=>True) ρ1
 | _=>False
def q1g (as:AA):AI:=fun ρ q=>as ρ fun rs ρ1=>match rs with
 | [.d (.int i),.d (.int j)]=>(-(2 ^ 62) ≤ i∧i < 2 ^ 62∧-(2 ^ 62) ≤ j∧j < 2 ^ 62)∧q (rngD i (j - i).toNat) (fun _=>True) ρ1
 | _=>False
theorem j0k {pin:Nat→Bool} {ta:TA} {as:AA} (h:TAok K ta as):TIok K pin (n1u ta) (q1h as):=by
 intro F σ ρ H q Rk r ha k
 refine h F σ ρ H _ _ r ha fun rs ρ1 vs H1 h1 r1 i1 k1=>?_
 split at h1
 ·obtain ⟨x,rfl,i⟩:=i1.one
  exact ⟨_,by rw [i.int],h1.1.1,h1.1.2,k _ _ _ _ _ h1.2 r1 k1 fun _ _ _ _ _ _ _ _=>g1p⟩
 ·exact h1.elim
theorem z0c {pin:Nat→Bool} {ta:TA} {as:AA} (h:TAok K ta as):TIok K pin (n1t ta) (q1g as):=by
 intro F σ ρ H q Rk r ha k
 refine h F σ ρ H _ _ r ha fun rs ρ1 vs H1 h1 r1 i1 k1=>?_
 split at h1
 ·obtain ⟨x,y,rfl,i,j⟩:=i1.two
  exact ⟨_,_,by rw [i.int,j.int],h1.1,k _ _ _ _ _ h1.2 r1 k1 fun _ _ _ _ _ _ _ _=>g1p⟩
 ·exact h1.elim
def iSeq (K:PySem.W.Frag) (tl:TE):TI:=fun σ H R=>tl σ H fun x H1=>∃ a,x = .ref a∧(((∃ xs,SqL K H1 a xs)∧R (Itl K a) H1) ∨ ((∃ xs,SqT K H1 a xs)∧R (Itt K a) H1))
theorem m1n {X:Cx} {tg l:Expr} {tl:TE} (hl:PE X l tl):PI X tg l (iSeq X.K tl):=by
 intro pins s σ H R I h
 refine thn (hl pins s σ H _ I h) fun v s1 ⟨x,H1,I1,r1,q1⟩=>?_
 obtain ⟨a,e,⟨⟨xs,hq⟩,q⟩ | ⟨⟨xs,hq⟩,q⟩⟩:=q1
 ·subst e
  cases r1
  obtain ⟨its,rv,p,hz⟩:=I1.list hq
  refine wpAny_pyIter_list p.isList ?_
  refine ⟨s1.heap.objs.size,[s1.heap.objs.size],_,_,H1,rfl,I1.kept (t':=s1.toks) fun b o e=>Heap.get?_push_of_some _ e,y0v a _,⟨_,Heap.get?_push_size _ rfl,rfl,rfl⟩,fun b hb=>?_,q⟩
  have e:b = s1.heap.objs.size:=by simpa using hb
  subst e
  exact I1.fpOk (Nat.le_refl _) (I1.hok.fresh (Nat.le_refl _))
 ·subst e
  cases r1
  obtain ⟨its,rv,p,hz⟩:=I1.tuple hq
  refine wpAny_pyIter_tuple (show s1.heap.IsTuple a its.toArray from p) ?_
  refine ⟨s1.heap.objs.size,[s1.heap.objs.size],_,_,H1,rfl,I1.kept (t':=s1.toks) fun b o e=>Heap.get?_push_of_some _ e,x0i a _,⟨_,Heap.get?_push_size _ rfl,rfl,rfl⟩,fun b hb=>?_,q⟩
  have e:b = s1.heap.objs.size:=by simpa using hb
  subst e
  exact I1.fpOk (Nat.le_refl _) (I1.hok.fresh (Nat.le_refl _))
theorem h0o (K:PySem.W.Frag) {X:Cx} {tg l:Expr} {tl:TE} (hl:PE X l tl) (hK:X.K = K:=by rfl):PI X tg l (iSeq K tl):=by subst hK; exact m1n hl
theorem g1q {S:Addr→Prop} {H:Hp} {a:Addr} {vs:List V} {ds:List D} (h:SqL K H a vs) (rd:RepDs K (hid H S) vs ds):WkAt K S H (Itl K a) ds:=by
 intro k
 constructor
 ·intro d e
  obtain ⟨v,e1,rv⟩:=rd.get e
  refine ⟨⟨vs,v,h,e1⟩,fun x H' z=>⟨z.1 ▸ Same.refl H,?_⟩⟩
  have:=z.2 vs h
  rw [e1] at this; cases this; rw [z.1]; exact rv
 ·intro z; exact ⟨vs,h,by rw [rd.length]; exact z⟩
theorem l1q {S:Addr→Prop} {H:Hp} {a:Addr} {vs:List V} {ds:List D} (h:SqT K H a vs) (rd:RepDs K (hid H S) vs ds):WkAt K S H (Itt K a) ds:=by
 intro k
 constructor
 ·intro d e
  obtain ⟨v,e1,rv⟩:=rd.get e
  refine ⟨⟨vs,v,h,e1⟩,fun x H' z=>⟨z.1 ▸ Same.refl H,?_⟩⟩
  have:=z.2 vs h
  rw [e1] at this; cases this; rw [z.1]; exact rv
 ·intro z; exact ⟨vs,h,by rw [rd.length]; exact z⟩
def q1f (pin:Nat→Bool) (x:AE):AI:=fun ρ q=>x ρ fun r ρ1=>match r.frz with
 | .d (.lst ds)=>q ds (fun _=>True) ρ1
 | .d (.tup ds)=>q ds (fun _=>True) ρ1
 | .o i=>(match gt ρ1 i with
  | .ow ds=>pin i = true∧q ds (fun ρ2=>gt ρ2 i = .ow ds) ρ1
  | _=>False)
 | _=>False
theorem f0n {pin:Nat→Bool} (h:TEok K te ae):TIok K pin (iSeq K te) (q1f pin ae):=by
 intro F σ ρ H q Rk r ha k
 refine h F σ ρ H _ _ r ha fun r1 ρ1 x H1 h1 o1=>?_
 obtain ⟨r',k1,i1⟩:=o1.inF
 split at h1
 ·rename_i ds e
  rw [e] at i1
  have rd:RepD K _ x (.lst ds):=i1
  unfold RepD at rd
  obtain ⟨a,vs,rfl,sq,rd⟩:=rd
  refine ⟨a,rfl,.inl ⟨⟨vs,c0y.seq sq⟩,k _ _ _ _ _ h1 r' k1 fun σ2 ρ2 H2 sm _ _ _ _=>?_⟩⟩
  exact g1q (c0y.seq (sm.seq sq)) (rd.same sm)
 ·rename_i ds e
  rw [e] at i1
  have rd:RepD K _ x (.tup ds):=i1
  unfold RepD at rd
  obtain ⟨a,vs,rfl,sq,rd⟩:=rd
  refine ⟨a,rfl,.inr ⟨⟨vs,c0y.seqT sq.sq⟩,k _ _ _ _ _ h1 r' k1 fun σ2 ρ2 H2 sm _ _ _ _=>?_⟩⟩
  exact l1q (c0y.seqT (sm.seqT sq.sq)) (rd.same sm)
 ·rename_i i e
  rw [e] at i1
  have ei:σ[i]? = some (some x):=i1
  split at h1
  ·rename_i ds hg
   have s:=r'.sl i
   rw [hg,ei] at s
   obtain ⟨a,vs,e1,hl,rd⟩:=s
   injection e1 with e1; injection e1 with e1; subst e1
   refine ⟨a,rfl,.inl ⟨⟨vs,SqL.of hl⟩,k _ _ _ _ _ h1.2 r' k1 fun σ2 ρ2 H2 sm sv pn _ hc=>?_⟩⟩
   have s2:=sv i
   rw [hc,pn i a h1.1 ei] at s2
   obtain ⟨a',vs',e2,hl',rd'⟩:=s2
   injection e2 with e2; injection e2 with e2; injection e2 with e2; subst e2
   exact g1q (SqL.of hl') rd'
  ·exact h1.elim
 ·exact h1.elim
def forA (c:En→Prop) (g:AG) (b:AS) (e:AEnds):List D→En→Prop
 | [],ρ=>c ρ∧e.nx ρ
 | d :: ds,ρ=>c ρ∧g d ρ fun ρ1=>b { nx:=forA c g b e ds,ct:=forA c g b e ds,bk:=e.nx,rt:=e.rt } ρ1
def aFor (i:AI) (g:AG) (b:AS):AS:=fun e ρ=>i ρ fun ds c ρ1=>forA c g b e ds ρ1
theorem j0a {pin:Nat→Bool} {wi:TI} {ai:AI} {g:TG} {ag:AG} (hi:TIok K pin wi ai) (hg:TGok K (fun j=>pr j || pin j) g ag) (hb:TSok K (fun j=>pr j || pin j) t a):TSok K pr (tFor wi g t) (aFor ai ag a):=by
 intro F σ ρ H D e hp r ha k
 refine hi F σ ρ H _ _ r ha fun ds c ρ1 J H1 h1 r1 k1 wk=>?_
 have hp':∀ i a,(rebase F σ ρ1 H1 pin).pin i a→(pr i || pin i) = true:=fun i a h=>by
  rcases h with h | h | h
  ·rw [hp i a (.inl h)]; rfl
  ·rw [hp i a (.inr h)]; rfl
  ·rw [h.1]; cases pr i <;> rfl
 have ek:g1n K (rebase F σ ρ1 H1 pin) D e:=⟨fun _ _ _ h' r'=>k.nx _ _ _ h' (r1.unbase r').1,fun _ _ _ h' r'=>k.bk _ _ _ h' (r1.unbase r').1,fun _ _ _ h' r'=>k.ct _ _ _ h' (r1.unbase r').1,fun _ _ _ _ _ h' r'=>k.rt _ _ _ _ _ h' (RelR.unbase r1 r')⟩
 refine ⟨fun i m σ' H'=>∃ ρ',m = ds.length - i∧i ≤ ds.length∧Rel K (rebase F σ ρ1 H1 pin) σ' ρ' H'∧forA c ag a e (ds.drop i) ρ',⟨ds.length,ρ1,rfl,Nat.zero_le _,r1.rebase pin,h1⟩,?_⟩
 rintro i m σ' H' ⟨ρ',rfl,hl,r',h'⟩
 have w:c ρ'→WkAt K (hs F σ' ρ') H' J ds:=fun hc=>wk σ' ρ' H' (r1.unbase r').2 r'.sl (fun j x hj ej=>r'.mi j x (.inr (.inr ⟨hj,ej⟩))) (fun a z=>n1v r' z) hc
 rcases Nat.lt_or_ge i ds.length with q | q
 ·right
  rw [List.drop_eq_getElem_cons q] at h'
  unfold forA at h'
  obtain ⟨hc,h'⟩:=h'
  obtain ⟨go,yld⟩:=(w hc i).1 ds[i] (List.getElem?_eq_getElem q)
  refine ⟨go,fun σ2 H2=>∃ ρ2,Rel K (rebase F σ ρ1 H1 pin) σ2 ρ2 H2∧forA c ag a e (ds.drop (i + 1)) ρ2,fun σ2 H2 ⟨ρ2,r2,h2⟩=>⟨ds.length - (i + 1),by omega,ρ2,rfl,q,r2,h2⟩,fun x H2 hy=>?_⟩
  obtain ⟨sm,rd⟩:=yld x H2 hy
  refine hg _ σ' ρ' _ x _ _ _ hp' (r'.grow sm) rd h' fun σ3 ρ3 h3 r3 _ _ _=>?_
  exact hb _ σ3 ρ3 _ _ _ hp' r3 h3 ⟨fun σ' ρ' H' h' r'=>⟨ρ',r',h'⟩,ek.nx,fun σ' ρ' H' h' r'=>⟨ρ',r',h'⟩,ek.rt⟩
 ·left
  rw [List.drop_eq_nil_of_le q] at h'
  unfold forA at h'
  obtain ⟨hc,h'⟩:=h'
  exact ⟨(w hc i).2 q,ek.nx _ _ _ h' r'⟩
end
def blkE (n:Nat) (js:List Nat) (ρ:En):En:=List.replicate n .un ++ js.map (gt ρ)
def blkR (n:Nat) (js:List Nat):List R:=List.replicate n (R.t "") ++ js.map R.o
theorem i0k (n:Nat) (js:List Nat) (ρ:En):(blkR n js).map (e0s ρ) = blkE n js ρ:=by
 unfold blkR blkE
 rw [List.map_append,List.map_replicate,List.map_map]
 rfl
theorem x0a (js:List Nat):∀ n,dis (blkR n js) = dis (js.map R.o)
 | 0=>rfl
 | n + 1=>by
  show dis (R.t "" :: blkR n js) = _
  exact x0a js n
theorem d1b (js:List Nat) (ρ:En) (n:Nat):∀ ss:En,ss.length = n + js.length→back ρ (blkR n js) ss = back ρ (js.map R.o) (ss.drop n):=by
 induction n with
 | zero=>intro ss _; rfl
 | succ n ih =>
  intro ss h
  cases ss with
  | nil=>simp at h; omega
  | cons s ss=>exact ih ss (by simp at h; omega)
theorem g1e {n:Nat} {js:List Nat} {ρ:En} {i:Nat} (h:(gt (blkE n js ρ) i).own = true):n ≤ i:=by
 rcases Nat.lt_or_ge i n with q | q
 ·exfalso
  have:∀ (n i:Nat) (x:En),i < n→gt (List.replicate n Sv.un ++ x) i = .un:=by
   intro n
   induction n with
   | zero=>intro i x h; omega
   | succ n ih =>
    intro i x h
    cases i with
    | zero=>rfl
    | succ i=>exact ih i x (by omega)
  unfold blkE at h
  rw [this n i _ q] at h
  cases h
 ·exact q
section
variable {K:PySem.W.Frag} {F:Fr} {σ σ':St} {ρ ρ':En} {H H':Hp}
theorem g1d (n:Nat) (js:List Nat):Srcs K F σ ρ H (bst n σ js) (blkR n js):=by
 unfold bst blkR
 induction n with
 | zero =>
  induction js with
  | nil=>exact .nil
  | cons j js ih=>exact .cons rfl ih
 | succ n ih=>exact .cons trivial ih
theorem u0s:∀ (n i:Nat) (ρ:En),gt (ρ.drop n) i = gt ρ (n + i)
 | 0,i,ρ=>by simp
 | n + 1,i,[]=>by simp [gt]
 | n + 1,i,s :: ρ=>by rw [List.drop_succ_cons,u0s n i ρ,Nat.add_right_comm]; rfl
theorem b1x:∀ (n i:Nat) (x:En),gt (List.replicate n Sv.un ++ x) i = if i < n then .un else gt x (i - n)
 | 0,i,x=>by simp
 | n + 1,0,x=>by simp [List.replicate_succ,gt]
 | n + 1,i + 1,x=>by
  show gt (List.replicate n Sv.un ++ x) i = _
  rw [b1x n i x]
  by_cases h:i < n
  ·rw [if_pos h,if_pos (by omega)]
  ·rw [if_neg h,if_neg (by omega)]; congr 1; omega
theorem Rel.forget {n:Nat} (r:Rel K F σ ρ H) (hn:n ≤ σ.length) (hp:∀ i a,F.pin i a→n ≤ i):Rel K F (List.replicate n none ++ σ.drop n) (List.replicate n .un ++ ρ.drop n) H∧Same (hid H (hs F σ ρ)) (hid H (hs F (List.replicate n none ++ σ.drop n) (List.replicate n .un ++ ρ.drop n))):=by
 have g:∀ i,gt (List.replicate n .un ++ ρ.drop n) i = if i < n then .un else gt ρ i:=fun i=>by
  rw [b1x]
  split
  ·rfl
  ·rw [u0s]; congr 1; omega
 have s:∀ i,n ≤ i→(List.replicate n none ++ σ.drop n)[i]? = σ[i]?:=fun i h=>by
  rw [List.getElem?_append_right (by simpa using h),List.length_replicate,List.getElem?_drop]
  congr 1; omega
 have own':∀ i,(gt (List.replicate n .un ++ ρ.drop n) i).own = true→n ≤ i∧(gt ρ i).own = true:=fun i h=>by
  rw [g] at h
  split at h
  ·cases h
  ·exact ⟨by omega,h⟩
 have sub:∀ a,b0u (List.replicate n none ++ σ.drop n) (List.replicate n .un ++ ρ.drop n) a→b0u σ ρ a:=fun a ⟨i,hi,e⟩=>by
  obtain ⟨h1,h2⟩:=own' i hi
  rw [s i h1] at e
  exact ⟨i,h2,e⟩
 have vis:Same (hid H (hs F σ ρ)) (hid H (hs F (List.replicate n none ++ σ.drop n) (List.replicate n .un ++ ρ.drop n))):=b0t fun a o e n=>⟨e,fun z=>n (z.imp id (sub a))⟩
 refine ⟨⟨by have:=r.len; simp; omega,r.fr,r.zl,fun a h=>r.zo a (sub a h),fun i a hi e=>?_,fun i a h=>?_,r.ml,r.ma,fun i j a hi hj ei ej=>?_,fun i=>?_⟩,vis⟩
 ·obtain ⟨h1,h2⟩:=own' i hi
  rw [s i h1] at e
  exact r.ow i a h2 e
 ·rw [s i (hp i a h)]; exact r.mi i a h
 ·obtain ⟨h1,h2⟩:=own' i hi
  obtain ⟨h3,h4⟩:=own' j hj
  rw [s i h1] at ei
  rw [s j h3] at ej
  exact r.nd i j a h2 h4 ei ej
 ·rw [g]
  split
  ·trivial
  ·rw [s i (by omega)]
   exact (r.sl i).keep vis fun _ _ _ _ e=>e
end
def i0p (n:Nat) (js:List Nat) (c:En→Prop) (g:AG) (tc:AT) (te:AE) (q:List D→En→Prop):List D→List D→En→Prop
 | [],acc,ρ=>c ρ∧q acc ρ
 | d :: ds,acc,ρ=>c ρ∧g d (blkE n js ρ) fun ρ1=>tc ρ1 fun b ρ2=>if b = true then te ρ2 fun r ρ3=>sto [r.frz] ρ3 fun es ρ4=>i0p n js c g tc te q ds (acc ++ es) (back ρ (js.map R.o) (ρ4.drop n)) else i0p n js c g tc te q ds acc (back ρ (js.map R.o) (ρ2.drop n))
def p1b (n:Nat) (js:List Nat) (i:AI) (g:AG) (tc:AT) (te:AE):AE:=fun ρ q=>i ρ fun ds c ρ1=>ds.length ≤ 1000000∧i0p n js c g tc te (fun acc ρ2=>q (.f acc) ρ2) ds [] ρ1
def aAll:AT:=fun ρ q=>q true ρ
section
variable {K:PySem.W.Frag}
theorem i0a:TTok K tAll aAll:=fun F σ ρ H q Q r h k=>k _ _ _ h r .refl
theorem i1n {F:Fr} {σ:St} {ρ:En} {H:Hp} {v:V} {r:R} {q:List D→En→Prop} (a:Rel K F σ ρ H) (i:InF K F σ ρ H v r) (h:sto [r] ρ q):∃ d ρ',q [d] ρ'∧Rel K F σ ρ' H∧Kp σ ρ ρ' H H∧RepD K (hid H (hs F σ ρ')) v d:=by
 obtain ⟨ds,ρ',h1,h2,h3,h4⟩:=j0m a (.cons i .nil) h
 cases ds with
 | nil=>unfold RepDs at h4; exact h4.elim
 | cons d ds =>
  unfold RepDs at h4
  cases ds with
  | nil=>exact ⟨d,ρ',h1,h2,h3,h4.1⟩
  | cons _ _=>obtain ⟨_,z⟩:=h4; unfold RepDs at z; exact z.elim
theorem e0x {n:Nat} {js:List Nat} {wi:TI} {g:TG} {tc:TT} {te:TE} {ai:AI} {ag:AG} {atc:AT} {ate:AE} (hi:TIok K (fun _=>true) wi ai) (hg:TGok K (fun j=>decide (n ≤ j)) g ag) (hc:TTok K tc atc) (he:TEok K te ate)
  (hd:dis (js.map R.o) = true:=by rfl):TEok K (z0i n js wi g tc te) (p1b n js ai ag atc ate):=by
 intro F σ ρ H q Q r h k
 refine hi F σ ρ H _ _ r h fun ds c ρ1 J H1 h1 r1 k1 wk=>?_
 obtain ⟨hz,h1⟩:=h1
 have hd':dis (blkR n js) = true:=by rw [x0a]; exact hd
 refine ⟨fun i m ys H'=>∃ ρ' acc,m = ds.length - i∧i ≤ ds.length∧Rel K F σ ρ' H'∧Kp σ ρ1 ρ' H1 H'∧RepDs K (hid H' (hs F σ ρ')) ys acc∧acc.length ≤ i∧i0p n js c ag atc ate (fun acc ρ2=>q (.f acc) ρ2) (ds.drop i) acc ρ',⟨ds.length,ρ1,[],rfl,Nat.zero_le _,r1,.refl,.nil,Nat.zero_le _,h1⟩,?_⟩
 rintro i m ys H' ⟨ρ',acc,rfl,hl,r',k',rd,al,h'⟩
 have w:c ρ'→WkAt K (hs F σ ρ') H' J ds:=fun hc=>wk σ ρ' H' k'.vis r'.sl (fun _ _ _ e=>e) (fun a z=>n1v r' z) hc
 have yl:ys.length = acc.length:=rd.length
 rcases Nat.lt_or_ge i ds.length with lt | ge
 ·right
  rw [List.drop_eq_getElem_cons lt] at h'
  unfold i0p at h'
  obtain ⟨hcc,h'⟩:=h'
  obtain ⟨go,yld⟩:=(w hcc i).1 ds[i] (List.getElem?_eq_getElem lt)
  refine ⟨go,h1a (by omega),fun zs H2=>∃ ρ2 acc2,Rel K F σ ρ2 H2∧Kp σ ρ1 ρ2 H1 H2∧RepDs K (hid H2 (hs F σ ρ2)) zs acc2∧acc2.length ≤ i + 1∧i0p n js c ag atc ate (fun acc ρ2=>q (.f acc) ρ2) (ds.drop (i + 1)) acc2 ρ2,
   fun zs H2 ⟨ρ2,acc2,a1,a2,a3,a4,a5⟩=>⟨ds.length - (i + 1),by omega,ρ2,acc2,rfl,lt,a1,a2,a3,a4,a5⟩,fun x H2 hy=>?_⟩
  obtain ⟨sm,rx⟩:=yld x H2 hy
  have r0':=r'
  have k':Kp σ ρ1 ρ' H1 H2:=k'.trans ⟨fun a o e _=>sm a o e,fun _ h=>h⟩
  have rd:RepDs K (hid H2 (hs F σ ρ')) ys acc:=rd.same (b0t fun a o e n=>⟨sm a o e,n⟩)
  have r':=r0'.grow sm
  have src:=g1d (K:=K) (F:=F) (σ:=σ) (ρ:=ρ') (H:=H2) n js
  have rb:=r'.sub src hd'
  have hs2:=g1x r' src
  rw [i0k] at rb hs2
  have pin:∀ i a,(l0k F σ ρ' H2 (bst n σ js) (blkE n js ρ')).pin i a→decide (n ≤ i) = true:=fun i a h=>by
   rcases h with h | h
   ·exact decide_eq_true (g1e h.1)
   ·exact h.elim
  have hlen:(bst n σ js).length = n + js.length:=v0c
  have ret:∀ σ2 ρ2 H3,Rel K (l0k F σ ρ' H2 (bst n σ js) (blkE n js ρ')) σ2 ρ2 H3→σ2.length = (bst n σ js).length→σ2.drop n = capt σ js→(∀ i,(gt ρ2 i).own = true→(gt (blkE n js ρ') i).own = true) →
    Rel K F σ (back ρ' (js.map R.o) (ρ2.drop n)) H3∧Kp σ ρ' (back ρ' (js.map R.o) (ρ2.drop n)) H2 H3∧Same (hid H3 (hs (l0k F σ ρ' H2 (bst n σ js) (blkE n js ρ')) σ2 ρ2)) (hid H3 (hs F σ (back ρ' (js.map R.o) (ρ2.drop n)))):=fun σ2 ρ2 H3 rr hlen2 hdrop hown=>by
   obtain ⟨f1,f2⟩:=rr.forget (n:=n) (by omega) fun i a h=>of_decide_eq_true (pin i a h)
   rw [hdrop] at f1 f2
   have f1':Rel K (l0k F σ ρ' H2 (bst n σ js) ((blkR n js).map (e0s ρ'))) (bst n σ js) (List.replicate n .un ++ ρ2.drop n) H3:=by rw [i0k]; exact f1
   have bk:=r'.back src hd' f1' fun i hi=>by
    rw [i0k]
    rw [b1x] at hi
    split at hi
    ·cases hi
    ·rename_i hni
     rw [u0s,show n + (i - n) = i by omega] at hi
     exact hown i hi
   have ln:(List.replicate n Sv.un ++ ρ2.drop n).length = n + js.length:=by
    have:=rr.len
    simp; omega
   rw [d1b js ρ' n _ ln,List.drop_left' (by simp),i0k] at bk
   exact ⟨bk.1,bk.2.1,f2.trans bk.2.2⟩
  refine hg _ (bst n σ js) (blkE n js ρ') H2 x _ _ _ pin rb (by rw [hs2]; exact rx) h' fun σ2 ρ2 h2 r2 l2 p2 o2=>?_
  have hdrop:σ2.drop n = capt σ js:=by
   have:σ2.drop n = (bst n σ js).drop n:=by
    apply List.ext_getElem?
    intro i
    rw [List.getElem?_drop,List.getElem?_drop]
    exact p2 (n + i) (decide_eq_true (by omega))
   rw [this]
   unfold bst
   rw [List.drop_left' (by simp)]
  refine ⟨hdrop,hc _ σ2 ρ2 H2 _ _ r2 h2 fun b ρ3 H3 h3 r3 k3=>?_⟩
  cases b with
  | false =>
   obtain ⟨b1,b2,_⟩:=ret σ2 ρ3 H3 r3 l2 hdrop fun i hi=>(o2 i (k3.sb i hi)).1
   exact ⟨_,acc,b1,k'.trans b2,rd.same b2.vis,by omega,h3⟩
  | true =>
   refine he _ σ2 ρ3 H3 _ _ r3 h3 fun r4 ρ4 v H4 h4 o4=>?_
   obtain ⟨r4',k4,i4⟩:=o4.inF
   obtain ⟨d,ρ5,h5,r5,k5,rv⟩:=i1n r4' i4 h4
   obtain ⟨b1,b2,b3⟩:=ret σ2 ρ5 H4 r5 l2 hdrop fun i hi=>(o2 i (k3.sb i (k4.sb i (k5.sb i hi)))).1
   exact ⟨_,acc ++ [d],b1,k'.trans b2,(rd.same b2.vis).append (.one (rv.same b3)),by simp; omega,h5⟩
 ·left
  rw [List.drop_eq_nil_of_le ge] at h'
  unfold i0p at h'
  obtain ⟨hcc,h'⟩:=h'
  refine ⟨(w hcc i).2 ge,small (by omega),fun l hl'=>?_⟩
  exact ((k.after k1).after k').new r' h' rd hl'
end
def outS:En→En→En
 | [],_=>[]
 | s :: ss,ρ=>(if s.own = true then gt ρ 0 else s) :: outS ss ρ.tail
theorem k1f (ρ:En) (i:Nat):gt ρ.tail i = gt ρ (i + 1):=by cases ρ <;> rfl
theorem w0k:∀ (ss ρ:En),(outS ss ρ).length = ss.length
 | [],_=>rfl
 | s :: ss,ρ=>by simp [outS,w0k ss]
theorem u0r:∀ (ss ρ:En) (i:Nat),gt (outS ss ρ) i = if (gt ss i).own = true then gt ρ i else gt ss i
 | [],ρ,i=>by simp [outS,gt,Sv.own]
 | s :: ss,ρ,0=>rfl
 | s :: ss,ρ,i + 1=>by
  show gt (outS ss ρ.tail) i = _
  rw [u0r ss ρ.tail i,k1f]
  rfl
def fin (pr:Nat→Bool):R→En→Ko→Prop
 | .d d,ρ,k=>k (.d d) ρ
 | .n s,ρ,k=>k (.n s) ρ
 | .o i,ρ,k=>(match gt ρ i with
  | .ow ds=>if pr i = true then k (.d (.lst ds)) (pt ρ i (.vl (.lst ds))) else k (.n (.ow ds)) (pt ρ i .un)
  | .vl d=>k (.d d) ρ
  | .dk kvs=>if pr i = true then False else k (.n (.dk kvs)) (pt ρ i .un)
  | .dt kvs=>if pr i = true then False else k (.n (.dt kvs)) (pt ρ i .un)
  | _=>False)
 | .t _,_,_=>False
def p1p (pr:Nat→Bool) (ss:En):Prop:=∀ i,(gt ss i).own = true→pr i = true
section
variable {K:PySem.W.Frag} {F:Fr} {σ σ':St} {ρ ρ':En} {H H':Hp}
open Classical in
noncomputable def del (H:Hp) (l:Addr):Hp:=fun a=>if a = l then none else H a
open Classical in
theorem q0i {l:Addr}:del H l l = none:=by unfold del; rw [if_pos rfl]
open Classical in
theorem o0r {a l:Addr} (h:a ≠ l):del H l a = H a:=by unfold del; rw [if_neg h]
theorem k0v {l:Addr} {o:HO} (h:H l = some o):upd (del H l) l o = H:=by
 funext a
 by_cases e:a = l
 ·subst e; rw [b0g,h]
 ·rw [a0o e,o0r e]
theorem Rel.take (r:Rel K F σ ρ H) {i:Nat} (hi:(gt ρ i).own = true) (hm:∀ a,¬ F.pin i a):∃ l o,H l = some o∧σ[i]? = some (some (.ref l))∧Rel K F σ (pt ρ i .un) (del H l)∧SvOk K (hid (del H l) (hs F σ (pt ρ i .un))) H (some (some (.ref l))) (gt ρ i):=by
 have s:=r.sl i
 obtain ⟨l,o,el,hl⟩:=s.alive hi
 have own':∀ j,(gt (pt ρ i .un) j).own = true→i ≠ j∧(gt ρ j).own = true:=fun j h=>e0u rfl h
 have sub:∀ a,b0u σ (pt ρ i .un) a→b0u σ ρ a∧a ≠ l:=fun a ⟨j,hj,e⟩=>by
  obtain ⟨ij,hj⟩:=own' j hj
  exact ⟨⟨j,hj,e⟩,fun z=>ij (r.nd i j l hi hj el (z ▸ e))⟩
 have ol:b0u σ ρ l:=⟨i,hi,el⟩
 have vis:Same (hid H (hs F σ ρ)) (hid (del H l) (hs F σ (pt ρ i .un))):=b0t fun a u e n=>by
  have al:a ≠ l:=fun z=>n (.inr (z ▸ ol))
  exact ⟨by rw [o0r al]; exact e,fun z=>n (z.imp id fun z=>(sub a z).1)⟩
 have h0:F.H0 l = none:=by
  rcases r.ow i l hi el with h | h
  ·exact absurd (Or.inl h.1) (hm l)
  ·exact h
 refine ⟨l,o,hl,el,⟨by rw [i0s,r.len],fun a u e n=>?_,fun a z=>?_,fun a h=>r.zo a (sub a h).1,fun j a hj e=>r.ow j a (own' j hj).2 e,r.mi,r.ml,fun a z=>?_,fun j k a hj hk ej ek=>r.nd j k a (own' j hj).2 (own' k hk).2 ej ek,fun j=>?_⟩,?_⟩
 ·have al:a ≠ l:=fun z=>by rw [z,h0] at e; cases e
  rw [o0r al]; exact r.fr a u e n
 ·have al:a ≠ l:=fun q=>r.zo l ol (q ▸ z)
  unfold Nt; rw [o0r al]; exact r.zl a z
 ·have al:a ≠ l:=fun q=>r.ml a z (q ▸ h0)
  rw [o0r al]; exact r.ma a z
 ·by_cases ij:i = j
  ·subst ij
   rw [q0c ρ i _ (o0g hi)]; trivial
  ·rw [c0j ρ i j _ ij]
   refine (r.sl j).keep vis fun a u ho e h=>?_
   have al:a ≠ l:=fun z=>ij (r.nd i j l hi ho el (z ▸ e))
   rw [o0r al]; exact h
 ·rw [el] at s
  exact s.keep vis fun _ _ _ _ e=>e
theorem Rel.out {vs:List V} {ss:En} {Z:Addr→Prop} (r0:Rel K (F0 vs ss H Z) (vs.map some) ss H) (r:Rel K (F0 vs ss H Z) σ' ρ' H') :
  Rel K (F0 vs ss H Z) (vs.map some) (outS ss ρ') H'∧Same (hid H' (hs (F0 vs ss H Z) σ' ρ')) (hid H' (hs (F0 vs ss H Z) (vs.map some) (outS ss ρ')))∧∀ i,(gt (outS ss ρ') i).own = true→(gt ss i).own = true:=by
 have own':∀ i,(gt (outS ss ρ') i).own = true→(gt ss i).own = true∧(gt ρ' i).own = true:=fun i h=>by
  rw [u0r] at h
  split at h
  ·rename_i q; exact ⟨q,h⟩
  ·rename_i q; exact absurd h q
 have same:∀ i a,(gt ss i).own = true→(vs.map some)[i]? = some (some (.ref a))→σ'[i]? = some (some (.ref a)):=fun i a h e=>r.mi i a (.inl ⟨h,e⟩)
 have sub:∀ a,b0u (vs.map some) (outS ss ρ') a→b0u σ' ρ' a∧b0u (vs.map some) ss a:=fun a ⟨i,hi,e⟩=>by
  obtain ⟨h1,h2⟩:=own' i hi
  exact ⟨⟨i,h2,same i a h1 e⟩,⟨i,h1,e⟩⟩
 have v1:Same (hid H' (hs (F0 vs ss H Z) σ' ρ')) (hid H' (hs (F0 vs ss H Z) (vs.map some) (outS ss ρ'))):=b0t fun a o e n=>⟨e,fun z=>n (z.imp id fun z=>(sub a z).1)⟩
 have v2:Same (hid H (hs (F0 vs ss H Z) (vs.map some) ss)) (hid H' (hs (F0 vs ss H Z) (vs.map some) (outS ss ρ'))):=b0t fun a o e n=>⟨r.fr a o e fun z=>n (.inr z),fun z=>n (z.imp id fun z=>(sub a z).2)⟩
 refine ⟨⟨by rw [w0k,r0.len],r.fr,r.zl,fun a h=>r.zo a (sub a h).1,fun i a hi e=>.inl ⟨⟨(own' i hi).1,e⟩,i,(own' i hi).1,e⟩,r0.mi,r.ml,r.ma,fun i j a hi hj ei ej=>r0.nd i j a (own' i hi).1 (own' j hj).1 ei ej,fun i=>?_⟩,v1,fun i h=>(own' i h).1⟩
 rw [u0r]
 split
 ·rename_i q
  obtain ⟨l,o,e1,e2⟩:=(r0.sl i).alive q
  have:=same i l q e1
  rw [e1,← this]
  exact (r.sl i).keep v1 fun _ _ _ _ e=>e
 ·rename_i q
  exact (r0.sl i).keep v2 fun l o ho=>absurd ho q
theorem s0l:∀ (ρ:En) (n i:Nat),gt (ρ ++ List.replicate n .un) i = gt ρ i
 | [],n,i=>by
  show gt (List.replicate n .un) i = .un
  induction n generalizing i with
  | zero=>rfl
  | succ n ih=>cases i with
   | zero=>rfl
   | succ i=>exact ih i
 | s :: ρ,n,0=>rfl
 | s :: ρ,n,i + 1=>s0l ρ n i
theorem Rel.ext (r:Rel K F σ ρ H) (n:Nat):Rel K F (σ ++ List.replicate n none) (ρ ++ List.replicate n .un) H:=by
 have s:∀ {i a},(gt ρ i).own = true→(σ ++ List.replicate n none)[i]? = some (some (V.ref a))→σ[i]? = some (some (.ref a)):=fun {i a} h e=>by
  rwa [List.getElem?_append_left (by rw [r.len]; exact o0g h)] at e
 have sub:∀ a,b0u (σ ++ List.replicate n none) (ρ ++ List.replicate n .un) a→b0u σ ρ a:=fun a ⟨i,hi,e⟩=>by
  rw [s0l] at hi
  exact ⟨i,hi,s hi e⟩
 have vis:Same (hid H (hs F σ ρ)) (hid H (hs F (σ ++ List.replicate n none) (ρ ++ List.replicate n .un))):=b0t fun a o e n=>⟨e,fun z=>n (z.imp id (sub a))⟩
 refine ⟨by simp [r.len],r.fr,r.zl,fun a h=>r.zo a (sub a h),fun i a hi e=>?_,fun i a h=>?_,r.ml,r.ma,fun i j a hi hj ei ej=>?_,fun i=>?_⟩
 ·rw [s0l] at hi
  exact r.ow i a hi (s hi e)
 ·have:=r.mi i a h
  rw [List.getElem?_append_left (List.getElem?_eq_some_iff.mp this).1]; exact this
 ·rw [s0l] at hi hj
  exact r.nd i j a hi hj (s hi ei) (s hj ej)
 ·rw [s0l]
  have q:=r.sl i
  rcases Nat.lt_or_ge i σ.length with lt | ge
  ·rw [List.getElem?_append_left lt]
   exact q.keep vis fun _ _ _ _ e=>e
  ·rw [o0o ρ i (by rw [← r.len]; exact ge)]; trivial
end
theorem DefN.aok {P:Program} {w:World} {K:PySem.W.Frag} {mg:Str→Option Value} {base:Heap} {x:Str} {st:Stmt} {N ps:List Str} {k:Nat} {a:AS} (D:DefN K mg x st ps) (Sc:b0a N ps (a0l st)) (pr:Nat→Bool) (S:ASp)
  (hbody:∀ (f:Addr) (cdv:Value) (A:Around) (outer:List Env) (s:Shared) (H:Hp) (E:XK),Room k (A.deeper (envOfC x (a0l st) s.heap.objs.size f cdv)) →
   ∃ t,PSs (cxOf CX0 P w K mg base N x (a0l st) f cdv A outer s H E).nox (d0k st) t∧TSok K pr t a)
  (hS:∀ ss q,S ss q→ss.length = ps.length∧p1p pr ss∧a ⟨fun ρ=>q (.d .non) (outS ss ρ),fun r ρ=>fin pr r ρ fun r' ρ'=>q r' (outS ss ρ'),fun _=>False,fun _=>False⟩ (ss ++ List.replicate (N.length - ps.length) .un)):OkN P w K mg base (k + 1) x ps (spA K S):=by
 have lenOk:∀ vs H Q E,spA K S vs H Q E→vs.length = ps.length:=fun vs H Q E h=>by
  obtain ⟨ss,Z,q,r,hs',_⟩:=h
  have:=r.len
  rw [List.length_map] at this
  rw [this]; exact (hS ss q hs').1
 refine D.ok Sc lenOk (fun f cdv A outer s H vs Q E hr h=>?_)
 have hl:=lenOk _ _ _ _ h
 obtain ⟨ss,Z,q,r0,hs',post⟩:=h
 obtain ⟨h1,h2,h3⟩:=hS ss q hs'
 obtain ⟨t,ht,tok⟩:=hbody f cdv A outer s H E hr
 refine ⟨t,ht,?_⟩
 have hp:∀ i a,(F0 vs ss H Z).pin i a→pr i = true:=fun i a h=>by
  rcases h with h | h
  ·exact h2 i h.1
  ·exact h.elim
 unfold m0h
 rw [hl]
 have fin_d:∀ σ' ρ' v H' d,q (.d d) (outS ss ρ')→Rel K (F0 vs ss H Z) σ' ρ' H'→RepD K (hid H' (hs (F0 vs ss H Z) σ' ρ')) v d→Q v H':=fun σ' ρ' v H' d hq r rd=>by
  obtain ⟨o1,o2,o3⟩:=r0.out r
  exact post (.d d) _ v H' hq o3 (fun i z=>nomatch z) ⟨o1,rd.same o2⟩
 refine tok (F0 vs ss H Z) _ _ H _ _ hp (r0.ext _) h3 ⟨fun σ' ρ' H' hq r=>?_,fun _ _ _ z=>z.elim,fun _ _ _ z=>z.elim,fun σ' ρ' rr v H' hq r=>?_⟩
 ·exact fin_d σ' ρ' _ H' .non hq r (by unfold RepD; rfl)
 ·cases rr with
  | d d=>exact fin_d σ' ρ' v H' d hq r.1 r.2
  | t n=>exact hq.elim
  | n sv =>
   obtain ⟨Hb,l,o,a1,a2,a3,a4,a5,a6⟩:=r
   obtain ⟨o1,o2,o3⟩:=r0.out a1
   exact post (.n sv) _ v H' hq o3 (fun i z=>nomatch z) ⟨Hb,l,o,o1,a2,a3.keep o2 fun _ _ _ _ e=>e,a4,a5,a6⟩
  | o i =>
   obtain ⟨r,ei⟩:=r
   have hq':(match gt ρ' i with
    | .ow ds=>if pr i = true then q (.d (.lst ds)) (outS ss (pt ρ' i (.vl (.lst ds)))) else q (.n (.ow ds)) (outS ss (pt ρ' i .un))
    | .vl d=>q (.d d) (outS ss ρ')
    | .dk kvs=>if pr i = true then False else q (.n (.dk kvs)) (outS ss (pt ρ' i .un))
    | .dt kvs=>if pr i = true then False else q (.n (.dt kvs)) (outS ss (pt ρ' i .un))
    | _=>False):=hq
   clear hq
   split at hq'
   ·rename_i ds hg
    split at hq'
    ·obtain ⟨l,el,r2,k2,rd⟩:=r.frz hg
     rw [ei] at el
     injection el with el; injection el with el; subst el
     exact fin_d σ' _ _ H' _ hq' r2 rd
    ·rename_i hpr
     have ho:(gt ρ' i).own = true:=by rw [hg]; rfl
     obtain ⟨l,o,hl',el,r2,sv⟩:=r.take ho fun a z=>hpr (hp i a z)
     rw [ei] at el
     injection el with el; injection el with el; subst el
     obtain ⟨o1,o2,o3⟩:=r0.out r2
     rw [hg] at sv
     refine post (.n (.ow ds)) _ _ H' hq' o3 (fun i z=>nomatch z) ⟨del H' l,l,o,o1,rfl,?_,q0i,(k0v hl').symm,rfl⟩
     rw [k0v hl']
     exact sv.keep o2 fun _ _ _ _ e=>e
   ·rename_i d hg
    have s:=r.sl i
    rw [hg,ei] at s
    obtain ⟨x,e1,rd⟩:=s
    injection e1 with e1; injection e1 with e1; subst e1
    exact fin_d σ' ρ' _ H' d hq' r rd
   ·rename_i kvs hg
    split at hq'
    ·exact hq'.elim
    ·rename_i hpr
     have ho:(gt ρ' i).own = true:=by rw [hg]; rfl
     obtain ⟨l,o,hl',el,r2,sv⟩:=r.take ho fun a z=>hpr (hp i a z)
     rw [ei] at el
     injection el with el; injection el with el; subst el
     obtain ⟨o1,o2,o3⟩:=r0.out r2
     rw [hg] at sv
     refine post (.n (.dk kvs)) _ _ H' hq' o3 (fun i z=>nomatch z) ⟨del H' l,l,o,o1,rfl,?_,q0i,(k0v hl').symm,rfl⟩
     rw [k0v hl']
     exact sv.keep o2 fun _ _ _ _ e=>e
   ·rename_i kvs hg
    split at hq'
    ·exact hq'.elim
    ·rename_i hpr
     have ho:(gt ρ' i).own = true:=by rw [hg]; rfl
     obtain ⟨l,o,hl',el,r2,sv⟩:=r.take ho fun a z=>hpr (hp i a z)
     rw [ei] at el
     injection el with el; injection el with el; subst el
     obtain ⟨o1,o2,o3⟩:=r0.out r2
     rw [hg] at sv
     refine post (.n (.dt kvs)) _ _ H' hq' o3 (fun i z=>nomatch z) ⟨del H' l,l,o,o1,rfl,?_,q0i,(k0v hl').symm,rfl⟩
     rw [k0v hl']
     exact sv.keep o2 fun _ _ _ _ e=>e
   ·exact hq'.elim
def SLaw:ASp:=fun ss q=>∃ ns:List Int,ns.length ≤ 63∧ss = [.vl (.lst (ns.map D.int))]∧∀ ss',q (.d (.bl true)) ss'
theorem n1h {P:Program} {w:World} {K:PySem.W.Frag} {mg:Str→Option Value} {base:Heap} {k:Nat} {x:Str} {ps:List Str} (h:OkN P w K mg base k x ps (spA K SLaw)):OkN P w K mg base k x ps (i1o K):=by
 obtain ⟨f,fd,a1,a2,a3,a4,g⟩:=h.ex
 refine ⟨f,fd,a1,a2,a3,a4,g.imp fun vs H Q E hq=>?_⟩
 obtain ⟨a,ns,rfl,sq,hl,k⟩:=hq
 refine ⟨[.vl (.lst (ns.map D.int))],fun _=>False,fun r _=>r = .d (.bl true),⟨rfl,fun a o e _=>e,fun a z=>z.elim,fun a _ z=>z,fun i a hi _=>?_,fun i a h=>?_,fun a h=>?_,fun a h=>?_,fun i j a hi=>?_,fun i=>?_⟩,⟨ns,hl,rfl,fun _=>rfl⟩,fun r ss' v H' e1 _ _ rr=>?_⟩
 ·exfalso; cases i with
  | zero=>cases hi
  | succ i=>cases hi
 ·rcases h with h | h
  ·cases i with
   | zero=>cases h.1
   | succ i=>cases h.1
  ·exact h.elim
 ·obtain ⟨i,hi,_⟩:=h
  cases i with
  | zero=>cases hi
  | succ i=>cases hi
 ·obtain ⟨i,hi,_⟩:=h
  cases i with
  | zero=>cases hi
  | succ i=>cases hi
 ·exfalso; cases i with
  | zero=>cases hi
  | succ i=>cases hi
 ·cases i with
  | succ i=>trivial
  | zero =>
   refine ⟨.ref a,rfl,?_⟩
   unfold RepD
   refine ⟨a,ns.map V.int,rfl,?_,k0k.mpr rfl⟩
   refine (show Same H (hid H _) from fun b o e=>j0z (fun z=>?_) e).seq sq
   rcases z with z | ⟨i,hi,_⟩
   ·exact z
   ·cases i with
    | zero=>cases hi
    | succ i=>cases hi
 ·subst e1
  obtain ⟨_,rd⟩:=rr
  unfold RepD at rd
  subst rd
  exact k H'
def z0o (K:PySem.W.Frag):Sp:=fun vs H Q _=>∃ (t c:Addr) (m sp lf:Int) (ns:List Int) (n:Nat),vs = [.ref t,.int m]∧H t = some (.dK (c0u c sp lf))∧SqL K H c (ns.map V.int)∧0 ≤ sp∧sp ≤ n∧0 ≤ lf∧n < 1000000000000∧Dv m ∧
 ∀ (r:Nat) (sp' lf':Int),(r:Int) < m→0 ≤ sp'→sp' ≤ (n + 1:Nat)→0 ≤ lf'→Q (.int (r:Nat)) (upd H t (.dK (c0u c sp' lf')))
def z0n (K:PySem.W.Frag):Sp:=fun vs H Q _=>∃ (a:Addr) (ns:List Int),vs = [.ref a]∧SqL K H a (ns.map V.int) ∧
 ∀ t c,H t = none→H c = none→t ≠ c→Q (.ref t) (upd (upd H c (.lst ((ns.take 63).map V.int))) t (.dK (c0u c 0 0)))
def l1i:ASp:=fun ss q=>∃ ns:List Int,ss = [.vl (.lst (ns.map D.int))]∧q (.n (.tp 0)) [.vl (.lst (ns.map D.int))]
def t0e:ASp:=fun ss q=>∃ (n:Nat) (m:Int),ss = [.tp n,.vl (.int m)]∧n < 1000000000000∧Dv m∧∀ r:Nat,(r:Int) < m→q (.d (.int r)) [.tp (n + 1),.vl (.int m)]
theorem OkN.imp {P:Program} {w:World} {K:PySem.W.Frag} {mg:Str→Option Value} {base:Heap} {k:Nat} {x:Str} {ps:List Str} {sp sp':Sp} (h:OkN P w K mg base k x ps sp) (i:∀ vs H Q E,sp' vs H Q E→sp vs H Q E):OkN P w K mg base k x ps sp':=by
 obtain ⟨f,fd,a1,a2,a3,a4,g⟩:=h.ex
 exact ⟨f,fd,a1,a2,a3,a4,g.imp i⟩
theorem o1s {vs:List V} {s:Sv} {F:Fr} {K:PySem.W.Frag} {H:Hp} (r:Rel K F (vs.map some) [s] H):∃ x,vs = [x]:=by
 have:=r.len
 match vs,this with
 | [x],_=>exact ⟨x,rfl⟩
theorem o1r {vs:List V} {s s':Sv} {F:Fr} {K:PySem.W.Frag} {H:Hp} (r:Rel K F (vs.map some) [s,s'] H):∃ x y,vs = [x,y]:=by
 have:=r.len
 match vs,this with
 | [x,y],_=>exact ⟨x,y,rfl⟩
theorem k1v {K:PySem.W.Frag} (vs:List V) (H:Hp) (Q:VK) (E:XK) (h:spA K t0e vs H Q E):z0o K vs H Q E:=by
 obtain ⟨ss,Z,q,r,⟨n,m,rfl,hn,hm,hq⟩,post⟩:=h
 obtain ⟨x,y,rfl⟩:=o1r r
 obtain ⟨t,c,ns,sp,lf,e0,ht,hc,h1,h2,h3⟩:=r.sl 0
 obtain ⟨y',e1,ry⟩:=r.sl 1
 unfold RepD at ry
 injection e0 with e0; injection e0 with e0; subst e0
 injection e1 with e1; injection e1 with e1
 subst e1 ry
 refine ⟨t,c,m,sp,lf,ns,n,rfl,ht,c0y.seq hc,h1,h2,h3,hn,hm,fun rr sp' lf' hr a1 a2 a3=>?_⟩
 have hw:=r.write (i:=0) (l:=t) (o:=.dK (c0u c sp' lf')) (s:=.tp (n + 1)) rfl rfl rfl ⟨t,c,ns,sp',lf',rfl,b0g,hc,a1,a2,a3⟩
 refine post (.d (.int rr)) [.tp (n + 1),.vl (.int m)] _ _ (hq rr hr) (fun i h=>?_) (fun i z=>nomatch z) ⟨hw.1,by unfold RepD; rfl⟩
 match i,h with
 | 0,_=>rfl
 | 1,h=>cases h
 | i + 2,h=>cases h
theorem i1k {K:PySem.W.Frag} (vs:List V) (H:Hp) (Q:VK) (E:XK) (h:spA K l1i vs H Q E):z0n K vs H Q E:=by
 obtain ⟨ss,Z,q,r,⟨ns,rfl,hq⟩,post⟩:=h
 obtain ⟨x,rfl⟩:=o1s r
 obtain ⟨x',e0,rx⟩:=r.sl 0
 injection e0 with e0; injection e0 with e0; subst e0
 have rx':=rx
 unfold RepD at rx
 obtain ⟨a,us,rfl,sq,rd⟩:=rx
 rw [k0k] at rd
 subst rd
 refine ⟨a,ns,rfl,c0y.seq sq,fun t c ht hc htc=>?_⟩
 have rc:=r.fresh (o:=.lst ((ns.take 63).map V.int)) hc
 have kc:Kp ([V.ref a].map some) [.vl (.lst (ns.map D.int))] [.vl (.lst (ns.map D.int))] H (upd H c (.lst ((ns.take 63).map V.int))):=Kp.fresh hc
 have ht':(upd H c (.lst ((ns.take 63).map V.int))) t = none:=by rw [a0o htc]; exact ht
 refine post (.n (.tp 0)) _ _ _ hq (fun i h=>h) (fun i z=>nomatch z) ⟨_,t,_,rc,rfl,⟨t,c,ns.take 63,0,0,rfl,b0g,SqL.of (j0z (k0a r hc) b0g),by decide,by decide,by decide⟩,ht',rfl,rfl⟩
section
variable {K:PySem.W.Frag} {F:Fr} {σ:St} {ρ ρ':En} {H H':Hp} {ta tb tc:TE} {a b c:AE} {rr rr':R2} {g g':R→R→AE}
def d1k (g g':R→R→AE) (a b c:AE):AE:=fun ρ q=>a ρ fun r1 ρ1=>b ρ1 fun r2 ρ2=>g r1.frz r2.frz ρ2 fun r3 ρ3=>match r3 with
 | .d (.bl k)=>if k = true then c ρ3 fun r4 ρ4=>g' r2.frz r4.frz ρ4 q else q (.d (.bl false)) ρ3
 | _=>False
theorem j0j (ho:OpOk K rr g) (ho':OpOk K rr' g') (ha:TEok K ta a) (hb:TEok K tb b) (hc:TEok K tc c):TEok K (g1v rr rr' ta tb tc) (d1k g g' a b c):=by
 intro F σ ρ H q Q r h k
 refine ha F σ ρ H _ _ r h fun r1 ρ1 x H1 h1 o1=>?_
 obtain ⟨r1',k1,i1⟩:=o1.inF
 refine hb F σ ρ1 H1 _ _ r1' h1 fun r2 ρ2 y H2 h2 o2=>?_
 obtain ⟨r2',k2,i2⟩:=o2.inF
 refine ho F σ ρ2 H2 x y _ _ _ _ r2' (i1.keep k2) i2 h2 fun r3 ρ3 z H3 h3 o3=>?_
 obtain ⟨r3',k3,i3⟩:=o3.inF
 split at h3
 ·rename_i kk
  refine ⟨kk,i3.blv,?_⟩
  cases kk with
  | false=>exact (((k.after k1).after k2).after k3).bl r3' h3
  | true =>
   refine hc F σ ρ3 H3 _ _ r3' h3 fun r4 ρ4 w H4 h4 o4=>?_
   obtain ⟨r4',k4,i4⟩:=o4.inF
   exact ho' F σ ρ4 H4 y w _ _ q Q r4' ((i2.keep k3).keep k4) i4 h4 ((((k.after k1).after k2).after k3).after k4)
 ·exact h3.elim
def gNeg:R→AE:=fun r ρ q=>match r with
 | .d (.int i)=>q (.d (.int (-i))) ρ
 | _=>False
theorem y0x (ha:TEok K ta a):TEok K (tUn (rU fun i=>.int (-i)) ta) (aUn gNeg a):=by
 intro F σ ρ H q Q r h k
 refine ha F σ ρ H _ _ r h fun r1 ρ1 x H1 h1 o1=>?_
 obtain ⟨r1',k1,i1⟩:=o1.inF
 unfold gNeg at h1
 split at h1
 ·rename_i i e
  rw [e] at i1
  exact ⟨i,i1.int,(k.after k1).int r1' h1⟩
 ·exact h1.elim
def k1d:D→Bool
 | .non=>true
 | _=>false
def isEx (ρ:En):R→Bool
 | .o i=>(match gt ρ i with | .ex _ _=>true | _=>false)
 | _=>false
def gIsN (neg:Bool):R→R→AE:=fun r1 r2 ρ q=>match view ρ r1,r2 with
 | some d,.d .non=>q (.d (.bl (if neg then !k1d d else k1d d))) ρ
 | none,.d .non=>isEx ρ r1 = true∧q (.d (.bl neg)) ρ
 | _,_=>False
theorem w0r {F:Fr} {σ:St} {ρ:En} {H:Hp} {x:V} {r1:R} (a:Rel K F σ ρ H) (h1:InF K F σ ρ H x r1) (h:isEx ρ r1 = true):∃ e,x = .ref e:=by
 cases r1 with
 | d d=>cases h
 | n s=>cases h
 | t n=>cases h
 | o i =>
  have q:=a.sl i
  cases hg:gt ρ i with
  | ex C fs =>
   rw [hg] at q
   obtain ⟨e,od,e1,_⟩:=q
   rw [show σ[i]? = _ from h1] at e1
   injection e1 with e1; injection e1 with e1
   exact ⟨e,e1⟩
  | _=>exact absurd h (by show ¬ (match gt ρ i with | .ex _ _=>true | _=>false) = true; rw [hg]; exact fun z=>nomatch z)
theorem s0h {x:V} {d:D} (h:RepD K H x d):decide (x = V.non) = k1d d:=by
 cases d with
 | non=>unfold RepD at h; subst h; rfl
 | bl b=>unfold RepD at h; subst h; rfl
 | int b=>unfold RepD at h; subst h; rfl
 | str b=>unfold RepD at h; subst h; rfl
 | tup ds=>unfold RepD at h; obtain ⟨a,vs,rfl,_⟩:=h; rfl
 | lst ds=>unfold RepD at h; obtain ⟨a,vs,rfl,_⟩:=h; rfl
theorem a1t:OpOk K (fun x y H Q=>y = .non∧Q (.bl (decide (x = .non))) H) (gIsN false):=by
 intro F σ ρ H x y r1 r2 q Q a h1 h2 h b
 unfold gIsN at h
 split at h
 ·rename_i d e
  unfold InF RepD at h2
  refine ⟨h2,?_⟩
  rw [s0h (f0m a h1 e)]
  exact b.bl a h
 ·unfold InF RepD at h2
  obtain ⟨h',h⟩:=h
  obtain ⟨e,rfl⟩:=w0r a h1 h'
  refine ⟨h2,?_⟩
  rw [decide_eq_false (fun z=>nomatch z)]
  exact b.bl a h
 ·exact h.elim
theorem e1w:OpOk K (fun x y H Q=>y = .non∧Q (.bl (!decide (x = .non))) H) (gIsN true):=by
 intro F σ ρ H x y r1 r2 q Q a h1 h2 h b
 unfold gIsN at h
 split at h
 ·rename_i d e
  unfold InF RepD at h2
  refine ⟨h2,?_⟩
  rw [s0h (f0m a h1 e)]
  exact b.bl a h
 ·unfold InF RepD at h2
  obtain ⟨h',h⟩:=h
  obtain ⟨e,rfl⟩:=w0r a h1 h'
  refine ⟨h2,?_⟩
  rw [decide_eq_false (fun z=>nomatch z)]
  exact b.bl a h
 ·exact h.elim
end
theorem w0v {c:En→Prop} {g:AG} {b:AS} {e:AEnds} (I:Nat→En→Prop) {ds:List D} (hc:∀ k ρ,k ≤ ds.length→I k ρ→c ρ)
  (hs:∀ (k:Nat) d ρ (N:En→Prop),ds[k]? = some d→I k ρ→(∀ ρ',I (k + 1) ρ'→N ρ')→g d ρ fun ρ1=>b { nx:=N,ct:=N,bk:=e.nx,rt:=e.rt } ρ1) (hd:∀ ρ,I ds.length ρ→e.nx ρ):∀ ρ,I 0 ρ→forA c g b e ds ρ:=by
 have go:∀ (es:List D) (k:Nat),ds.drop k = es→k ≤ ds.length→∀ ρ,I k ρ→forA c g b e es ρ:=by
  intro es
  induction es with
  | nil =>
   intro k h hk ρ i
   have:ds.length ≤ k:=List.drop_eq_nil_iff.mp h
   have:k = ds.length:=by omega
   subst this
   unfold forA
   exact ⟨hc _ ρ (Nat.le_refl _) i,hd ρ i⟩
  | cons d es ih =>
   intro k h hk ρ i
   have lt:k < ds.length:=by
    rcases Nat.lt_or_ge k ds.length with q | q
    ·exact q
    ·rw [List.drop_eq_nil_of_le q] at h; cases h
   rw [List.drop_eq_getElem_cons lt] at h
   injection h with h1 h2
   unfold forA
   exact ⟨hc k ρ hk i,hs k d ρ _ (by rw [← h1]; exact List.getElem?_eq_getElem lt) i (fun ρ' i'=>ih (k + 1) h2 lt ρ' i')⟩
 exact go ds 0 rfl (Nat.zero_le _)
theorem k0d {n:Nat} {js:List Nat} {c:En→Prop} {g:AG} {tc:AT} {te:AE} {q:List D→En→Prop} (I:Nat→List D→En→Prop) {ds:List D} (hc:∀ k acc ρ,k ≤ ds.length→I k acc ρ→c ρ)
  (hs:∀ (k:Nat) d acc ρ (N:List D→En→Prop),ds[k]? = some d→I k acc ρ→(∀ acc' ρ',I (k + 1) acc' ρ'→N acc' ρ') →
   g d (blkE n js ρ) fun ρ1=>tc ρ1 fun b ρ2=>if b = true then te ρ2 fun r ρ3=>sto [r.frz] ρ3 fun es ρ4=>N (acc ++ es) (back ρ (js.map R.o) (ρ4.drop n)) else N acc (back ρ (js.map R.o) (ρ2.drop n)))
  (hd:∀ acc ρ,I ds.length acc ρ→q acc ρ):∀ ρ,I 0 [] ρ→i0p n js c g tc te q ds [] ρ:=by
 have go:∀ (es:List D) (k:Nat),ds.drop k = es→k ≤ ds.length→∀ acc ρ,I k acc ρ→i0p n js c g tc te q es acc ρ:=by
  intro es
  induction es with
  | nil =>
   intro k h hk acc ρ i
   have:ds.length ≤ k:=List.drop_eq_nil_iff.mp h
   have:k = ds.length:=by omega
   subst this
   unfold i0p
   exact ⟨hc _ acc ρ (Nat.le_refl _) i,hd acc ρ i⟩
  | cons d es ih =>
   intro k h hk acc ρ i
   have lt:k < ds.length:=by
    rcases Nat.lt_or_ge k ds.length with q | q
    ·exact q
    ·rw [List.drop_eq_nil_of_le q] at h; cases h
   rw [List.drop_eq_getElem_cons lt] at h
   injection h with h1 h2
   unfold i0p
   exact ⟨hc k acc ρ hk i,hs k d acc ρ (fun acc' ρ'=>i0p n js c g tc te q es acc' ρ') (by rw [← h1]; exact List.getElem?_eq_getElem lt) i (fun acc' ρ' i'=>ih (k + 1) h2 lt acc' ρ' i')⟩
 exact go ds 0 rfl (Nat.zero_le _) []
section
variable {es:List Expr} {env:Env}
theorem t0j {a b c}:starEach (.Constant a b c :: es) env = (false,eval (.Constant a b c) env) :: starEach es env:=rfl
end
def NS (e:Expr):Prop:=∀ (es:List Expr) (env:Env),starEach (e :: es) env = (false,eval e env) :: starEach es env
theorem b0b {a b c}:NS (.Constant a b c):=fun _ _=>t0j
section
variable {X:Cx} (K:PySem.W.Frag)
def m1j (K:PySem.W.Frag):R2:=fun x y H Q=>∃ a b xs ys,x = .ref a∧y = .ref b∧SqL K H a xs∧SqL K H b ys∧xs.length + ys.length ≤ 1000000∧∀ p,H p = none→Q (.ref p) (upd H p (.lst (xs ++ ys)))
theorem e0d (hK:X.K = K:=by rfl):OpR X (binaryOp .Add) (m1j K):=by
 subst hK
 intro pins s σ H x y v u Q I rx ry h
 obtain ⟨a,b,xs,ys,rfl,rfl,ha,hb,hz,q⟩:=h
 cases rx
 cases ry
 obtain ⟨its,r1,p1,_⟩:=I.list ha
 obtain ⟨its2,r2,p2,_⟩:=I.list hb
 have hz':its.length + its2.length ≤ sizeLine:=small (by rw [← r1.length,← r2.length]; exact hz)
 obtain ⟨⟨cls,dd,data,sl⟩,ho,hc,n,hd⟩:=p1.isList
 obtain ⟨⟨cls2,dd2,data2,sl2⟩,ho2,hc2,n2,hd2⟩:=p2.isList
 simp only at hc hd hc2 hd2
 subst hc hd hc2 hd2
 refine concat_meets ⟨_,ho,rfl⟩ ⟨_,ho2,rfl⟩ noFill_list_add seq_list_add PySem.F.slot_list_add PySem.F.entry_list_add (PySem.F.args_list_add_2 _ _) (list_addW a b its.toArray its2.toArray n n2 dd dd2 sl sl2 (by rw [List.size_toArray,List.size_toArray]; exact hz')) ⟨ho,ho2,?_⟩
 refine ⟨.ref s.heap.objs.size,_,I.laid (t':=s.toks) (o:=.lst (xs ++ ys)) (fun b ob q=>Heap.get?_push_of_some _ q) (Nat.le_refl _) ?_,rfl,q _ (I.hok.fresh (Nat.le_refl _))⟩
 refine ⟨by rw [List.length_append]; exact small hz,_,0,r1.append r2,?_⟩
 rw [show (its ++ its2).toArray = its.toArray ++ its2.toArray by simp]
 exact Heap.get?_push_size _ rfl
variable {e st:Expr} {te:TE} {ts:TO} {pos p2:Pos}
end
section
variable {K:PySem.W.Frag} {ta te:TE} {a ae:AE} {ts:TA} {as:AA}
def gCat:R→R→AE:=fun r1 r2 ρ q=>match view ρ r1,view ρ r2 with
 | some (.lst ds),some (.lst es)=>ds.length + es.length ≤ 1000000∧q (.f (ds ++ es)) ρ
 | _,_=>False
theorem e0e:OpOk K (m1j K) gCat:=by
 intro F σ ρ H x y r1 r2 q Q a h1 h2 h b
 unfold gCat at h
 split at h
 ·rename_i ds es e1 e2
  obtain ⟨l,vs,rfl,sq,rd⟩:=c0s a h1 e1
  obtain ⟨l2,vs2,rfl,sq2,rd2⟩:=c0s a h2 e2
  exact ⟨l,l2,vs,vs2,rfl,rfl,sq,sq2,by rw [rd.length,rd2.length]; exact h.1,fun p hp=>b.new a h.2 (rd.append rd2) hp⟩
 ·exact h.elim
def gInt:List R→AE:=fun rs ρ q=>match rs with
 | [.d (.int i)]=>q (.d (.int i)) ρ
 | [.d (.bl k)]=>q (.d (.int (if k then 1 else 0))) ρ
 | _=>False
theorem g1a:CbOk K (fun xs H Q=>(∃ i,xs = [.int i]∧Q (.int i) H) ∨ ∃ k,xs = [.bl k]∧Q (.int (if k then 1 else 0)) H) gInt:=by
 intro F σ ρ H vs rs q Q a i h b
 unfold gInt at h
 split at h
 ·obtain ⟨x,rfl,i1⟩:=i.one
  exact .inl ⟨_,by rw [i1.int],b.int a h⟩
 ·obtain ⟨x,rfl,i1⟩:=i.one
  exact .inr ⟨_,by rw [i1.blv],b.int a h⟩
 ·exact h.elim
def gStrI:List R→AE:=fun rs ρ q=>match rs with
 | [.d (.int i)]=>i.natAbs.log2 < 1920∧q (.d (.str (toString i))) ρ
 | _=>False
theorem h0w:CbOk K (fun xs H Q=>∃ i,xs = [.int i]∧i.natAbs.log2 < 1920∧Q (.str (toString i)) H) gStrI:=by
 intro F σ ρ H vs rs q Q a i h b
 unfold gStrI at h
 split at h
 ·obtain ⟨x,rfl,i1⟩:=i.one
  exact ⟨_,by rw [i1.int],h.1,b.str a h.2⟩
 ·exact h.elim
end
abbrev nD (n:Nat):D:=.int (n:Nat)
abbrev nv (n:Nat):Sv:=.vl (.int (n:Nat))
def ownB (pr:Nat→Bool):En→Nat→Bool
 | [],_=>true
 | s :: ss,i=>(!s.own || pr i) && ownB pr ss (i + 1)
theorem t0t {pr:Nat→Bool}:∀ {ss:En} {j:Nat},ownB pr ss j = true→∀ i,(gt ss i).own = true→pr (j + i) = true
 | [],_,_,i,h=>by cases h
 | s :: ss,j,hb,0,h=>by
  simp only [ownB,Bool.and_eq_true,Bool.or_eq_true,Bool.not_eq_true'] at hb
  rcases hb.1 with q | q
  ·rw [show (gt (s :: ss) 0) = s from rfl,q] at h; cases h
  ·exact q
 | s :: ss,j,hb,i + 1,h=>by
  simp only [ownB,Bool.and_eq_true] at hb
  have:=t0t hb.2 i h
  rwa [show j + 1 + i = j + (i + 1) by omega] at this
theorem DefN.aok2 {P:Program} {w:World} {K:PySem.W.Frag} {mg:Str→Option Value} {base:Heap} {x:Str} {st:Stmt} {N ps:List Str} {k:Nat} {a:AS} (D:DefN K mg x st ps) (Sc:b0a N ps (a0l st)) (pr:Nat→Bool) (us:En) (S:ASp) (hus:List.replicate (N.length - ps.length) Sv.un = us)
  (hbody:∀ (f:Addr) (cdv:Value) (A:Around) (outer:List Env) (s:Shared) (H:Hp) (E:XK),Room k (A.deeper (envOfC x (a0l st) s.heap.objs.size f cdv)) →
   ∃ t,PSs (cxOf CX0 P w K mg base N x (a0l st) f cdv A outer s H E).nox (d0k st) t∧TSok K pr t a)
  (hS:∀ ss q,S ss q→ss.length = ps.length∧ownB pr ss 0 = true∧a ⟨fun ρ=>q (.d .non) (outS ss ρ),fun r ρ=>fin pr r ρ fun r' ρ'=>q r' (outS ss ρ'),fun _=>False,fun _=>False⟩ (ss ++ us)):OkN P w K mg base (k + 1) x ps (spA K S) :=
 D.aok Sc pr S hbody fun ss q h=>⟨(hS ss q h).1,fun i hi=>by have:=t0t (hS ss q h).2.1 i hi; rwa [Nat.zero_add] at this,by rw [hus]; exact (hS ss q h).2.2⟩
theorem l0u {lo:Int} {n k:Nat} {d:D} (h:(rngD lo n)[k]? = some d):k < n∧d = .int (lo + k):=by
 unfold rngD at h
 rw [List.getElem?_map] at h
 obtain ⟨j,e1,e2⟩:=Option.map_eq_some_iff.mp h
 have lt:k < n:=by
  rcases Nat.lt_or_ge k n with q | q
  ·exact q
  ·rw [List.getElem?_eq_none (by simpa using q)] at e1; cases e1
 rw [List.getElem?_range lt] at e1
 cases e1
 exact ⟨lt,e2.symm⟩
abbrev i1e (n:Nat) (js:List Nat) (g:AG) (tc:AT) (te:AE) (ρ:En) (d:D) (acc:List D) (N:List D→En→Prop):Prop :=
 g d (blkE n js ρ) fun ρ1=>tc ρ1 fun b ρ2=>if b = true then te ρ2 fun r ρ3=>sto [r.frz] ρ3 fun es ρ4=>N (acc ++ es) (back ρ (js.map R.o) (ρ4.drop n)) else N acc (back ρ (js.map R.o) (ρ2.drop n))
section
variable {n:Nat} {js:List Nat} {c:En→Prop} {g:AG} {tc:AT} {te:AE} {q:List D→En→Prop}
theorem g0k {α:Type} (h:α→D) (f:α→D) {xs:List α} {ρ:En} (hc:c ρ) (hs:∀ x acc (N:List D→En→Prop),x ∈ xs→N (acc ++ [f x]) ρ→i1e n js g tc te ρ (h x) acc N)
  (hd:q (xs.map f) ρ):i0p n js c g tc te q (xs.map h) [] ρ:=by
 refine k0d (fun k acc ρ'=>ρ' = ρ∧acc = (xs.take k).map f) (fun k acc ρ' _ h=>h.1 ▸ hc) ?_ ?_ ρ ⟨rfl,rfl⟩
 ·rintro k d acc _ N hk ⟨rfl,rfl⟩ hN
  rw [List.getElem?_map] at hk
  obtain ⟨x,e1,rfl⟩:=Option.map_eq_some_iff.mp hk
  refine hs x _ N (List.mem_of_getElem? e1) (hN _ _ ⟨rfl,?_⟩)
  rw [List.take_add_one,e1,Option.toList_some,List.map_append]; rfl
 ·rintro acc _ ⟨rfl,rfl⟩
  rw [List.length_map,List.take_length]; exact hd
end
section
variable {c:En→Prop} {g:AG} {b:AS} {e:AEnds}
theorem w0u {lo:Int} {m:Nat} (I:Nat→En→Prop) (hc:∀ k ρ,I k ρ→c ρ) (hs:∀ (k:Nat) ρ (N:En→Prop),k < m→I k ρ→(∀ ρ',I (k + 1) ρ'→N ρ')→g (.int (lo + k)) ρ fun ρ1=>b { nx:=N,ct:=N,bk:=e.nx,rt:=e.rt } ρ1)
  (hd:∀ ρ,I m ρ→e.nx ρ) {ρ:En} (h0:I 0 ρ):forA c g b e (rngD lo m) ρ:=by
 refine w0v I (fun k ρ _ h=>hc k ρ h) (fun k d ρ N hk h hN=>?_) (fun ρ h=>hd ρ (by rwa [f0q] at h)) ρ h0
 obtain ⟨lt,rfl⟩:=l0u hk
 exact hs k ρ N lt h hN
theorem q0f {α:Type} (h:α→D) {xs:List α} (I:Nat→En→Prop) (hc:∀ k ρ,I k ρ→c ρ) (hs:∀ (k:Nat) x ρ (N:En→Prop),xs[k]? = some x→I k ρ→(∀ ρ',I (k + 1) ρ'→N ρ')→g (h x) ρ fun ρ1=>b { nx:=N,ct:=N,bk:=e.nx,rt:=e.rt } ρ1)
  (hd:∀ ρ,I xs.length ρ→e.nx ρ) {ρ:En} (h0:I 0 ρ):forA c g b e (xs.map h) ρ:=by
 refine w0v I (fun k ρ _ h=>hc k ρ h) (fun k d ρ N hk h' hN=>?_) (fun ρ h=>hd ρ (by rwa [List.length_map] at h)) ρ h0
 rw [List.getElem?_map] at hk
 obtain ⟨x,e1,rfl⟩:=Option.map_eq_some_iff.mp hk
 exact hs k x ρ N e1 h' hN
end
theorem g1h {xs:List Nat} {i:Nat} (h:i < xs.length):atI (a0y xs) ((i:Nat):Int) = some (.int (xs.getD i 0:Nat)):=by
 refine d1g ?_
 unfold a0y
 rw [List.getElem?_map,List.getElem?_eq_getElem h]
 simp [h]
theorem i0i {r1:R} {ρ:En} {q:Ko} {xs:List Nat} {i:Nat} (hv:view ρ r1 = some (.lst (a0y xs))) (h:i < xs.length) (hq:q (.d (.int (xs.getD i 0:Nat))) ρ):gIx r1 (.d (.int (i:Nat))) ρ q:=by
 unfold gIx
 rw [hv]
 simp only [g1h h]
 exact hq
theorem b0f {neg:Bool} {r1 r2:R} {ρ:En} {q:Ko} {d e:D} {b:Bool} (h1:view ρ r1 = some d) (h2:view ρ r2 = some e) (hd:d.depth ≤ 60) (hb:eqD d e = b) (hq:q (.d (.bl (if neg then !b else b))) ρ):gEq neg r1 r2 ρ q:=by
 unfold gEq
 rw [h1,h2]
 subst hb
 exact ⟨hd,hq⟩
theorem u0y (ns:List Int):depths (ns.map D.int) = 0:=by
 induction ns with
 | nil=>simp [depths]
 | cons n ns ih=>rw [List.map_cons]; unfold depths; rw [ih]; simp [D.depth]
theorem u0x (ns:List Nat):(D.lst (a0y ns)).depth ≤ 60:=by
 have:a0y ns = (ns.map fun (n:Nat)=>(n:Int)).map D.int:=by unfold a0y; simp
 rw [this]; unfold D.depth; rw [u0y]; decide
theorem k1k {r1:R} {ρ:En} {q:Ko} {ds:List D} {i:Int} {d:D} (hv:view ρ r1 = some (.tup ds)) (h:atI ds i = some d) (hq:q (.d d) ρ):gIx r1 (.d (.int i)) ρ q:=by
 unfold gIx
 rw [hv]
 simp only [h]
 exact hq
theorem g0i {r1:R} {ρ:En} {q:Ko} {ds:List D} {i:Int} {d:D} (hv:view ρ r1 = some (.lst ds)) (h:atI ds i = some d) (hq:q (.d d) ρ):gIx r1 (.d (.int i)) ρ q:=by
 unfold gIx
 rw [hv]
 simp only [h]
 exact hq
theorem f0l {r:R} {ρ:En} {q:Ko} {d:D} {n:String} {b:Bool} (hv:view ρ r = some d) (h:isaT (tyD d) n = some b) (hq:q (.d (.bl b)) ρ):gIsa [r,.t n] ρ q:=by
 unfold gIsa
 simp only [hv,h]
 exact hq
theorem k1m {r:R} {ρ:En} {q:Ko} {bs:List Bool} (hv:view ρ r = some (.lst (bs.map D.bl))) (hq:q (.d (.bl (bs.all id))) ρ):gAll [r] ρ q:=by
 unfold gAll
 simp only [hv,d1a]
 exact hq
theorem k1j {r:R} {ρ:En} {q:Ko} {ns:List Int} (hv:view ρ r = some (.lst (ns.map D.int))) (h1:∀ n ∈ ns,0 ≤ n) (h2:ns.sum < 2 ^ 62) (hq:q (.d (.int ns.sum)) ρ):gSum [r] ρ q:=by
 unfold gSum
 simp only [hv,o0n]
 exact ⟨h1,h2,hq⟩
def isI:D→Bool
 | .int _=>true
 | _=>false
def isL:D→Bool
 | .lst _=>true
 | _=>false
theorem cutS {A B:AS} {e:AEnds} {ρ:En} (P:En→Prop) (h1:∀ N:En→Prop,(∀ ρ',P ρ'→N ρ')→A { e with nx:=N } ρ) (h2:∀ ρ',P ρ'→B e ρ'):aSeq A B e ρ:=h1 (B e) h2
theorem u0a {x:Int} {n:Nat} (h:x = (n:Nat)):Sv.vl (.int x) = nv n:=by rw [h]
def u0q (s:Sv) (ds:List D):Prop:=s = .ow ds ∨ s = .vl (.lst ds)
def n0h:ASp:=fun ss q=>∃ d:D,ss = [.vl d]∧q (.d (.bl (isI d))) [.vl d]
theorem o0j (xs:List Nat) (x:Nat):a0y (xs ++ [x]) = a0y xs ++ [nD x]:=by unfold a0y; rw [List.map_append]; rfl
def v0i:ASp:=fun ss q=>∃ x y:Nat,ss = [nv x,nv y]∧q (.d (nD (x ^^^ y))) [nv x,nv y]
theorem g1i {n:Nat} {js:List Nat} {c:En→Prop} {g:AG} {tc:AT} {te:AE} {q:List D→En→Prop} (xs:List Nat) {ρ:En} (hc:c ρ) (hs:∀ x acc (N:List D→En→Prop),x ∈ xs→N (acc ++ [.bl true]) ρ→i1e n js g tc te ρ (nD x) acc N)
  (hd:q ((xs.map fun _=>true).map D.bl) ρ):i0p n js c g tc te q (a0y xs) [] ρ :=
 g0k nD (fun _=>.bl true) hc hs (by rw [List.map_map] at hd; exact hd)
theorem c1p (xs:List D) (k:Nat):cutD xs none (some ((k:Nat):Int)) = xs.take k:=by
 unfold cutD
 have e0:HT.sIx xs.length 0 none = 0:=rfl
 rw [e0,List.drop_zero,Nat.sub_zero,HT.sIx_nat]
 rcases Nat.le_total k xs.length with h | h
 ·rw [Nat.min_eq_left h]
 ·rw [Nat.min_eq_right h,List.take_of_length_le (Nat.le_refl _),List.take_of_length_le h]
theorem s0u (xs:List D) (k:Nat):cutD xs (some ((k:Nat):Int)) none = xs.drop k:=by
 unfold cutD
 have e0:HT.sIx xs.length xs.length none = xs.length:=rfl
 rw [e0,HT.sIx_nat]
 rcases Nat.le_total k xs.length with h | h
 ·rw [Nat.min_eq_left h,List.take_of_length_le (by rw [List.length_drop]; omega)]
 ·rw [Nat.min_eq_right h,List.drop_eq_nil_of_le (Nat.le_refl _),List.drop_eq_nil_of_le h]; simp
theorem b0j (xs:List Nat):(a0y xs).length = xs.length:=by rw [List.length_map]
theorem DefN.no {P:Program} {w:World} {K:PySem.W.Frag} {mg:Str→Option Value} {base:Heap} {x:Str} {st:Stmt} {N ps:List Str} (D:DefN K mg x st ps) (Sc:b0a N ps (a0l st)) (k:Nat):OkN P w K mg base (k + 1) x ps (spA K fun _ _=>False) :=
 D.ok Sc (fun vs H Q E h=>by obtain ⟨_,_,_,_,h,_⟩:=h; exact h.elim) fun f cdv A outer s H vs Q E _ h=>by obtain ⟨_,_,_,_,h,_⟩:=h; exact h.elim
section
variable {X:Cx} (K:PySem.W.Frag)
theorem q0g (l:List Value):∀ (n:Nat) (acc:Array Value),List.foldl (fun x y=>x ++ y) acc (List.replicate n l.toArray) = acc ++ ((List.replicate n l).flatten).toArray
 | 0,acc=>by simp
 | n + 1,acc=>by
  rw [List.replicate_succ,List.foldl_cons,q0g l n,List.replicate_succ,List.flatten_cons]
  simp
theorem v0o {xs:List V} {us:List Value} (h:Vals xs us):∀ n,Vals (List.replicate n xs).flatten (List.replicate n us).flatten
 | 0=>.nil
 | n + 1=>by rw [List.replicate_succ,List.replicate_succ,List.flatten_cons,List.flatten_cons]; exact h.append (v0o h n)
end
section
variable {K:PySem.W.Frag} {te:TE} {ae:AE} {ts:TA} {as:AA}
theorem RepDs.reps {H:Hp} {vs:List V} {ds:List D} (h:RepDs K H vs ds):∀ n,RepDs K H (List.replicate n vs).flatten (List.replicate n ds).flatten
 | 0=>.nil
 | n + 1=>by rw [List.replicate_succ,List.replicate_succ,List.flatten_cons,List.flatten_cons]; exact h.append (RepDs.reps h n)
end
structure PSz (X:Cx) (b:List Stmt) (t:TS):Prop where
 h:PSs X b t
section
variable {X:Cx} {st:Stmt} {rest:List Stmt} {t u:TS}
theorem p0o (h1:PS X st t) (h2:PSz X rest u):PSz X (st :: rest) (tSeq t u):=⟨a0f h1 h2.h⟩
theorem m1k (h1:PS X st t):PSz X [st] t:=⟨a0m h1⟩
end
structure PAz (X:Cx) (es:List Expr) (t:TA):Prop where
 h:PA X es t
section
variable {X:Cx} {e:Expr} {es:List Expr} {te:TE} {t:TA} {pos:Pos}
theorem g1o:PAz X [] tNil:=⟨a0e⟩
theorem c0q (n:NS e) (ha:PE X e te) (hr:PAz X es t):PAz X (e :: es) (z0h te t):=⟨a0c ha hr.h (n es X.env)⟩
theorem m1l (h:PAz X es t):PE X (.List es pos) (tLst t):=c0f h.h
end
structure PEz (X:Cx) (e:Expr) (t:TE):Prop where
 h:PE X e t
structure PSy (X:Cx) (st:Stmt) (t:TS):Prop where
 h:PS X st t
section
variable {X:Cx} {st:Stmt} {rest:List Stmt} {t u:TS} {i:Nat} {x:Str} {e:Expr} {es:List Expr} {te:TE} {ta:TA} {pos pos':Pos}
theorem h1y (h1:PSy X st t) (h2:PSz X rest u):PSz X (st :: rest) (tSeq t u):=⟨a0f h1.h h2.h⟩
theorem l1p (h:PAz X es ta):PEz X (.List es pos) (tLst ta):=⟨c0f h.h⟩
theorem l1o {p2:Pos} (hN:X.N.Nodup) (hi:X.N[i]? = some x) (hx:Loc X.env.scope x) (he:PEz X (.List es p2) te) (hf:X.fn x = true ∨ X.env.scope.names.lookup x = some .local) :
  PSy X (.Assign [.Name x pos'] (.List es p2) pos) (tAsg te (u0v i)):=⟨a0t hN hi hx he.h rfl hf⟩
end
theorem DefN.aokz {P:Program} {w:World} {K:PySem.W.Frag} {mg:Str→Option Value} {base:Heap} {x:Str} {st:Stmt} {N ps:List Str} {k:Nat} {a:AS} (D:DefN K mg x st ps) (Sc:b0a N ps (a0l st)) (pr:Nat→Bool) (us:En) (S:ASp) (hus:List.replicate (N.length - ps.length) Sv.un = us)
  (hbody:∀ (f:Addr) (cdv:Value) (A:Around) (outer:List Env) (s:Shared) (H:Hp) (E:XK),Room k (A.deeper (envOfC x (a0l st) s.heap.objs.size f cdv)) →
   ∃ t,PSz (cxOf CX0 P w K mg base N x (a0l st) f cdv A outer s H E).nox (d0k st) t∧TSok K pr t a)
  (hS:∀ ss q,S ss q→ss.length = ps.length∧ownB pr ss 0 = true∧a ⟨fun ρ=>q (.d .non) (outS ss ρ),fun r ρ=>fin pr r ρ fun r' ρ'=>q r' (outS ss ρ'),fun _=>False,fun _=>False⟩ (ss ++ us)):OkN P w K mg base (k + 1) x ps (spA K S) :=
 D.aok2 Sc pr us S hus (fun f cdv A outer s H E hr=>let ⟨t,h,k⟩:=hbody f cdv A outer s H E hr; ⟨t,h.h,k⟩) hS
end L2
namespace HT
open PySem PySem.Spec PyProof.Rows
end HT
namespace L2
open PySem PySem.Spec PyProof.Rows
section
variable {X:Cx} {pins:List (Addr × Obj)} {σ:St} {H:Hp} {s:Shared} {h':Heap}
theorem Inv.turns {t':Nat} {ch:List Addr} (I:Inv X pins σ H s) (k:∀ b o,b ∉ ch→s.heap.get? b = some o→h'.get? b = some o) (hf:∀ b ∈ ch,FpOk X pins H b):Inv X pins σ H { s with heap:=h',toks:=t' }:=by
 have nit:∀ b u,H b = some u→b ∉ ch:=fun b u e z=>by rw [(hf b z).1] at e; cases e
 refine I.step (g':=s.gens) (d':=s.drawn) (ch:=ch) (fun b hb=>?_) (fun b o _ _ hc e _=>k b o hc e) (fun b o _ _ hc e _=>⟨o.slots,k b o hc e⟩) (fun _ _ _ _ n=>n)
  (fun b o hc e=>⟨o,k b o hc e⟩) (fun _ _ e=>e) (fun _ _ _ e=>e) (fun b ps e=>⟨#[],by rw [e]; simp⟩) (fun m hm=>?_) (fun b u e=>?_) I.bare
 ·obtain ⟨_,h2,_,h4,h5,h6⟩:=hf b hb
  exact ⟨h4,h2,h5,h6⟩
 ·obtain ⟨o,es,ep,ho,r⟩:=hm
  exact ⟨o,es,ep,k _ o (fun z=>(hf _ z).2.1 rfl) ho,r⟩
 ·refine (I.hok b u e).stay (fun c v hc q=>k c v ?_ q) (fun _ q=>q) fun _ _ q=>q
  rcases hc with z | z
  ·rw [z]; exact nit b u e
  ·exact nit c _ z
theorem Inv.trackO {p:Addr} {o:HO} (I:Inv X pins σ H s) (hf:FpOk X pins H p) (new:d0x X.prog X.w (upd H p o) s.heap p o):Inv X pins σ (upd H p o) s:=by
 have hn:=hf.1
 refine I.call' (ch:=[p]) rfl ⟨fun b u e _ _ _=>e,fun b u e _ _ _=>⟨u.slots,e⟩,fun b u e n hx=>?_,fun b u e _=>⟨u,e⟩,fun b xs e=>?_,fun b u v e=>?_,fun b ps e=>⟨#[],?_⟩⟩ (fun b u e=>?_) I.bare (fun b hb=>?_)
 ·rw [a0o (fun z=>hx (by simp [z]))]; exact n
 ·rw [a0o (b0h e hn)]; exact e
 ·rw [a0o (b0h e hn)]; exact e
 ·rw [a0o (b0h e hn),e]; simp
 ·by_cases hb:b = p
  ·subst hb; rw [b0g] at e; cases e; exact new
  ·rw [a0o hb] at e
   exact (I.hok b u e).stay (fun c v _ q=>q) (fun c q=>by rw [a0o (b0h q hn)]; exact q) fun c xs q=>by rw [a0o (b0h q hn)]; exact q
 ·rw [List.mem_singleton.mp hb]
  obtain ⟨_,h2,_,h4,h5,h6⟩:=hf
  exact ⟨h4,h2,h5,h6⟩
end
section
variable {K:PySem.W.Frag} {ts:TA} {as:AA}
def d1w (pin:Nat→Bool) (ρ:En):R→Option (List D × (En→Prop))
 | .d (.lst ds)=>some (ds,fun _=>True)
 | .o i=>(match gt ρ i with
  | .ow ds=>if pin i = true then some (ds,fun ρ2=>gt ρ2 i = .ow ds) else none
  | _=>none)
 | _=>none
theorem d1v {pin:Nat→Bool} {F:Fr} {σ:St} {ρ:En} {H:Hp} {v:V} {r:R} {ds:List D} {c:En→Prop} (a:Rel K F σ ρ H) (i:InF K F σ ρ H v r) (e:d1w pin ρ r = some (ds,c)) :
  ∃ l vs,v = .ref l∧SqL K H l vs∧∀ σ2 ρ2 H2,Same (hid H (hs F σ ρ)) (hid H2 (hs F σ2 ρ2))→(∀ i,SvOk K (hid H2 (hs F σ2 ρ2)) H2 σ2[i]? (gt ρ2 i))→(∀ j a,pin j = true→σ[j]? = some (some (.ref a))→σ2[j]? = some (some (.ref a)))→c ρ2→∃ vs2,SqL K H2 l vs2∧RepDs K (hid H2 (hs F σ2 ρ2)) vs2 ds:=by
 cases r with
 | n s=>cases e
 | t n=>cases e
 | d d =>
  cases d with
  | lst es =>
   simp only [d1w,Option.some.injEq,Prod.mk.injEq] at e
   obtain ⟨rfl,rfl⟩:=e
   have rd:RepD K _ v (.lst es):=i
   unfold RepD at rd
   obtain ⟨l,vs,rfl,sq,rr⟩:=rd
   exact ⟨l,vs,rfl,c0y.seq sq,fun σ2 ρ2 H2 sm _ _ _=>⟨vs,c0y.seq (sm.seq sq),rr.same sm⟩⟩
  | non=>cases e
  | bl _=>cases e
  | int _=>cases e
  | str _=>cases e
  | tup _=>cases e
 | o j =>
  have ej:σ[j]? = some (some v):=i
  unfold d1w at e
  cases hg:gt ρ j with
  | ow es =>
   simp only [hg] at e
   split at e
   ·rename_i hp
    simp only [Option.some.injEq,Prod.mk.injEq] at e
    obtain ⟨rfl,rfl⟩:=e
    have s:=a.sl j
    rw [hg,ej] at s
    obtain ⟨l,vs,e1,hl,rd⟩:=s
    injection e1 with e1; injection e1 with e1; subst e1
    refine ⟨l,vs,rfl,SqL.of hl,fun σ2 ρ2 H2 sm sv pn hc=>?_⟩
    have s2:=sv j
    rw [hc,pn j l hp ej] at s2
    obtain ⟨l',vs',e2,hl',rd'⟩:=s2
    injection e2 with e2; injection e2 with e2; injection e2 with e2; subst e2
    exact ⟨vs',SqL.of hl',rd'⟩
   ·cases e
  | un=>simp [hg] at e
  | vl _=>simp [hg] at e
  | tp _=>simp [hg] at e
  | dk _=>simp [hg] at e
  | dt _=>simp [hg] at e
  | ex _ _=>simp [hg] at e
end
section
variable {K:PySem.W.Frag} {ts:TA} {as:AA}
def aNever:AS:=fun _ _=>False
theorem g0a {pr:Nat→Bool}:TSok K pr tNever aNever:=fun F σ ρ H D e hp r h k=>h.elim
end
section
variable {X:Cx} (K:PySem.W.Frag)
def tFmt (te:TE):TE:=fun σ H Q=>te σ H fun x H1=>∃ i,x = .int i∧i.natAbs.log2 < 1920∧Q (.str (toString i)) H1
theorem h1i {e:Expr} {te:TE} {pos:Pos} (he:PE X e te):PE X (.FormattedValue e (-1) none pos) (tFmt te):=by
 intro pins s σ H Q I h
 refine FormattedValue_plain (thn (he pins s σ H _ I h) fun v s1 ⟨x,H1,I1,r1,q1⟩=>?_)
 obtain ⟨i,rfl,hz,q⟩:=q1
 obtain ⟨t,rfl⟩:=r1
 exact formatField_int_small hz ⟨.str _,H1,I1.tok _,⟨_,rfl⟩,q⟩
abbrev TJ:=Str→TE
def PJ (X:Cx) (es:List Expr) (t:TJ):Prop:=∀ (out:Str) (pins:List (Addr × Obj)) (s:Shared) (σ:St) (H:Hp) (Q:VK),Inv X pins σ H s→t out σ H Q→wpAny (model X.prog X.w) X.A (joinParts out (evalEach es X.env)) (EP X pins σ Q) X.xe s
def jNil:TJ:=fun out _ H Q=>out.length ≤ sizeLine∧Q (.str out) H
def b1n (te:TE) (t:TJ):TJ:=fun out σ H Q=>te σ H fun x H1=>∃ y,x = .str y∧(out ++ y).length ≤ sizeLine∧t (out ++ y) σ H1 Q
theorem h1h:PJ X [] jNil:=fun out pins s σ H Q I h=>joinParts_nil ⟨.str out,H,I.tok _,⟨_,rfl⟩,h.2⟩ h.1
theorem m0n {e:Expr} {es:List Expr} {te:TE} {t:TJ} (he:PE X e te) (hr:PJ X es t) (hs:evalEach (e :: es) X.env = eval e X.env :: evalEach es X.env:=by rfl):PJ X (e :: es) (b1n te t):=by
 intro out pins s σ H Q I h
 rw [hs]
 refine joinParts_cons (thn (he pins s σ H _ I h) fun v s1 ⟨x,H1,I1,r1,y,e1,hz,q⟩=>?_)
 subst e1
 obtain ⟨t',rfl⟩:=r1
 exact ⟨hz,hr _ pins s1 σ H1 Q I1 q⟩
theorem r0e {v1 v2:Expr} {rest:List Expr} {pos:Pos} {t:TJ} (h:PJ X (v1 :: v2 :: rest) t) (hs:evalEach (v1 :: v2 :: rest) X.env = eval v1 X.env :: eval v2 X.env :: evalEach rest X.env:=by rfl):PE X (.JoinedStr (v1 :: v2 :: rest) pos) (t Str.empty):=by
 intro pins s σ H Q I hq
 refine JoinedStr_many ?_
 rw [← hs]
 exact h Str.empty pins s σ H Q I hq
def m1i (K:PySem.W.Frag):V→List V→Hp→VK→Prop:=fun x vs H Q=>∃ sep p ys,x = .str sep∧vs = [.ref p]∧SqL K H p (ys.map V.str)∧(ys.map (·.length)).sum + ys.length * sep.length ≤ 16777216∧Q (.str (Txt.join sep ys)) H
theorem z0k:∀ {ys:List Str} {us:List Value},Vals (ys.map V.str) us→StrsAre us ys
 | [],_,.nil=>.nil
 | y :: ys,_,.cons ⟨t,e⟩ r=>by subst e; exact .cons y t (z0k r)
theorem g0w (hK:X.K = K:=by rfl):MtR X "str.join" (m1i K):=by
 subst hK
 intro pins s σ H x vs v us Q I rx rv h
 obtain ⟨sep,p,ys,rfl,rfl,hq,hz,q⟩:=h
 obtain ⟨t,rfl⟩:=rx
 obtain ⟨u,rfl,ru⟩:=rv.one
 cases ru
 obtain ⟨its,r,pl,_⟩:=I.list hq
 exact join_list pl.isList (by simpa using z0k r) hz fun t' k=>⟨.str _,H,I.tok _,⟨_,rfl⟩,q⟩
end
section
variable {K:PySem.W.Frag} {ta te:TE} {a ae:AE} {ts:TA} {as:AA}
def gAddS:R→R→AE:=fun r1 r2 ρ q=>match r1,r2 with
 | .d (.str x),.d (.str y)=>x.length + y.length ≤ 1000000∧q (.d (.str (x ++ y))) ρ
 | _,_=>False
theorem InF.strv {F:Fr} {σ:St} {ρ:En} {H:Hp} {v:V} {x:Str} (h:InF K F σ ρ H v (.d (.str x))):v = .str x:=by
 unfold InF RepD at h; exact h
theorem f0t:OpOk K (fun x y H Q=>∃ i j,x = .str i∧y = .str j∧i.length + j.length ≤ sizeLine∧Q (.str (i ++ j)) H) gAddS:=by
 intro F σ ρ H x y r1 r2 q Q a h1 h2 h b
 unfold gAddS at h
 split at h
 ·exact ⟨_,_,h1.strv,h2.strv,small h.1,b.str a h.2⟩
 ·exact h.elim
def aFmt (a:AE):AE:=fun ρ q=>a ρ fun r ρ1=>match r with
 | .d (.int i)=>i.natAbs.log2 < 1920∧q (.d (.str (toString i))) ρ1
 | _=>False
theorem i1g (ha:TEok K ta a):TEok K (tFmt ta) (aFmt a):=by
 intro F σ ρ H q Q r h k
 refine ha F σ ρ H _ _ r h fun r1 ρ1 x H1 h1 o1=>?_
 obtain ⟨r1',k1,i1⟩:=o1.inF
 split at h1
 ·exact ⟨_,i1.int,h1.1,(k.after k1).str r1' h1.2⟩
 ·exact h1.elim
abbrev AJ:=Str→AE
def TJok (K:PySem.W.Frag) (t:TJ) (a:AJ):Prop:=∀ out,TEok K (t out) (a out)
def ajNil:AJ:=fun out ρ q=>out.length ≤ 1000000∧q (.d (.str out)) ρ
def o1t (a:AE) (r:AJ):AJ:=fun out ρ q=>a ρ fun r1 ρ1=>match r1 with
 | .d (.str y)=>(out ++ y).length ≤ 1000000∧r (out ++ y) ρ1 q
 | _=>False
theorem e1b:TJok K jNil ajNil:=fun out F σ ρ H q Q r h k=>⟨small h.1,k.str r h.2⟩
theorem q0s {t:TJ} {aj:AJ} (ha:TEok K ta a) (hr:TJok K t aj):TJok K (b1n ta t) (o1t a aj):=by
 intro out F σ ρ H q Q r h k
 refine ha F σ ρ H _ _ r h fun r1 ρ1 x H1 h1 o1=>?_
 obtain ⟨r1',k1,i1⟩:=o1.inF
 split at h1
 ·exact ⟨_,i1.strv,small h1.1,hr _ F σ ρ1 H1 q Q r1' h1.2 (k.after k1)⟩
 ·exact h1.elim
theorem x0l {t:TJ} {aj:AJ} (h:TJok K t aj):TEok K (t Str.empty) (aj Str.empty):=h _
def h0a:List D→Option (List Str)
 | []=>some []
 | .str x :: ds=>(h0a ds).map (x :: ·)
 | _=>none
theorem q0u:∀ {ds:List D} {ns:List Str},h0a ds = some ns→ds = ns.map D.str
 | [],ns,h=>by simp [h0a] at h; subst h; rfl
 | .str i :: ds,ns,h=>by
  simp only [h0a,Option.map_eq_some_iff] at h
  obtain ⟨ms,e,rfl⟩:=h
  rw [q0u e]; rfl
 | .non :: ds,ns,h=>by simp [h0a] at h
 | .bl _ :: ds,ns,h=>by simp [h0a] at h
 | .int _ :: ds,ns,h=>by simp [h0a] at h
 | .tup _ :: ds,ns,h=>by simp [h0a] at h
 | .lst _ :: ds,ns,h=>by simp [h0a] at h
theorem x0m (ns:List Str):h0a (ns.map D.str) = some ns:=by
 induction ns with
 | nil=>rfl
 | cons n ns ih=>simp [h0a,ih]
theorem z0z {H:Hp}:∀ {vs:List V} {ns:List Str},RepDs K H vs (ns.map D.str)→vs = ns.map V.str
 | [],[],_=>rfl
 | v :: vs,n :: ns,h=>by
  rw [List.map_cons] at h
  unfold RepDs at h
  obtain ⟨h1,h2⟩:=h
  unfold RepD at h1
  rw [List.map_cons,h1,z0z h2]
 | [],n :: ns,h=>by rw [List.map_cons] at h; unfold RepDs at h; exact h.elim
 | v :: vs,[],h=>by rw [List.map_nil] at h; unfold RepDs at h; exact h.elim
@[irreducible] def f1n (sep:Str):R→AE:=fun r ρ q=>match view ρ r with
 | some (.lst ds)=>(match h0a ds with | some ys=>(ys.map (·.length)).sum + ys.length * sep.length ≤ 16777216∧q (.d (.str (Txt.join sep ys))) ρ | none=>False)
 | _=>False
theorem e0y {sep:Str} {r:R} {ρ:En} {q:Ko} {ys:List Str} (hv:view ρ r = some (.lst (ys.map D.str))) (hz:(ys.map (·.length)).sum + ys.length * sep.length ≤ 16777216) (hq:q (.d (.str (Txt.join sep ys))) ρ):f1n sep r ρ q:=by
 unfold f1n
 simp only [hv,x0m]
 exact ⟨hz,hq⟩
def q1j (a:AE) (as:AA):AE:=fun ρ q=>a ρ fun r ρ1=>match r with
 | .d (.str sep)=>as ρ1 fun rs ρ2=>(match rs with | [x]=>f1n sep x ρ2 q | _=>False)
 | _=>False
theorem e0w (ha:TEok K ta a) (hs:TAok K ts as):TEok K (tBM K "str" (m1i K) ta ts) (q1j a as):=by
 intro F σ ρ H q Q r h k
 refine ha F σ ρ H _ _ r h fun r1 ρ1 x H1 h1 o1=>?_
 obtain ⟨r1',k1,i1⟩:=o1.inF
 split at h1
 ·rename_i sep
  have ex:x = .str sep:=i1.strv
  subst ex
  refine ⟨by first | rfl | exact .inl rfl | trivial | simp [tyV],hs F σ ρ1 H1 _ _ r1' h1 fun rs ρ2 vs H2 h2 r2 i2 k2=>?_⟩
  split at h2
  ·obtain ⟨y,rfl,iy⟩:=i2.one
   unfold f1n at h2
   split at h2
   ·rename_i ds e
    split at h2
    ·rename_i ys e'
     obtain ⟨l,us,rfl,sq,rd⟩:=c0s r2 iy e
     rw [q0u e'] at rd
     rw [z0z rd] at sq
     exact ⟨sep,l,ys,rfl,rfl,sq,h2.1,((k.after k1).after k2).str r2 h2.2⟩
    ·exact h2.elim
   ·exact h2.elim
  ·exact h2.elim
 ·exact h1.elim
def q1l (a:AE):AE:=fun ρ q=>a ρ fun r ρ1=>match r with
 | .d (.int i)=>q (.d (.int (Builtin.Int.intBits i:Nat))) ρ1
 | _=>False
theorem e1a (ha:TEok K ta a):TEok K (tBM0 K "int" (fun x xs H Q=>∃ i,x = .int i∧xs = []∧Q (.int (Builtin.Int.intBits i:Nat)) H) ta) (q1l a):=by
 intro F σ ρ H q Q r h k
 refine ha F σ ρ H _ _ r h fun r1 ρ1 x H1 h1 o1=>?_
 obtain ⟨r1',k1,i1⟩:=o1.inF
 split at h1
 ·rename_i i
  have ex:x = .int i:=i1.int
  subst ex
  exact ⟨by first | rfl | exact .inl rfl | trivial | simp [tyV],i,rfl,rfl,(k.after k1).int r1' h1⟩
 ·exact h1.elim
end
section
variable {K:PySem.W.Frag} {ts:TA} {as:AA}
def k0b (k:Nat):List D→List D
 | []=>[]
 | d :: ds=>.tup [.int (k:Nat),d] :: k0b (k + 1) ds
theorem s0s:∀ {ds:List D} {b k:Nat} {d:D},(k0b b ds)[k]? = some d→∃ x,ds[k]? = some x∧d = .tup [.int ((b + k:Nat):Int),x]
 | [],b,k,d,h=>by simp [k0b] at h
 | x :: ds,b,0,d,h=>by
  simp only [k0b,List.getElem?_cons_zero,Option.some.injEq] at h
  exact ⟨x,rfl,h.symm⟩
 | x :: ds,b,k + 1,d,h=>by
  simp only [k0b,List.getElem?_cons_succ] at h
  obtain ⟨a,e1,e2⟩:=s0s (ds:=ds) (b:=b + 1) (k:=k) h
  exact ⟨a,by simpa using e1,by rw [e2,show b + 1 + k = b + (k + 1) by omega]⟩
theorem s0r:∀ (ds:List D) (b:Nat),(k0b b ds).length = ds.length
 | [],b=>rfl
 | x :: ds,b=>by simp only [k0b,List.length_cons,s0r ds]
end
open Builtin.SmallTypes (nextOf)
section
variable {X:Cx}
def rInsert:V→List V→Hp→VK→Prop:=fun x vs H Q=>∃ (l:Addr) (xs:List V) (k:Nat) (y:V),x = .ref l∧vs = [.int (k:Nat),y]∧H l = some (.lst xs)∧k ≤ xs.length∧xs.length ≤ 1000000∧Q .non (upd H l (.lst (xs.take k ++ y :: xs.drop k)))
theorem d1x {xs:List V} {us:List Value} (h:Vals xs us):∀ k,Vals (xs.take k) (us.take k)∧Vals (xs.drop k) (us.drop k):=by
 induction h with
 | nil=>intro k; rw [List.take_nil,List.take_nil,List.drop_nil,List.drop_nil]; exact ⟨.nil,.nil⟩
 | cons h t ih =>
  intro k
  cases k with
  | zero=>exact ⟨.nil,.cons h t⟩
  | succ k=>exact ⟨.cons h (ih k).1,(ih k).2⟩
theorem b1s {l:Addr} {its:List Value} {n:Nat} {j:Int} {k:Nat} {t:Tok} {w:Value} {s:Shared} {Q:Value→Shared→Prop} {E:Value→Shared→Prop} {A:Around} {prog:Program} {wd:World} (hj:j = k) (hk:k ≤ its.length) (hl:its.length ≤ 1000000)
  (e:s.heap.get? l = some { cls:=.type "list",data:=.seq its.toArray n }) (h:∀ f:Array Value→Array Value,f its.toArray = (its.take k ++ w :: its.drop k).toArray→Q .none { s with heap:=s.heap.update l (Obj.mapSeq f),toks:=s.toks }):wpAny (model prog wd) A (call (.builtin "list.insert") [.ref l,.int j t,w]) Q E s:=by
 have hf:¬ (!Builtin.List.listFitsIndex j) = true:=by
  simp [Builtin.List.listFitsIndex]
  omega
 refine call_meets PySem.F.slot_list_insert ⟨_,e,rfl⟩ PySem.F.entry_list_insert (PySem.F.args_list_insert_3 _ _ _) (PySem.AutoSeq1.list_insert_list_int_val_1 l its.toArray n j t w hf (by rw [List.size_toArray,sizeLine_eq]; omega)) ⟨e,h _ ?_⟩
 have ek:(if j < 0 then (j + (its.toArray.size:Int)).toNat else min j.toNat its.toArray.size) = k:=by
  rw [if_neg (by omega),List.size_toArray]; omega
 show (its.toArray.extract 0 (if j < 0 then (j + (its.toArray.size:Int)).toNat else min j.toNat its.toArray.size)).push w ++ its.toArray.extract (if j < 0 then (j + (its.toArray.size:Int)).toNat else min j.toNat its.toArray.size) = _
 rw [ek]
 apply Array.toList_inj.mp
 simp
 rw [List.take_of_length_le (by rw [List.length_drop]; exact Nat.le_refl _)]
theorem b1b:MtM X "list.insert" rInsert:=by
 intro pins s σ H x vs v us Q I rx rv h
 obtain ⟨l,xs,k,y,rfl,rfl,hH,hk,hl',q⟩:=h
 cases rx
 obtain ⟨u,w,rfl,⟨t,rfl⟩,rw'⟩:=l1u rv
 obtain ⟨z,its,n,r,hl,e⟩:=I.lstM hH
 obtain ⟨v1,v2⟩:=d1x r k
 refine b1s rfl (by omega) (by omega) e fun f hf=>?_
 refine ⟨.non,_,I.lset (its':=its.take k ++ w :: its.drop k) hH e hf (v1.append (.cons rw' v2)) ?_,rfl,q⟩
 rw [List.length_append,List.length_cons,List.length_take,List.length_drop,sizeLine_eq]; omega
end
section
variable {K:PySem.W.Frag} {ta td tv:TE} {ad a av:AE} {ts:TA} {as:AA}
def aIns (a:AE) (as:AA):AE:=fun ρ q=>a ρ fun r ρ1=>match r with
 | .o i=>(match gt ρ1 i with
  | .ow _=>as ρ1 fun rs ρ2=>(match rs with
   | [.d (.int j),y]=>sto [y] ρ2 fun es ρ3=>(match gt ρ3 i,es with
    | .ow ds,[d]=>∃ n:Nat,j = n∧n ≤ ds.length∧ds.length ≤ 1000000∧q (.d .non) (pt ρ3 i (.ow (ds.take n ++ d :: ds.drop n)))
    | _,_=>False)
   | _=>False)
  | _=>False)
 | _=>False
theorem i1f (ha:TEok K ta a) (hs':TAok K ts as):TEok K (tBM K "list" rInsert ta ts) (aIns a as):=by
 intro F σ ρ H q Q r h k
 refine ha F σ ρ H _ _ r h fun r1 ρ1 x H1 h1 rel1=>?_
 split at h1
 ·rename_i i
  obtain ⟨r',k1,i1⟩:=rel1.inF
  have ex:σ[i]? = some (some x):=i1
  split at h1
  ·rename_i ds0 hg0
   have s:=r'.sl i
   rw [hg0,ex] at s
   obtain ⟨l,vs0,e,hl,_⟩:=s
   injection e with e; injection e with e; subst e
   refine ⟨.inl ⟨rfl,_,SqL.of hl⟩,hs' F σ ρ1 H1 _ _ r' h1 fun rs ρ2 vs H2 h2 r2 i2 k2=>?_⟩
   split at h2
   ·rename_i j y
    obtain ⟨z1,z2,rfl,iz1,iz2⟩:=i2.two
    obtain ⟨es,ρ3,h3,r3,k3,rd⟩:=j0m r2 (.cons iz2 .nil) h2
    split at h3
    ·rename_i ds d hg
     have s:=r3.sl i
     rw [hg,ex] at s
     obtain ⟨l',us,e,hl',rd'⟩:=s
     injection e with e; injection e with e; injection e with e; subst e
     obtain ⟨n,rfl,hn,hz,hq⟩:=h3
     unfold RepDs at rd
     have rdn:RepDs K (hid H2 (hs F σ ρ3)) (us.take n ++ z2 :: us.drop n) (ds.take n ++ d :: ds.drop n):=(rd'.take n).append (.cons rd.1 (rd'.drop n))
     have hw:=r3.write (i:=i) (l:=l) (o:=.lst (us.take n ++ z2 :: us.drop n)) (s:=.ow (ds.take n ++ d :: ds.drop n)) (by rw [hg]; rfl) ex rfl ⟨l,_,rfl,b0g,rdn⟩
     have ll:=rd'.length
     exact ⟨l,us,n,z2,rfl,by rw [iz1.int],hl',by omega,by omega,((((k.after k1).after k2).after k3).after hw.2).non hw.1 hq⟩
    ·exact h3.elim
   ·exact h2.elim
  ·exact h1.elim
 ·exact h1.elim
theorem InFs.length {F:Fr} {σ:St} {ρ:En} {H:Hp} {vs:List V} {rs:List R} (h:InFs K F σ ρ H vs rs):vs.length = rs.length:=by
 induction h with
 | nil=>rfl
 | cons _ _ ih=>rw [List.length_cons,List.length_cons,ih]
end
section
variable {X:Cx}
structure BlkC (X:Cx) (scope:Scope) (own:List Str) (js:List Nat):Prop where
 kind:scope.kind = .function
 cells:∀ y ∈ scope.names,y.2 = .cell→scope.names.lookup y.1 = some .cell
 names:∀ y ∈ scope.names,y.2 = .local→scope.names.lookup y.1 = some .local
 free:∀ y ∈ scope.names,y.2 = .free→X.env.kindOf y.1 = some .cell ∨ X.env.kindOf y.1 = some .free
 uniq:∀ x,(x,NameKind.free) ∈ scope.names→scope.names.lookup x = some .free
 nd:(own ++ capN X.N js).Nodup
 cap:∀ j ∈ js,j < X.N.length∧((X.N[j]?).getD "",NameKind.free) ∈ scope.names
def o1p (sc:Scope) (N:List Str) (scope:Scope) (own:List Str) (js:List Nat):Bool :=
 scope.kind == .function && scope.names.all (fun y=>y.2 != .cell || scope.names.lookup y.1 == some .cell) && scope.names.all (fun y=>y.2 != .local || scope.names.lookup y.1 == some .local) &&
 scope.names.all (fun y=>y.2 != .free || sc.names.lookup y.1 == some .cell || sc.names.lookup y.1 == some .free) && scope.names.all (fun y=>y.2 != .free || scope.names.lookup y.1 == some .free) &&
 decide (own ++ capN N js).Nodup && js.all (fun j=>decide (j < N.length) && scope.names.any fun y=>y.1 == (N[j]?).getD "" && y.2 == .free)
theorem BlkC.of {scope:Scope} {own:List Str} {js:List Nat} (sc:Scope) (N:List Str) (h:o1p sc N scope own js = true:=by decide +kernel) (e1:X.env.scope = sc:=by rfl) (e2:X.N = N:=by rfl):BlkC X scope own js:=by
 subst e1 e2
 unfold o1p at h
 simp only [Bool.and_eq_true,List.all_eq_true,decide_eq_true_eq,beq_iff_eq] at h
 obtain ⟨⟨⟨⟨⟨⟨h1,h2⟩,h3⟩,h4⟩,h5⟩,h6⟩,h7⟩:=h
 refine ⟨h1,fun y hy e=>?_,fun y hy e=>?_,fun y hy e=>?_,fun x hx=>?_,h6,fun j hj=>?_⟩
 ·have:=h2 y hy
  simpa [e] using this
 ·have:=h3 y hy
  simpa [e] using this
 ·have:=h4 y hy
  simp only [e,bne_self_eq_false,Bool.false_or,Bool.or_eq_true,beq_iff_eq] at this
  exact this
 ·have:=h5 _ hx
  simpa using this
 ·obtain ⟨a,b⟩:=h7 j hj
  refine ⟨a,?_⟩
  obtain ⟨y,hy,e⟩:=List.any_eq_true.mp b
  simp only [Bool.and_eq_true,beq_iff_eq] at e
  obtain ⟨e1,e2⟩:=e
  rw [← e1,← e2]
  exact hy
end
def Fly (od:Option Addr) (h:Heap) (e C T:Addr):Prop :=
 ∃ oe vs oT ts,h.get? e = some oe∧oe.cls = .ref C∧oe.dict = od∧oe.data = .fields vs∧vs[1]? = some (.ref T)∧T ≠ e∧h.get? T = some oT∧oT.data = .fields ts∧ts[3]? = some .none
structure Gone (fs:List Addr) (h h':Heap) (e:Addr) (hv:Value):Prop where
 keep:∀ b o,h.get? b = some o→b ≠ e→hv ≠ .ref b→b ∉ fs→h'.get? b = some o
 slot:∀ b o,h.get? b = some o→b ≠ e→hv ≠ .ref b→∃ sl,h'.get? b = some { o with slots:=sl }
section
variable {M:Model} {A:Around} {E:Value→Shared→Prop} {s:Shared} {base:Heap} {env:Env} {outer:List Env} {L e C:Addr} {oe:Obj} {vs:Array Value} {od:Option Addr}
theorem w0n {hd:Value} {had:Bool} {Q:Unit→Shared→Prop} (fr:A.frames = some (env :: outer)) (ff:s.heap.FunFrames base (env :: outer)) (lf:env.frame = some L)
  (ge:s.heap.get? e = some oe) (gc:oe.cls = .ref C) (gd:oe.dict = od) (gf:oe.data = .fields vs) (gz:1 < vs.size)
  (fin:∀ h' T,s.heap.objs.size ≤ T→Fly od h' e C T→(∀ b o,s.heap.get? b = some o→b ≠ e→b ∉ frs (env :: outer)→h'.get? b = some o)→(∀ b o,s.heap.get? b = some o→b ≠ e→∃ sl,h'.get? b = some { o with slots:=sl })→Q () { s with heap:=h' }) :
  wpAny M A (do let a ← frameOf env; let pl ← entryPlaceOf L had; let b ← EntryCells.newEntry hd a .none (rawInt L) .none pl; setField (.ref e) 1 b) (fun _ s'=>wpAny M A (setFlight (.ref e) none) Q E s') E s:=by
 have off:e ∉ frs (env :: outer):=fun q=>by
  obtain ⟨_,o,go,no⟩:=ff.mem q
  cases ge.symm.trans go
  exact no vs gf
 refine wpAny_bind (wpAny_frameOf_fun fr ff lf fun ha sa=>wpAny_bind (wpAny_entryPlaceOf fun pl ip=>?_))
 unfold EntryCells.newEntry newFields
 refine wpAny_bind (wpAny_newObj_type ?_ (ip.sizeOk5 _ _ _ _ _))
 have ge1:ha.get? e = some oe:=(sa.2.1 e off).trans ge
 have sz:ha.objs.size = s.heap.objs.size:=sa.1
 generalize hT:([hd,Value.ref L,.none,rawInt L,.none] ++ (if pl.isEmpty then List.replicate 6 Value.none else pl)).toArray = tv
 have tz:3 < tv.size:=by rw [← hT,List.size_toArray,List.length_append]; simp only [List.length_cons,List.length_nil]; omega
 have neT:e ≠ ha.objs.size:=Nat.ne_of_lt (Heap.lt_size ge1)
 refine wpAny_setField (Heap.get?_push_of_some _ ge1) gf gz ?_
 generalize hp:ha.push { cls:=.type "traceback",dict:=none,data:=.fields tv } = hb
 have gT:hb.get? ha.objs.size = some { cls:=.type "traceback",dict:=none,data:=.fields tv }:=by rw [← hp]; exact Heap.get?_push_size _ rfl
 have kb:∀ b o,ha.get? b = some o→hb.get? b = some o:=fun b o q=>by rw [← hp]; exact Heap.get?_push_of_some _ q
 have w1:=Obj.data_mapFields gf fun a=>a.setIfInBounds 1 (.ref ha.objs.size)
 have g3:=Heap.get?_update_self (Obj.mapFields fun a=>a.setIfInBounds 1 (.ref ha.objs.size)) (kb e oe ge1) (Obj.isFreed_of_fields w1)
 have gT3:=(Heap.get?_update_other hb (Obj.mapFields fun a=>a.setIfInBounds 1 (.ref ha.objs.size)) neT).trans gT
 unfold setFlight
 refine wpAny_bind (wpAny_field g3 w1 (x:=.ref ha.objs.size) (by simp [gz]) ?_)
 rw [if_pos (by simp:(Value.ref ha.objs.size != Value.none) = true)]
 refine wpAny_setField gT3 rfl tz ?_
 have on:∀ b o,b ≠ e→ha.get? b = some o→((hb.update e (Obj.mapFields fun a=>a.setIfInBounds 1 (.ref ha.objs.size))).update ha.objs.size (Obj.mapFields fun a=>a.setIfInBounds 3 ((none:Option Addr).elim Value.none fun f=>rawInt f))).get? b = some o:=fun b o ne q=>by
  rw [Heap.get?_update_other _ _ (Nat.ne_of_gt (Heap.lt_size q)),Heap.get?_update_other _ _ (Ne.symm ne)]
  exact kb b o q
 refine fin _ ha.objs.size (by rw [sz]; exact Nat.le_refl _) ⟨_,_,_,_,(Heap.get?_update_other _ _ neT.symm).trans g3,(Obj.cls_mapFields _ _).trans gc,?_,w1,by simp [gz],neT.symm,Heap.get?_update_self _ gT3 (Obj.isFreed_of_fields (Obj.data_mapFields rfl _)),Obj.data_mapFields rfl _,by simp [tz]⟩ (fun b o q ne nf=>on b o ne ((sa.2.1 b nf).trans q)) fun b o q ne=>?_
 ·obtain ⟨oc,od,oda,osl⟩:=oe
  cases gf
  exact gd
 ·obtain ⟨sl,q'⟩:=sa.2.2 b o q
  exact ⟨sl,on b _ ne q'⟩
theorem lv {hv:Value} {Q:Unit→Shared→Prop} (fr:A.frames = some (env :: outer)) (ff:s.heap.FunFrames base (env :: outer)) (lf:env.frame = some L)
  (ge:s.heap.get? e = some oe) (gc:oe.cls = .ref C) (gd:oe.dict = od) (gf:oe.data = .fields vs) (g1:vs[1]? = some hv)
  (hh:hv = .none ∨ ∃ T oT ts,hv = .ref T∧T ≠ e∧s.heap.get? T = some oT∧oT.data = .fields ts∧ts[3]? = some .none)
  (fin:∀ h' T,s.heap.objs.size ≤ T→Fly od h' e C T→Gone (frs (env :: outer)) s.heap h' e hv→Q () { s with heap:=h' }) :
  wpAny M A (noteFrame (.ref e) env) (fun _ s'=>wpAny M A (setFlight (.ref e) none) Q E s') E s:=by
 have gz:=(Array.getElem?_eq_some_iff.mp g1).1
 unfold noteFrame
 simp only [lf]
 refine wpAny_bind (wpAny_field ge gf g1 ?_)
 rcases hh with rfl | ⟨T,oT,ts,rfl,nT,gT,fT,t3⟩
 ·rw [if_neg (by decide)]
  exact w0n fr ff lf ge gc gd gf gz fun h' T' q1 q2 q3 q4=>fin h' T' q1 q2 ⟨fun b o a1 a2 _ a4=>q3 b o a1 a2 a4,fun b o a1 a2 _=>q4 b o a1 a2⟩
 ·rw [if_pos (by simp:(Value.ref T != Value.none) = true)]
  refine wpAny_bind (wpAny_field gT fT t3 ?_)
  rw [if_neg (by simp [rawInt]:¬ (Value.none == rawInt L) = true)]
  refine wpAny_bind (wpAny_setField gT fT (Array.getElem?_eq_some_iff.mp t3).1 ?_)
  have ot:∀ b,b ≠ T→(s.heap.update T (Obj.mapFields fun a=>a.setIfInBounds 3 Value.none)).get? b = s.heap.get? b:=fun b q=>Heap.get?_update_other _ _ (Ne.symm q)
  have gT':=Heap.get?_update_self (Obj.mapFields fun a=>a.setIfInBounds 3 Value.none) gT (Obj.isFreed_of_fields (Obj.data_mapFields fT _))
  have nr:∀ b o,s.heap.get? b = some o→(∀ us,o.data ≠ .fields us)→b ≠ T:=fun b o q nf z=>by
   subst z
   cases gT.symm.trans q
   exact nf ts fT
  refine w0n fr (ff.of_keeps fun b o q nf=>⟨o,(ot b (nr b o q nf)).trans q,rfl⟩) lf ((ot e nT.symm).trans ge) gc gd gf gz fun h' T' q1 q2 q3 q4=>fin h' T' ?_ q2 ⟨fun b o a1 a2 a3 a4=>q3 b o ((ot b fun z=>a3 (by rw [z])).trans a1) a2 a4,fun b o a1 a2 a3=>q4 b o ((ot b fun z=>a3 (by rw [z])).trans a1) a2⟩
  rwa [Heap.size_update] at q1
end
def Hot (od:Option Addr) (h0 h:Heap) (H:Hp) (e C:Addr):Prop :=
 ∃ oe vs hv,h.get? e = some oe∧oe.cls = .ref C∧oe.dict = od∧oe.data = .fields vs∧vs[1]? = some hv∧h0.get? e = none∧H e = none ∧
  (hv = .none ∨ ∃ T oT ts,hv = .ref T∧T ≠ e∧h.get? T = some oT∧oT.data = .fields ts∧ts[3]? = some .none∧h0.get? T = none∧H T = none)
section
variable {X:Cx} {pins:List (Addr × Obj)} {σ:St} {H:Hp} {s:Shared} {h0:Heap} {e C:Addr} {od:Option Addr}
theorem lvI {E:Value→Shared→Prop} {Q:Unit→Shared→Prop} (I:Inv X pins σ H s) (hs:X.stack = X.env :: X.outer) (hf:X.env.frame = some X.env.locals) (hsub:∀ b o,h0.get? b = some o→b < s.heap.objs.size) (hot:Hot od h0 s.heap H e C)
  (fin:∀ h' ch,(∀ b ∈ ch,h0.get? b = none∧H b = none)→e ∈ ch→Un (frs X.stack) ch H H s.heap h'→HOk X.prog X.w H h'→Hot od h0 h' H e C→Q () { s with heap:=h' }) :
  wpAny (model X.prog X.w) X.A (noteFrame (.ref e) X.env) (fun _ s'=>wpAny (model X.prog X.w) X.A (setFlight (.ref e) none) Q E s') E s:=by
 obtain ⟨oe,vs,hv,ge,gc,gd,gf,g1,ye,ue,hh⟩:=hot
 have hh':hv = .none ∨ ∃ T oT ts,hv = .ref T∧T ≠ e∧s.heap.get? T = some oT∧oT.data = .fields ts∧ts[3]? = some .none:=by
  rcases hh with q | ⟨T,oT,ts,q1,q2,q3,q4,q5,_⟩
  ·exact .inl q
  ·exact .inr ⟨T,oT,ts,q1,q2,q3,q4,q5⟩
 refine lv (hs ▸ I.ok.frames) (hs ▸ I.stack) hf ge gc gd gf g1 hh' fun h' T q1 ⟨oe',vs',oT',ts',f1,f2,f3,f4,f5,f6,f7,f8,f9⟩ g=>?_
 have hch:∀ b ∈ e :: (match hv with | .ref T=>[T] | _=>[]),h0.get? b = none∧H b = none:=fun b hb=>by
  rcases List.mem_cons.mp hb with rfl | hb
  ·exact ⟨ye,ue⟩
  ·rcases hh with rfl | ⟨T,oT,ts,rfl,_,_,_,_,y,u⟩
   ·cases hb
   ·rw [List.mem_singleton.mp hb]; exact ⟨y,u⟩
 have nch:∀ b,b ∉ e :: (match hv with | .ref T=>[T] | _=>[])→b ≠ e∧hv ≠ .ref b:=fun b hb=>⟨fun z=>hb (z ▸ .head _),fun z=>hb (by subst z; exact .tail _ (.head _))⟩
 have there:∀ b o,s.heap.get? b = some o→∃ o',h'.get? b = some o' ∨ b = e ∨ hv = .ref b:=fun b o q=>by
  by_cases z1:b = e
  ·exact ⟨o,.inr (.inl z1)⟩
  ·by_cases z2:hv = .ref b
   ·exact ⟨o,.inr (.inr z2)⟩
   ·obtain ⟨sl,q'⟩:=g.slot b o q z1 z2
    exact ⟨_,.inl q'⟩
 refine fin h' _ hch (.head _) ⟨fun b o q n nf nx=>g.keep b o q (nch b nx).1 (nch b nx).2 (by rw [← hs]; exact nf),fun b o q n _ nx=>g.slot b o q (nch b nx).1 (nch b nx).2,fun b o _ n _=>n,fun b o q nx=>?_,fun _ _ q=>q,fun _ _ _ q=>q,fun b ps q=>⟨#[],by rw [q]; simp⟩⟩ (fun a o q=>?_) ⟨oe',vs',_,f1,f2,f3,f4,f5,ye,ue,.inr ⟨T,oT',ts',rfl,f6,f7,f8,f9,?_,I.hok.fresh q1⟩⟩
 ·obtain ⟨sl,q'⟩:=g.slot b o q (nch b nx).1 (nch b nx).2
  exact ⟨_,q'⟩
 ·have tr:∀ b o',H b = some o'→b ≠ e∧hv ≠ .ref b∧b ∉ frs (X.env :: X.outer):=fun b o' z=>by
   refine ⟨fun w=>?_,fun w=>?_,fun w=>?_⟩
   ·rw [w,ue] at z; cases z
   ·rcases hh with y | ⟨T,oT,ts,y,_,_,_,_,_,u⟩
    ·rw [y] at w; cases w
    ·rw [y] at w; cases w; rw [u] at z; cases z
   ·rw [← hs] at w
    rw [I.stkFree b w] at z; cases z
  refine (I.hok a o q).stay (fun b u hb z=>?_) (fun _ z=>z) fun _ _ z=>z
  have:∃ o',H b = some o':=by
   rcases hb with rfl | hb
   ·exact ⟨_,q⟩
   ·exact ⟨_,hb⟩
  obtain ⟨o',ho'⟩:=this
  obtain ⟨a1,a2,a3⟩:=tr b o' ho'
  exact g.keep b u z a1 a2 a3
 ·cases z:h0.get? T with
  | none=>rfl
  | some o=>exact absurd (hsub T o z) (Nat.not_lt.mpr q1)
end
def odV:Option Addr→Value
 | none=>.none
 | some dx=>.ref dx
def Yg (h:Heap) (od:Option Addr):Prop:=∀ dx,od = some dx→h.get? dx = none
def CX1 (P:Program) (w:World):CXT:=fun outer H s E e s' =>
 ∃ a C od H',e = .ref a∧s'.os = s.os∧AllBare s'.gens∧Un (frs outer) [] H H' s.heap s'.heap∧HOk P w H' s'.heap∧Hot od s.heap s'.heap H' a C∧Yg s.heap od∧E (odV od) (some C) H'
section
variable {P:Program} {w:World} {K:PySem.W.Frag} {mg:Str→Option Value} {base:Heap} {N:List Str} {qual:Str} {scope:Scope} {f:Addr} {cd:Value} {A:Around} {outer:List Env} {s0:Shared} {H0:Hp} {E:XK}
theorem h1q {pins:List (Addr × Obj)} {σ:St} {H:Hp} {s:Shared} {e C:Addr} {od:Option Addr} (I:Inv (cxOf (CX1 P w) P w K mg base N qual scope f cd A outer s0 H0 E) pins σ H s) (hot:Hot od s0.heap s.heap H e C) (hyg:Yg s0.heap od) (he:E (odV od) (some C) H) :
  (cxOf (CX1 P w) P w K mg base N qual scope f cd A outer s0 H0 E).xe (.ref e) s:=by
 show wpAny (model P w) _ (leaving _ (.ref e)) _ _ s
 unfold leaving
 refine wpAny_bind (lvI I rfl rfl (fun b o q=>?_) hot fun h' ch hch hin un hok hot'=>?_)
 ·exact Nat.lt_of_lt_of_le (Heap.lt_size q) I.sz
 ·have lo:∀ b o,s0.heap.get? b = some o→b ∉ ch:=fun b o q z=>by rw [(hch b z).1] at q; cases q
  have nL:∀ b o,s0.heap.get? b = some o→b ≠ s0.heap.objs.size:=fun b o q=>Nat.ne_of_lt (Heap.lt_size q)
  refine ⟨e,C,od,H,rfl,I.os,I.bare,⟨fun b o q n nf _=>?_,fun b o q n hb _=>?_,fun b o q n _=>I.base.free b o q n (fun z=>nomatch z),fun b o q _=>?_,I.base.tups,I.base.frzs,I.base.tbls⟩,hok,hot',hyg,he⟩
  ·refine un.keep b o (I.base.keep b o q n nf fun z=>nomatch z) (I.base.free b o q n fun z=>nomatch z) (fun z=>?_) (lo b o q)
   rcases List.mem_cons.mp z with z | z
   ·exact nL b o q z
   ·exact nf z
  ·obtain ⟨sl,q'⟩:=I.base.slot b o q n hb fun z=>nomatch z
   obtain ⟨sl',q''⟩:=un.slot b _ q' (I.base.free b o q n fun z=>nomatch z) (.tail _ hb) (lo b o q)
   exact ⟨sl',q''⟩
  ·obtain ⟨o',q'⟩:=I.base.there b o q fun z=>nomatch z
   exact un.there b o' q' (lo b o q)
end
abbrev bmV:List Value:=[.type "ValueError",.type "Exception",.type "BaseException",.type "object"]
theorem HOk.get {P:Program} {w:World} {H:Hp} {h:Heap} {a:Addr} {o:HO} (k:HOk P w H h) (e:H a = some o):∃ u,h.get? a = some u:=by
 have x:=k a o e
 cases o with
 | lst xs=>obtain ⟨_,_,_,_,e⟩:=x; exact ⟨_,e⟩
 | tup xs=>obtain ⟨_,_,_,ob,e,_⟩:=x; exact ⟨_,e⟩
 | dK kvs=>obtain ⟨_,_,_,_,o,_,_,e,_⟩:=x; exact ⟨_,e⟩
 | dT kvs=>obtain ⟨_,_,_,_,o,_,_,e,_⟩:=x; exact ⟨_,e⟩
 | set S n=>obtain ⟨o,_,_,_,e,_⟩:=x; exact ⟨_,e⟩
 | ins C dx fs=>obtain ⟨_,_,_,e,_⟩:=x; exact ⟨_,e⟩
 | own y=>exact x
 | xd fs=>obtain ⟨_,⟨_,_,_,e,_⟩,_⟩:=x; exact ⟨_,e⟩
 | rng lo hi=>obtain ⟨_,_,_,e⟩:=x; exact ⟨_,e⟩
 | frz ob u=>obtain ⟨e,_⟩:=x; exact ⟨_,e⟩
 | tbl ps=>exact ⟨_,x⟩
 | met f y=>exact ⟨_,x⟩
 | ext φ=>obtain ⟨_,e,_⟩:=x; exact e
theorem Inv.back0 {X:Cx} {pins:List (Addr × Obj)} {σ:St} {H:Hp} {s:Shared} (I:Inv X pins σ H s) (hx:X.ex = []) {b:Addr} (h:s.heap.get? b = none):X.s₀.heap.get? b = none:=by
 cases q:X.s₀.heap.get? b with
 | none=>rfl
 | some o =>
  obtain ⟨o',q'⟩:=I.base.there b o q (by rw [hx]; simp)
  rw [h] at q'; cases q'
def Fld (H:Hp):Option Str→Option Addr→V→Prop
 | none,od,v=>od = none∧v = .non
 | some f,od,v=>∃ dx,od = some dx∧H dx = some (.xd [(f,v)])
structure Tie (X:Cx) (C:Addr) (fn:Option Str) (R:VK):Prop where
 ex:X.ex = []
 run:∀ {pins:List (Addr × Obj)} {σ:St} {H:Hp} {s:Shared} {e:Addr} {od:Option Addr} {v:V},Inv X pins σ H s→Hot od X.s₀.heap s.heap H e C→Yg X.s₀.heap od→Fld H fn od v→R v H→X.xe (.ref e) s
def SPr (X:Cx) (pins:List (Addr × Obj)) (D:Ends) (f:Flow) (s':Shared):Prop :=
 match f with
 | .next=>∃ σ' H',Inv X pins σ' H' s'∧D.nx σ' H'
 | _=>False
def PSr (X:Cx) (R:VK) (st:Stmt) (t:TS):Prop :=
 ∀ (pins:List (Addr × Obj)) (s:Shared) (σ:St) (H:Hp) (D:Ends),D.rt = R→Inv X pins σ H s→t D σ H→wpAny (model X.prog X.w) X.A (exec st X.env) (SPr X pins D) X.xe s
def PSsr (X:Cx) (R:VK) (st:List Stmt) (t:TS):Prop :=
 ∀ (pins:List (Addr × Obj)) (s:Shared) (σ:St) (H:Hp) (D:Ends),D.rt = R→Inv X pins σ H s→t D σ H→wpAny (model X.prog X.w) X.A (execs st X.env) (SPr X pins D) X.xe s
def h1o (D:Ends):Ends:={ nx:=D.nx,rt:=fun _ _=>False,bk:=fun _ _=>False,ct:=fun _ _=>False }
section
variable {X:Cx} {R:VK} {C:Addr}
theorem o0a {st:Stmt} {t:TS} (h:PS X.nox st t) (ht:∀ D σ H,t D σ H→t (h1o D) σ H:=by intro _ _ _ h; exact h):PSr X R st t:=fun pins s σ H D _ I hw=>by
 refine wpAny_mono (h pins s σ H (h1o D) (I.wish _) (ht D σ H hw)) (fun f s' q=>?_) fun _ _ z=>False.elim z
 cases f with
 | next=>obtain ⟨σ',H',I',q⟩:=q; exact ⟨σ',H',I'.unwish,q⟩
 | brk=>obtain ⟨_,_,_,q⟩:=q; exact q
 | cont=>obtain ⟨_,_,_,q⟩:=q; exact q
 | ret u=>obtain ⟨_,_,_,_,_,q⟩:=q; exact q
theorem f0r:PSsr X R [] tNext:=fun _ _ σ H _ _ I h=>wpAny_execs_nil ⟨σ,H,I,h⟩
theorem b0z {st:Stmt} {rest:List Stmt} {t u:TS} (h1:PSr X R st t) (h2:PSsr X R rest u):PSsr X R (st :: rest) (tSeq t u):=by
 intro pins s σ H D e I h
 refine wpAny_execs_cons (thn (h1 pins s σ H { D with nx:=u D } e I h) fun f s1 q=>?_)
 cases f with
 | next =>
  obtain ⟨σ',H',I',q⟩:=q
  exact h2 pins s1 σ' H' D e I' q
 | ret v=>exact q
 | brk=>exact q
 | cont=>exact q
theorem n0z {st:List Stmt}:PSsr X R st tNever:=fun _ _ _ _ _ _ _ h=>h.elim
theorem a1d {c:Expr} {a b:List Stmt} {tc:TT} {t u:TS} {pos:Pos} (hc:PT X.nox c tc) (ha:PSsr X R a t) (hb:PSsr X R b u):PSr X R (.If c a b pos) (tIfS tc t u):=by
 intro pins s σ H D e I h
 refine wpAny_If (thn (hc.nox pins s σ H _ I h) fun d s1 ⟨H1,I1,q1⟩=>?_)
 cases d with
 | true=>exact ha pins s1 σ H1 D e I1 q1
 | false=>exact hb pins s1 σ H1 D e I1 q1
end
theorem PA.nox {X:Cx} {es:List Expr} {t:TA} (h:PA X.nox es t):PA X es t:=fun pos pins s σ H Q I hw =>
 wpAny_mono (h pos pins s σ H Q (I.wish _) hw) (fun _ _ ⟨xs,H',I',r,q⟩=>⟨xs,H',I'.unwish,r,q⟩) fun _ _ z=>False.elim z
def XW (E:XK) (C:Addr) (fn:Option Str):VK:=fun v H'=>∀ od,Fld H' fn od v→E (odV od) (some C) H'
def spX (C:Addr) (fn:Option Str) (sp:Sp):Sp:=fun vs H Q E=>sp vs H (XW E C fn) E
structure OkX (P:Program) (w:World) (K:PySem.W.Frag) (mg:Str→Option Value) (base:Heap) (k:Nat) (x:Str) (ps:List Str) (C:Addr) (fn:Option Str) (sp:Sp):Prop where
 ex:∃ f fd,mg x = some (.ref f)∧PySem.W.keepIn K (.ref f) = true∧n0s K fd ps []∧FnOk P w K mg base (CX1 P w) k f fd ps (spX C fn sp)
theorem OkX.mono {P:Program} {w:World} {K:PySem.W.Frag} {mg:Str→Option Value} {base:Heap} {x:Str} {ps:List Str} {C:Addr} {fn:Option Str} {j k:Nat} {sp:Sp} (F:OkX P w K mg base j x ps C fn sp) (h:j ≤ k):OkX P w K mg base k x ps C fn sp:=by
 obtain ⟨f,fd,hm,hk,hb,F⟩:=F.ex
 exact ⟨f,fd,hm,hk,hb,F.mono h⟩
section
variable {P:Program} {w:World} {K:PySem.W.Frag} {mg:Str→Option Value} {base:Heap} {N:List Str} {qual:Str} {scope:Scope} {f:Addr} {cd:Value} {A:Around} {outer:List Env} {s0:Shared} {H0:Hp} {E:XK} {C:Addr} {fn:Option Str} {od:Option Addr}
theorem tie1:Tie (cxOf (CX1 P w) P w K mg base N qual scope f cd A outer s0 H0 E) C fn (XW E C fn):=⟨rfl,fun I hot hy hf hr=>h1q I hot hy (hr _ hf)⟩
theorem Hot.older {h0 h1 h:Heap} {H:Hp} {e C:Addr} (q:Hot od h1 h H e C) (le:∀ b,h1.get? b = none→h0.get? b = none):Hot od h0 h H e C:=by
 obtain ⟨oe,vs,hv,a1,a2,a3,a4,a5,a6,a7,a8⟩:=q
 refine ⟨oe,vs,hv,a1,a2,a3,a4,a5,le _ a6,a7,?_⟩
 rcases a8 with z | ⟨T,oT,ts,b1,b2,b3,b4,b5,b6,b7⟩
 ·exact .inl z
 ·exact .inr ⟨T,oT,ts,b1,b2,b3,b4,b5,le _ b6,b7⟩
theorem m1u:n0j (CX1 P w) (cxOf (CX1 P w) P w K mg base N qual scope f cd A outer s0 H0 E) E:=by
 rintro pins σ H s e s' I ⟨a,C,od,H',rfl,os,bare,un,hok,hot,hy,he⟩
 exact h1q (I.call' os un hok bare fun b z=>nomatch z) (hot.older fun b q=>I.back0 rfl q) (fun dx q=>I.back0 rfl (hy dx q)) he
end
section
variable {X:Cx} {E:XK} {C:Addr} {fn:Option Str} {K:PySem.W.Frag} {S:ASp}
theorem e1o {k:Nat} {x:Str} {ps:List Str} {p cpos pos:Pos} {e:Expr} {es:List Expr} {t:TA} (F:OkX X.prog X.w X.K X.mg X.base k x ps C fn (spA K S)) (hr:Room k X.A) (hx:n0j (CX1 X.prog X.w) X E) (ha:PA X.nox (e :: es) t) (hg:Gl X x:=by rfl)
  (hdb:(x == ("__debug__" : Str)) = false:=by decide) (he:starEach (e :: es) X.env = (false,eval e X.env) :: starEach es X.env:=by rfl) (hpl:(backTo cpos (starEach es X.env)).any (·.1) = false:=by rfl)
  (hs:swapsWith (.Call (.Name x p) (e :: es) [] cpos) none pos.line X.env = pure false:=by rfl) :
  PSr X (XW E C fn) (.Expr (.Call (.Name x p) (e :: es) [] cpos) pos) (tRet (p0g (spA K S) [] E0 t)):=by
 obtain ⟨f,fd,hm,hk,hb,F⟩:=F.ex
 intro pins s σ H D e1 I h
 have pe:=t0r (p:=p) (sp:=spX C fn (spA K S)) (E:=E) F hr hg hm hk hb .nil hx ha.nox hdb he hpl
 have h':p0g (spX C fn (spA K S)) [] E t σ H fun _ _=>False:=by
  have h2:t σ H fun vs H1=>spA K S (vs ++ []) H1 D.rt E0:=h
  rw [e1] at h2
  exact h2
 exact wpAny_Expr_any (thn (pe pins s σ H _ I h') fun v s1 ⟨_,_,_,_,q1⟩=>q1.elim) I.quiet hs
theorem j1b {R:VK} {body:List Stmt} {t:TS} (h:PSsr X R body t):PSs X body (fun _ σ H=>∃ D0:Ends,D0.rt = R∧(∀ σ H,¬ D0.nx σ H)∧t D0 σ H):=by
 rintro pins s σ H D I ⟨D0,e,no,ht⟩
 refine thn (h pins s σ H D0 e I ht) fun fl s' q=>?_
 cases fl with
 | next=>obtain ⟨σ',H',_,q⟩:=q; exact (no _ _ q).elim
 | ret v=>exact False.elim q
 | brk=>exact False.elim q
 | cont=>exact False.elim q
end
theorem DefN.aokX {P:Program} {w:World} {K:PySem.W.Frag} {mg:Str→Option Value} {base:Heap} {x:Str} {st:Stmt} {N ps:List Str} {k:Nat} {a:AS} (D:DefN K mg x st ps) (Sc:b0a N ps (a0l st)) (pr:Nat→Bool) (us:En) (S:ASp) (C:Addr) (fn:Option Str) (hus:List.replicate (N.length - ps.length) Sv.un = us)
  (hbody:∀ (f:Addr) (cdv:Value) (A:Around) (outer:List Env) (s:Shared) (H:Hp) (E:XK),Room k (A.deeper (envOfC x (a0l st) s.heap.objs.size f cdv)) →
   ∃ t,PSsr (cxOf (CX1 P w) P w K mg base N x (a0l st) f cdv A outer s H E) (XW E C fn) (d0k st) t∧TSok K pr t a)
  (hS:∀ ss q,S ss q→ss.length = ps.length∧ownB pr ss 0 = true∧a ⟨fun _=>False,fun r ρ=>(∃ d,r = .d d)∧q r (outS ss ρ),fun _=>False,fun _=>False⟩ (ss ++ us)):OkX P w K mg base (k + 1) x ps C fn (spA K S):=by
 have lenOk:∀ vs H Q E,spX C fn (spA K S) vs H Q E→vs.length = ps.length:=fun vs H Q E h=>by
  obtain ⟨ss,Z,q,r,hs',_⟩:=h
  have:=r.len
  rw [List.length_map] at this
  rw [this]; exact (hS ss q hs').1
 obtain ⟨f,fd,hm,F,hb⟩:=D.ex
 refine ⟨f,fd,hm,F.kp,.all hb,?_⟩
 obtain ⟨oc,od,kV,doc,pm,an,cdv,ct,osl,rfl,lk,hcd⟩:=F.ex
 refine o1b lk hcd Sc lenOk fun A outer s H vs Q E hr h=>?_
 have hl:=lenOk _ _ _ _ h
 obtain ⟨ss,Z,q,r0,hs',post⟩:=h
 obtain ⟨h1,h2,h3⟩:=hS ss q hs'
 obtain ⟨t,ht,tok⟩:=hbody f cdv A outer s H E hr
 refine ⟨_,j1b ht,{ nx:=fun _ _=>False,rt:=XW E C fn,bk:=fun _ _=>False,ct:=fun _ _=>False },rfl,fun _ _ z=>z,?_⟩
 have hp:∀ i a,(F0 vs ss H Z).pin i a→pr i = true:=fun i a h=>by
  rcases h with h | h
  ·have:=t0t h2 i h.1; rwa [Nat.zero_add] at this
  ·exact h.elim
 unfold m0h
 rw [hl]
 rw [← hus] at h3
 refine tok (F0 vs ss H Z) _ _ H _ _ hp (r0.ext _) h3 ⟨fun _ _ _ z=>z.elim,fun _ _ _ z=>z.elim,fun _ _ _ z=>z.elim,fun σ' ρ' rr v H' hq r=>?_⟩
 obtain ⟨⟨d,e⟩,hq⟩:=hq
 subst e
 obtain ⟨r1,r2⟩:=r
 obtain ⟨o1,o2,o3⟩:=r0.out r1
 exact post (.d d) _ v H' hq o3 (fun i z=>nomatch z) ⟨o1,r2.same o2⟩
section
variable {X:Cx} {pins:List (Addr × Obj)} {σ σ1:St} {H H1:Hp} {s s1:Shared} {h':Heap} {ch:List Addr} {e C:Addr}
theorem Inv.hot (I1:Inv X pins σ1 H1 s1) (I:Inv X pins σ H s) (hx:X.ex = []) (un:Un (frs X.stack) ch H H s.heap h') (hok:HOk X.prog X.w H h') (hch:∀ b ∈ ch,s1.heap.get? b = none):Inv X pins σ H { s with heap:=h' }:=by
 have n0:∀ b o,X.s₀.heap.get? b = some o→b ∉ ch:=fun b o q z=>by
  obtain ⟨o',q'⟩:=I1.base.there b o q (by rw [hx]; simp)
  rw [hch b z] at q'; cases q'
 have nf:∀ b o,X.s₀.heap.get? b = some o→b ∉ X.fs→b ∉ frs X.stack:=fun b o q n z=>by
  rcases List.mem_cons.mp (I.stkSub b z) with z | z
  ·exact absurd (Nat.lt_of_lt_of_le (Heap.lt_size q) I.ok.above) (by rw [z]; exact Nat.lt_irrefl _)
  ·exact n z
 have nx:∀ b,b ∉ X.ex:=fun b=>by rw [hx]; simp
 obtain ⟨m,⟨o,es,ep,ho,r⟩,hl⟩:=id I.loc
 have nL:X.env.locals ∉ ch:=fun z=>by
  obtain ⟨m1,⟨o1,_,_,ho1,_⟩,_⟩:=id I1.loc
  rw [hch _ z] at ho1; cases ho1
 have nC:∀ x c,X.env.cells.lookup x = some c→c ∉ ch:=fun x c q z=>by
  obtain ⟨v,o1,ho1,_⟩:=I1.cell x c q
  rw [hch _ z] at ho1; cases ho1
 have cell:∀ {x c v},X.env.cells.lookup x = some c→s.heap.IsCell c v→Heap.IsCell h' c v:=fun {x c v} q ⟨oc,hoc,hd⟩=>by
  obtain ⟨sl,q'⟩:=un.any hoc (I.freeC x c q) (nC x c q)
  exact ⟨_,q',hd⟩
 obtain ⟨sl,hL⟩:=un.any ho I.free nL
 refine ⟨I.ok,I.os,I.bare,⟨fun b o q n f _=>?_,fun b o q n f _=>?_,fun b o q n _=>I.base.free b o q n (nx b),fun b o q _=>?_,I.base.tups,I.base.frzs,I.base.tbls⟩,⟨m,⟨_,es,ep,hL,r⟩,fun i x v a1 a2 a3=>?_⟩,fun x c q=>?_,I.free,I.freeC,fun p hp=>?_,hok,I.len⟩
 ·exact un.keep b o (I.base.keep b o q n f (nx b)) (I.base.free b o q n (nx b)) (nf b o q f) (n0 b o q)
 ·obtain ⟨sl1,q1⟩:=I.base.slot b o q n f (nx b)
  obtain ⟨sl2,q2⟩:=un.any q1 (I.base.free b o q n (nx b)) (n0 b o q)
  exact ⟨sl2,q2⟩
 ·obtain ⟨o',q'⟩:=I.base.there b o q (nx b)
  exact un.there b o' q' (n0 b o q)
 ·obtain ⟨u,ru,lk⟩:=hl i x v a1 a2 a3
  refine ⟨u,ru,?_⟩
  rcases lk with z | ⟨z1,c,z2,z3⟩
  ·exact .inl z
  ·exact .inr ⟨z1,c,z2,cell z2 z3⟩
 ·obtain ⟨v,hv⟩:=I.cell x c q
  exact ⟨v,cell q hv⟩
 ·obtain ⟨p1,p2,p3,p4,p5⟩:=I.pin p hp
  refine ⟨un.keep _ _ p1 p2 (fun z=>?_) (fun z=>?_),p2,p3,p4,p5⟩
  ·rcases List.mem_cons.mp (I.stkSub _ z) with z | z
   ·exact p3 z
   ·exact p4 z
  ·have:=(I1.pin p hp).1
   rw [hch _ z] at this; cases this
theorem sfI {A:Around} {E:Value→Shared→Prop} {Q:Unit→Shared→Prop} {h0:Heap} {od:Option Addr} (I:Inv X pins σ H s) (hot:Hot od h0 s.heap H e C)
  (fin:∀ h' ch,(∀ b ∈ ch,h0.get? b = none)→Un (frs X.stack) ch H H s.heap h'→HOk X.prog X.w H h'→(∃ oe vs,h'.get? e = some oe∧oe.cls = .ref C∧oe.dict = od∧oe.data = .fields vs)→Q () { s with heap:=h' }) :
  wpAny (model X.prog X.w) A (setFlight (.ref e) none) Q E s:=by
 obtain ⟨oe,vs,hv,ge,gc,gd,gf,g1,ye,ue,hh⟩:=hot
 unfold setFlight
 refine wpAny_bind (wpAny_field ge gf g1 ?_)
 rcases hh with rfl | ⟨T,oT,ts,rfl,nT,gT,fT,t3,yT,uT⟩
 ·rw [if_neg (by decide)]
  exact wpAny_pure (fin s.heap [] (fun _ z=>nomatch z) (.kept fun _ _ q=>q) I.hok ⟨oe,vs,ge,gc,gd,gf⟩)
 ·rw [if_pos (by simp:(Value.ref T != Value.none) = true)]
  refine wpAny_setField gT fT (Array.getElem?_eq_some_iff.mp t3).1 ?_
  have ot:∀ b,b ≠ T→(s.heap.update T (Obj.mapFields fun a=>a.setIfInBounds 3 ((none:Option Addr).elim Value.none fun f=>rawInt f))).get? b = s.heap.get? b:=fun b q=>Heap.get?_update_other _ _ (Ne.symm q)
  have nin:∀ b,b ∉ [T]→b ≠ T:=fun b q z=>q (by rw [z]; exact .head _)
  refine fin _ [T] (fun b z=>by rw [List.mem_singleton.mp z]; exact yT) ⟨fun b o q _ _ n=>(ot b (nin b n)).trans q,fun b o q _ _ n=>⟨o.slots,(ot b (nin b n)).trans q⟩,fun _ _ _ n _=>n,fun b o q n=>⟨o,(ot b (nin b n)).trans q⟩,fun _ _ q=>q,fun _ _ _ q=>q,fun b ps q=>⟨#[],by rw [q]; simp⟩⟩ (fun a o q=>?_) ⟨oe,vs,(ot e nT.symm).trans ge,gc,gd,gf⟩
  refine (I.hok a o q).stay (fun b u hb z=>(ot b fun w=>?_).trans z) (fun _ z=>z) fun _ _ z=>z
  subst w
  rcases hb with hb | hb
  ·rw [← hb,uT] at q; cases q
  ·rw [uT] at hb; cases hb
def hcx (X:Cx) (pins:List (Addr × Obj)) (e:Addr) (oe:Obj):Cx:={ X with A:=X.A.mark (some (.ref e)),calm:=false,pn:=X.pn ++ pins ++ [(e,oe)],xe:=fun _ _=>False }
theorem Inv.hcx {oe:Obj} (I:Inv X pins σ H s) (ge:s.heap.get? e = some oe) (ue:H e = none) (nL:e ≠ X.env.locals) (nf:e ∉ X.fs) (nc:∀ v,oe.data ≠ .cell v):Inv (hcx X pins e oe) [] σ H s:=by
 refine ⟨⟨I.ok.mod,I.ok.kind,I.ok.glob,I.ok.blt,I.ok.above,I.ok.inj,I.ok.has,I.ok.cab,fun z=>(nomatch z),I.ok.frames,I.ok.stk,I.ok.exf,I.ok.bs,I.ok.bsz,I.ok.noex,I.ok.exfs,I.ok.funs,I.ok.frf⟩,I.os,I.bare,I.base,I.loc,I.cell,I.free,I.freeC,fun p hp=>?_,I.hok,I.len⟩
 have hp':p ∈ X.pn ++ pins ∨ p = (e,oe):=by
  have:p ∈ (X.pn ++ pins ++ [(e,oe)]) ++ []:=hp
  simpa [or_assoc] using this
 rcases hp' with z | rfl
 ·exact I.pin p z
 ·exact ⟨ge,ue,nL,nf,nc⟩
theorem Inv.forget {oe:Obj} {m':Str→Option Value} {t':Nat} (I:Inv (L2.hcx X pins e oe) [] σ H s) (sb:Heap.SameBut X.env.locals s.heap h') (hn:h'.Ns X.env.locals m') (hd:X.calm = true→X.A.handled = none) (hfm:X.A.frames = some X.stack):Inv X pins (List.replicate X.N.length none) H { s with heap:=h',toks:=t' }:=by
 have kp:∀ b o,b ≠ X.env.locals→s.heap.get? b = some o→h'.get? b = some o:=fun b o n q=>(sb.2 b n).trans q
 have n0:∀ b o,X.s₀.heap.get? b = some o→b ≠ X.env.locals:=fun b o q=>Nat.ne_of_lt (Nat.lt_of_lt_of_le (Heap.lt_size q) I.ok.above)
 have cl:∀ x c,X.env.cells.lookup x = some c→c ≠ X.env.locals:=fun x c q z=>by
  obtain ⟨v,oc,hoc,hdc⟩:=I.cell x c q
  obtain ⟨m,⟨o,es,ep,ho,hdo,_⟩,_⟩:=id I.loc
  rw [z] at hoc
  cases hoc.symm.trans (show s.heap.get? X.env.locals = some o from ho)
  rw [hdc] at hdo; cases hdo
 refine ⟨⟨I.ok.mod,I.ok.kind,I.ok.glob,I.ok.blt,I.ok.above,I.ok.inj,I.ok.has,I.ok.cab,hd,hfm,I.ok.stk,I.ok.exf,I.ok.bs,I.ok.bsz,I.ok.noex,I.ok.exfs,I.ok.funs,I.ok.frf⟩,I.os,I.bare,⟨fun b o q n f x=>kp b o (n0 b o q) (I.base.keep b o q n f x),fun b o q n f x=>?_,I.base.free,fun b o q x=>?_,I.base.tups,I.base.frzs,I.base.tbls⟩,⟨m',hn,fun i x v _ a2 _=>?_⟩,fun x c q=>?_,I.free,I.freeC,fun p hp=>?_,fun a o q=>?_,List.length_replicate⟩
 ·obtain ⟨sl,q'⟩:=I.base.slot b o q n f x
  exact ⟨sl,kp b _ (n0 b o q) q'⟩
 ·obtain ⟨o',q'⟩:=I.base.there b o q x
  exact ⟨o',kp b o' (n0 b o q) q'⟩
 ·rw [List.getElem?_replicate] at a2
  split at a2 <;> cases a2
 ·obtain ⟨v,oc,hoc,hdc⟩:=I.cell x c q
  exact ⟨v,oc,kp c oc (cl x c q) hoc,hdc⟩
 ·have hp':p ∈ (X.pn ++ pins ++ [(e,oe)]) ++ []:=by rw [List.append_nil]; exact List.mem_append_left _ hp
  obtain ⟨p1,p2,p3,p4,p5⟩:=I.pin p hp'
  exact ⟨kp _ _ p3 p1,p2,p3,p4,p5⟩
 ·refine (I.hok a o q).stay (fun b u hb z=>kp b u (fun w=>?_) z) (fun _ z=>z) fun _ _ z=>z
  have fr:H b = none:=by rw [w]; exact I.free
  rcases hb with hb | hb
  ·rw [← hb,fr] at q; cases q
  ·rw [fr] at hb; cases hb
end
def d1r (X:Cx) (body:List Stmt) (c:Expr):Prop:=∀ (Q:Flow→Shared→Prop) (E:Value→Shared→Prop) (pins:List (Addr × Obj)) (σ:St) (H:Hp) (s:Shared),Inv X pins σ H s→wpAny (model X.prog X.w) X.A (eval c X.env) (fun _ _=>False) E s→wpAny (model X.prog X.w) X.A (execs body X.env) Q E s
section
variable {X:Cx} {K:PySem.W.Frag} {S:ASp}
theorem j1f {body:List Stmt} {t:TS} {h0:ExceptHandler} {hs:List ExceptHandler} {pos:Pos} (h:PSs X.nox body t):PS X (.Try body (h0 :: hs) [] [] pos) t:=by
 intro pins s σ H D I ht
 refine wpAny_Try_except (wpAny_mono (h pins s σ H D (I.wish _) ht) (fun f s1 q=>?_) fun _ _ z=>False.elim z)
 have q':=SP.unwish q
 cases f with
 | next=>exact wpAny_execs_nil q'
 | ret v=>exact q'
 | brk=>exact q'
 | cont=>exact q'
theorem p1n {st:Stmt} {t u:TS} (h1:PS X st t) (h2:PS X st u):PS X st (fun D σ H=>t D σ H ∨ u D σ H):=fun pins s σ H D I h=>h.elim (h1 pins s σ H D I) (h2 pins s σ H D I)
end
end L2
namespace L2
open PySem PySem.Spec PyProof.Rows PySem.W
section
variable {prog:Program} {w:World} {A:Around} {E:Value→Shared→Prop} {s:Shared} {K:PySem.W.Frag} {x D:Addr} {ox:Obj} {odo:Option Obj}
theorem c1g {Q:Option Value→Shared→Prop} (KX:K.In s.heap) (I:PySem.W.InstAt s.heap x ox D odo) (hga:findIn K (.ref D) "__getattribute__" = some (some (.builtin "BaseException.__getattribute__"))) (hgn:findIn K (.ref D) "__getattr__" = some none)
  (hf:findObj K D odo "__class__" = some (.bind (.builtin "getset_descriptor.__get__") (.builtin "object.__class__"))) (hm:mroIn K D (.type "object") = some true) (hb:subIn K (.ref D) (.type "BaseException") = some true)
  (h:Q (some (.ref D)) { s with toks:=s.toks + 1 }):wpAny (model prog w) A (getAttr? (.ref x) "__class__") Q E s:=by
 obtain ⟨hh,g,d,t,os⟩:=s
 have L0:=I.type (M:=model prog w)
 have L1:=looks_findIn (M:=model prog w) KX hga
 have L2:=looks_findIn (M:=model prog w) KX hgn
 have L3:=looks_find (M:=model prog w) KX I hf
 have L4:=looks_subIn (M:=model prog w) KX hb
 have f3:=PySem.F.excAttr_ValueError.ga.bind (.ref x)
 have hk:builtinKind "BaseException.__getattribute__" = some .slot:=by decide +kernel
 have hsp:splitId "BaseException.__getattribute__" = some ("BaseException", "__getattribute__"):=by decide +kernel
 have ha:=PySem.F.args_bexc_ga (.ref x) (.str "__class__" t)
 unfold getAttr? getAttrBy? getAttrBy
 refine wpAny_bind (wpAny_mkText (wpAny_bind (wpAny_attempt (wpAny_holding (wpAny_bind (L0.at (wpAny_bind (L1.at ?_))))))))
 show wpAny _ _ (getAttrByItsOwn _ _ _ _ _ _) _ _ _
 unfold getAttrByItsOwn
 repeat (any_goals (first | assumption | with_reducible refine L0.at ?_ | with_reducible refine L1.at ?_ | with_reducible refine L2.at ?_ | wp_step))
 refine codeAny_call_builtin PySem.F.excAttr_ValueError.ga.plain PySem.F.entry_bexc_ga ?_
 simp only [checkBuiltinCall,hk,hsp]
 refine wpAny_bind ?_
 unfold isInstance
 repeat (any_goals (first | assumption | with_reducible refine L0.at ?_ | with_reducible refine L4.at ?_ | with_reducible refine L3.at ?_ | wp_step))
 refine class_get (s:=⟨hh,g,d,t + 1,os⟩) (ox:=ox) (od:=odo) KX I hm ?_
 show wpAny _ _ (ret (.ref D)) _ _ _
 refine wpAny_pure ?_
 exact handed_on rfl (wpAny_pure h)
end
structure ExIs (K:PySem.W.Frag) (C:Addr):Prop where
 ga:findIn K (.ref C) "__getattribute__" = some (some (.builtin "BaseException.__getattribute__"))
 gn:findIn K (.ref C) "__getattr__" = some none
 cl:∀ od,findObj K C od "__class__" = some (.bind (.builtin "getset_descriptor.__get__") (.builtin "object.__class__"))
 mo:mroIn K C (.type "object") = some true
 be:subIn K (.ref C) (.type "BaseException") = some true
 is:(clsIn K C).isSome = true
theorem ExIs.of {K:PySem.W.Frag} {C:Addr} (ga:findIn K (.ref C) "__getattribute__" = some (some (.builtin "BaseException.__getattribute__"))) (gn:findIn K (.ref C) "__getattr__" = some none) (hc:hasDictIn K C = true) (ha:findIn K (.ref C) "__class__" = some (some (.builtin "object.__class__")))
  (hn:specialIn K (.builtin "object.__class__") "__get__" = some (some (.builtin "getset_descriptor.__get__"))) (ht:takesIn K (.builtin "object.__class__") = some true) (mo:mroIn K C (.type "object") = some true) (be:subIn K (.ref C) (.type "BaseException") = some true):ExIs K C:=by
 obtain ⟨cd,hcd,_⟩:=any_some hc
 refine ⟨ga,gn,fun od=>?_,mo,be,by rw [hcd]; rfl⟩
 unfold findObj
 rw [hcd,Option.bind_some,ha,Option.bind_some]
 simp only [hn,ht,Option.bind_some]
theorem f1d {K:PySem.W.Frag} {a C:Addr} {oe:Obj} {odo:Option Obj} (q:ExIs K C):KitX K (.ref a) (.ref C) (fun h=>PySem.W.InstAt h a oe C odo) where
 ty:=fun _ _ _ I=>I.type
 it:=fun _ _ KX _=>by
  have z:=q.is
  unfold clsIn at z
  split at z
  next lk =>
   intro A' Q' E' s' k w
   unfold isType loadHead
   exact wpAny_bind (wpAny_loadPart (k _ _ (KX _ _ lk)) (wpAny_pure w))
  ·cases z
 ne:=fun h tp dd its n sl KX g=>Bool.eq_false_iff.mpr fun e=>by
  have e':C = tp:=Value.ref.inj (beq_iff_eq.mp e)
  subst e'
  have z:=q.is
  unfold clsIn at z
  split at z
  next lk=>cases (KX _ _ lk).symm.trans g
  ·cases z
 ca:=fun KX I k=>c1g KX I q.ga q.gn (q.cl _) q.mo q.be k
section
variable {K:PySem.W.Frag} {pr:Nat→Bool} {t u:TS} {a b:AS} {S:ASp} {ts:TA} {as:AA} {th:Addr→TS} {ah:AS} {i:Nat}
def aOr2 (a b:AS):AS:=fun k ρ=>a k ρ ∨ b k ρ
theorem g1z (h1:TSok K pr t a) (h2:TSok K pr u b):TSok K pr (fun D σ H=>t D σ H ∨ u D σ H) (aOr2 a b):=fun F σ ρ H D e hp r ha k=>ha.elim (fun z=>.inl (h1 F σ ρ H D e hp r z k)) fun z=>.inr (h2 F σ ρ H D e hp r z k)
end
section
variable {X:Cx} {pins:List (Addr × Obj)} {σ σ1:St} {H H1:Hp} {s s1:Shared} {h':Heap} {e C:Addr}
def mcx (X:Cx) (e:Addr):Cx:={ X with A:=X.A.mark (some (.ref e)),calm:=false,xe:=fun _ _=>False }
theorem Inv.mcx (I:Inv X pins σ H s) (e:Addr):Inv (mcx X e) pins σ H s :=
 ⟨⟨I.ok.mod,I.ok.kind,I.ok.glob,I.ok.blt,I.ok.above,I.ok.inj,I.ok.has,I.ok.cab,fun z=>(nomatch z),I.ok.frames,I.ok.stk,I.ok.exf,I.ok.bs,I.ok.bsz,I.ok.noex,I.ok.exfs,I.ok.funs,I.ok.frf⟩,I.os,I.bare,I.base,I.loc,I.cell,I.free,I.freeC,I.pin,I.hok,I.len⟩
theorem Inv.trackX {od:Option Addr} (I1:Inv X pins σ1 H1 s1) (I:Inv X pins σ H s) (hex:X.ex = []) (ue:H e = none) (y:s1.heap.get? e = none) (hp:exP e C od s.heap):Inv X pins σ (upd H e (.ext (exP e C od))) s:=by
 obtain ⟨oe,vs,ge,gc,gd,gf⟩:=id hp
 have y0:=I1.back0 hex y
 have ne:∀ {b:Addr} {o:HO},H b = some o→b ≠ e:=fun z w=>by rw [w,ue] at z; cases z
 have n0:∀ b o,X.s₀.heap.get? b = some o→b ≠ e:=fun b o q z=>by rw [z,y0] at q; cases q
 have nL:X.env.locals ≠ e:=fun z=>by
  obtain ⟨m1,⟨o1,_,_,ho1,_⟩,_⟩:=id I1.loc
  rw [z,y] at ho1; cases ho1
 have nC:∀ x c,X.env.cells.lookup x = some c→c ≠ e:=fun x c q z=>by
  obtain ⟨v,o1,ho1,_⟩:=I1.cell x c q
  rw [z,y] at ho1; cases ho1
 refine ⟨I.ok,I.os,I.bare,⟨I.base.keep,I.base.slot,fun b o q n x=>?_,I.base.there,fun b xs q=>?_,fun b o u q=>?_,fun b ps q=>?_⟩,I.loc,I.cell,?_,fun x c q=>?_,fun p hp'=>?_,fun a o q=>?_,I.len⟩
 ·rw [a0o (n0 b o q)]; exact I.base.free b o q n x
 ·have:=I.base.tups b xs q
  rw [a0o (ne this)]; exact this
 ·have:=I.base.frzs b o u q
  rw [a0o (ne this)]; exact this
 ·obtain ⟨more,this⟩:=I.base.tbls b ps q
  exact ⟨more,by rw [a0o (ne this)]; exact this⟩
 ·rw [a0o nL]; exact I.free
 ·rw [a0o (nC x c q)]; exact I.freeC x c q
 ·obtain ⟨p1,p2,p3,p4,p5⟩:=I.pin p hp'
  refine ⟨p1,?_,p3,p4,p5⟩
  rw [a0o fun z=>?_]
  ·exact p2
  ·have:=(I1.pin p hp').1
   rw [z,y] at this; cases this
 ·by_cases z:a = e
  ·subst z
   rw [b0g] at q
   cases q
   exact ⟨hp,⟨oe,ge⟩,fun h1 h2 ⟨oe,vs,g1,g2,g3,g4⟩ k=>⟨oe,vs,k _ g1,g2,g3,g4⟩⟩
  ·rw [a0o z] at q
   exact (I.hok a o q).stay (fun _ _ _ w=>w) (fun b w=>by rw [a0o (ne w)]; exact w) fun b xs w=>by rw [a0o (ne w)]; exact w
theorem Inv.goes {m:Str→Option Value} {v:Option Value} {n:Str} {i:Nat} {t':Nat} (I:Inv (L2.mcx X e) pins σ H s) (ok:X.Ok) (hN:X.N.Nodup) (hi:X.N[i]? = some n) (hm:∀ (i:Nat) (x:Str) (v:V),X.N[i]? = some x→σ[i]? = some (some v)→Vis X.env.scope x→∃ u,RelV v u∧Look X.env s.heap m x u) (sb:Heap.SameBut X.env.locals s.heap h') (hn:h'.Ns X.env.locals (fun x=>if x = n then v else m x)) :
  Inv X pins (σ.set i none) H { s with heap:=h',toks:=t' }:=by
 have kp:∀ b o,b ≠ X.env.locals→s.heap.get? b = some o→h'.get? b = some o:=fun b o n q=>(sb.2 b n).trans q
 have n0:∀ b o,X.s₀.heap.get? b = some o→b ≠ X.env.locals:=fun b o q=>Nat.ne_of_lt (Nat.lt_of_lt_of_le (Heap.lt_size q) I.ok.above)
 have cl:∀ x c,X.env.cells.lookup x = some c→c ≠ X.env.locals:=fun x c q z=>by
  obtain ⟨v,oc,hoc,hdc⟩:=I.cell x c q
  obtain ⟨m,⟨o,es,ep,ho,hdo,_⟩,_⟩:=id I.loc
  rw [z] at hoc
  cases hoc.symm.trans (show s.heap.get? X.env.locals = some o from ho)
  rw [hdc] at hdo; cases hdo
 refine ⟨ok,I.os,I.bare,⟨fun b o q n f x=>kp b o (n0 b o q) (I.base.keep b o q n f x),fun b o q n f x=>?_,I.base.free,fun b o q x=>?_,I.base.tups,I.base.frzs,I.base.tbls⟩,⟨_,hn,fun j x v' a1 a2 a3=>?_⟩,fun x c q=>?_,I.free,I.freeC,fun p hp=>?_,fun a o q=>?_,by rw [List.length_set]; exact I.len⟩
 ·obtain ⟨sl,q'⟩:=I.base.slot b o q n f x
  exact ⟨sl,kp b _ (n0 b o q) q'⟩
 ·obtain ⟨o',q'⟩:=I.base.there b o q x
  exact ⟨o',kp b o' (n0 b o q) q'⟩
 ·have ij:i ≠ j:=fun z=>by
   subst z
   have:i < σ.length:=by rw [I.len]; exact (List.getElem?_eq_some_iff.mp hi).1
   rw [List.getElem?_set_self this] at a2; cases a2
  rw [List.getElem?_set_ne ij] at a2
  obtain ⟨u,ru,lk⟩:=hm j x v' a1 a2 a3
  refine ⟨u,ru,?_⟩
  have xn:x ≠ n:=fun z=>by
   subst z
   have l1:=(List.getElem?_eq_some_iff.mp hi).1
   have:=(List.getElem?_inj l1 hN).mp (hi.trans a1.symm)
   exact ij this
  rcases lk with ⟨z1,z2⟩ | ⟨z1,c,z2,oc,z3,z4⟩
  ·exact .inl ⟨z1,by show (if x = n then v else m x) = some u; rw [if_neg xn]; exact z2⟩
  ·exact .inr ⟨z1,c,z2,oc,kp c oc (cl x c z2) z3,z4⟩
 ·obtain ⟨v,oc,hoc,hdc⟩:=I.cell x c q
  exact ⟨v,oc,kp c oc (cl x c q) hoc,hdc⟩
 ·obtain ⟨p1,p2,p3,p4,p5⟩:=I.pin p hp
  exact ⟨kp _ _ p3 p1,p2,p3,p4,p5⟩
 ·refine (I.hok a o q).stay (fun b u hb z=>kp b u (fun w=>?_) z) (fun _ z=>z) fun _ _ z=>z
  have fr:H b = none:=by rw [w]; exact I.free
  rcases hb with hb | hb
  ·rw [← hb,fr] at q; cases q
  ·rw [fr] at hb; cases hb
end
structure ECls (C:Addr) (h:Heap):Prop where
 obj:∃ bm N nm q bs hdct sn sub ab col dd k0 k1 k2 k3 k5,h.get? C = some (excClassObj nm q C N bs bm hdct sn sub ab col dd k0 k1 k2 k3 k5 "ValueError.__new__")∧OwnTail h bmV bm
def i0w (K:PySem.W.Frag) (C:Addr):Bool:=match K.lookup C with
 | some ⟨.type "type",_,.cls cd,sl⟩=>(match cd.mro,sl.toList with
  | .ref C' :: bm,[_,_,_,_,some (.builtin n),_]=>C' == C && n == "ValueError.__new__" && !cd.hasDel && PySem.W.tailIn K bmV bm
  | _,_=>false)
 | _=>false
theorem ecls {K:PySem.W.Frag} {h:Heap} {C:Addr} (KX:K.In h) (q:i0w K C = true):ECls C h:=by
 unfold i0w at q
 split at q
 next dd cd sl lk =>
  split at q
  next C' bm k0 k1 k2 k3 n k5 em es =>
   simp only [Bool.and_eq_true,beq_iff_eq,Bool.not_eq_true'] at q
   obtain ⟨⟨⟨rfl,rfl⟩,nd⟩,tl⟩:=q
   obtain ⟨a1,a2,a3,a4,a5,a6,a7,a8,a9,a10,a11⟩:=cd
   obtain ⟨l⟩:=sl
   dsimp only at em nd es
   subst em nd es
   exact ⟨bm,a4,a1,a5,a2,a6,a7,a8,a9,a10,dd,k0,k1,k2,k3,k5,KX _ _ lk,PySem.W.tail_of_in KX tl⟩
  ·cases q
 ·cases q
theorem c1i {M:Model} {A:Around} {E:Value→Shared→Prop} {h:Heap} {g:Array GenState} {d:Drawn} {t:Nat} {os:OsState} {e C Dc:Addr} {oe:Obj} {Q:Bool→Shared→Prop} {b:Bool}
  (oD:ECls Dc h) (ge:h.get? e = some oe) (gc:oe.cls = .ref C) (hs:∀ (A':Around) (E':Value→Shared→Prop) (Q':Bool→Shared→Prop),Q' b ⟨h,g,d,t,os⟩→wpAny M A' (isSubtype (.ref C) (.ref Dc)) Q' E' ⟨h,g,d,t,os⟩)
  (hq:Q b ⟨h,g,d,t,os⟩):wpAny M A (excMatches (.ref e) (.ref Dc)) Q E ⟨h,g,d,t,os⟩:=by
 obtain ⟨b2,N2,m2,q2,s2,c2,n2,u2,a2,l2,d2,k20,k21,k22,k23,k25,hD,T2⟩:=oD.obj
 have hB:(Value.ref Dc :: b2).contains (.type "BaseException") = true:=by rw [List.contains_cons,T2.hasType (b:=true) (by decide +kernel),Bool.or_true]
 have f:=tc_notTuple
 unfold excMatches
 repeat (first | (with_reducible refine wpAny_loadPart_at ge ?_; rw [gc]) | with_reducible refine wpAny_loadPart_at hD ?_ | (with_reducible refine wpAny_isSubtype_exc hD ?_; rw [hB]) | wp_step)
 refine hs _ _ _ ?_
 cases b with
 | true =>
  repeat wp_step
  exact hq
 | false =>
  repeat wp_step
  exact hq
def goE (i:Nat) (D:Ends):Ends:={ nx:=fun σ H=>D.nx (σ.set i none) H,rt:=D.rt,bk:=fun σ H=>D.bk (σ.set i none) H,ct:=fun σ H=>D.ct (σ.set i none) H }
section
variable {X:Cx} {K:PySem.W.Frag} {S:ASp}
def HB (X:Cx) (C:Addr) (od:Option Addr) (hs:List ExceptHandler) (tH:Addr→TS):Prop :=
 ∀ (a:Addr) (D:Ends) (pins:List (Addr × Obj)) (σ:St) (H1 H2:Hp) (s1 s3:Shared),Inv X pins σ H1 s1→Inv X pins σ H2 s3→Hot od s1.heap s3.heap H2 a C→tH a D σ H2 →
  wpAny (model X.prog X.w) X.A (handleBy (.ref a) X.env hs) (SP X pins D) X.xe s3
def g1w (C:Addr) (i:Nat) (od:Option Addr) (th:TS):Addr→TS:=fun a D σ H=>th (goE i D) (σ.set i (some (.ref a))) (upd H a (.ext (exP a C od)))
theorem n1w {i:Nat} {y n:Str} {C Dc:Addr} {od:Option Addr} {np hpos:Pos} {suite:List Stmt} {b0:Stmt} {rest:List ExceptHandler} {th:TS}
  (hex:X.ex = []) (hy:X.mg y = some (.ref Dc)) (q2:i0w X.K Dc = true) (q3:PySem.W.subIn X.K (.ref C) (.ref Dc) = some true)
  (hN:X.N.Nodup) (hi:X.N[i]? = some n) (hloc:X.env.scope.names.lookup n = some .local) (hh:∀ a,PSs (mcx X a) (b0 :: suite) th) (hgy:Gl X y:=by rfl) (hdy:(y == ("__debug__" : Str)) = false:=by decide) :
  HB X C od (.ExceptHandler (some (.Name y np)) (some n) (b0 :: suite) hpos :: rest) (g1w C i od th):=by
 intro a D pins σ H1 H2 s1 s3 I1 I3 hot3 hW
 obtain ⟨oe3,vs3,hv3,ge3,gc3,gd3,gf3,g13,y3,u3,hh3⟩:=id hot3
 refine wpAny_handleBy_cons (codeAny_handlers_test (j0f (I3.mcx a) hgy hy ?_ hdy)) (by intro q; cases q)
 refine c1i (b:=true) (ecls I3.kIn q2) ge3 gc3 (fun A' E' Q' q=>(PySem.W.looks_subIn I3.kIn q3).at q) (codeAny_handlers_suite_as ?_)
 refine sfI I3 hot3 fun h4 ch4 hch4 un4 hok4 ⟨oe4,vs4,ge4,gc4,gd4,gf4⟩=>?_
 have I4:=Inv.hot I1 I3 hex un4 hok4 hch4
 have I4':=(Inv.trackX (C:=C) (od:=od) I1 I4 hex u3 y3 ⟨oe4,vs4,ge4,gc4,gd4,gf4⟩).mcx a
 refine m0g (X:=L2.mcx X a) (v:=.ref a) I4' hN hi (.inl hloc) rfl (fun s5 I5 _=>?_) (.inr hloc)
 refine wpAny_mono (hh a pins s5 _ _ (goE i D) I5 hW) (fun fl s6 q6=>?_) fun _ _ z=>False.elim z
 have go:∀ {σ6:St} {H6:Hp} {Q:Unit→Shared→Prop},Inv (L2.mcx X a) pins σ6 H6 s6→(∀ s7,Inv X pins (σ6.set i none) H6 s7→Q () s7)→wpAny (model X.prog X.w) X.A (do bindName X.env n .none; unbindBehindTheSuite X.env n hpos) Q X.xe s6:=fun I6 k=>by
  obtain ⟨m6,hn6,hm6⟩:=id I6.loc
  refine wpAny_nameGoes_keeps hloc hn6 (by show (X.env.scope.kind == _ || _) = _; rw [I3.ok.kind]; rfl) fun h7 v7 hn7 hs7=>?_
  exact k _ (I6.goes I3.ok hN hi hm6 hs7 hn7)
 cases fl with
 | next=>obtain ⟨σ6,H6,I6,q⟩:=q6; exact go I6 fun s7 I7=>⟨_,H6,I7,q⟩
 | brk=>obtain ⟨σ6,H6,I6,q⟩:=q6; exact go I6 fun s7 I7=>⟨_,H6,I7,q⟩
 | cont=>obtain ⟨σ6,H6,I6,q⟩:=q6; exact go I6 fun s7 I7=>⟨_,H6,I7,q⟩
 | ret u=>obtain ⟨v,σ6,H6,I6,rv,q⟩:=q6; exact go I6 fun s7 I7=>⟨v,_,H6,I7,rv,q⟩
theorem j1e {k:Nat} {x:Str} {ps:List Str} {C:Addr} {fn:Option Str} {p cpos pos:Pos} {e:Expr} {es:List Expr} {t:TA} {body:List Stmt} {h0:ExceptHandler} {hs:List ExceptHandler} {tH:Option Addr→Addr→TS}
  (F:OkX X.prog X.w X.K X.mg X.base k x ps C fn (spA K S)) (hr:Room k X.A) (hc:X.calm = true) (hex:X.ex = []) (hst:X.stack = X.env :: X.outer) (hfr:X.env.frame = some X.env.locals) (ha:PA X.nox (e :: es) t)
  (hb1:d1r X body (.Call (.Name x p) (e :: es) [] cpos)) (hH:∀ od,HB X C od (h0 :: hs) (tH od))
  (hg:Gl X x:=by rfl) (hdb:(x == ("__debug__" : Str)) = false:=by decide) (he:starEach (e :: es) X.env = (false,eval e X.env) :: starEach es X.env:=by rfl) (hpl:(backTo cpos (starEach es X.env)).any (·.1) = false:=by rfl) :
  PS X (.Try body (h0 :: hs) [] [] pos) (fun D σ H=>t σ H fun vs H1=>spA K S (vs ++ []) H1 (fun v H'=>∀ a od,H' a = none→Fld H' fn od v→(∀ dx,od = some dx→H1 dx = none)→tH od a D σ H') E0):=by
 intro pins s σ H D I h
 obtain ⟨f,fd,hm,hk,hb,F⟩:=F.ex
 refine wpAny_Try_except (hb1 _ _ pins σ H _ I ?_)
 refine wpAny_Call_Name_kw (j0f I hg hm ?_ hdb)
 refine PySem.W.callWith_K (h₀:=X.base) I.ok.mod.kin hk (wpAny_mono (ha cpos pins s σ H _ (I.wish _) h) (fun us s1 ⟨vs,H1,I1w,r,q⟩=>⟨I1w.unwish.kIn,?_⟩) fun _ _ z=>False.elim z) he hpl
 have I1:=I1w.unwish
 have q':spX C fn (spA K S) (vs ++ []) H1 (fun _ _=>False) (fun u cls H'=>cls = some C∧∃ v od,u = odV od∧Fld H' fn od v∧∀ a od,H' a = none→Fld H' fn od v→(∀ dx,od = some dx→H1 dx = none)→tH od a D σ H'):=by
  obtain ⟨ss,Z,q',a1,a2,a3⟩:=q
  exact ⟨ss,Z,q',a1,a2,fun r ss' v H' b1 b2 b3 b4 od hf=>⟨rfl,v,od,rfl,hf,a3 r ss' v H' b1 b2 b3 b4⟩⟩
 have hl:(us ++ []).length = ps.length:=by
  rw [← (r.append (.nil:Vals [] [])).length]
  exact F.len (vs ++ []) H1 _ _ q'
 refine wpAny_call (codeAny_mono (F.run X.A X.stack s1 H1 ⟨us,[]⟩ (us ++ []) (vs ++ []) _ _ hr I1.env0 (hb s1 us I1.kIn hl) (r.append .nil) q') fun rr s2 hq=>?_)
 cases rr with
 | ok fl =>
  cases fl with
  | ret u=>obtain ⟨_,_,_,_,_,_,_,z⟩:=hq; exact z.elim
  | next=>exact False.elim hq
  | brk=>exact False.elim hq
  | cont=>exact False.elim hq
 | error ev =>
  obtain ⟨a,C',od,H2,rfl,os,bare,un,hok,hot,hyg,hC,v,od',hO,hF,hW⟩:=hq
  cases hC
  obtain rfl:od = od':=by
   cases od <;> cases od' <;> first | rfl | cases hO <;> rfl
  have I2:Inv X pins σ H2 s2:=I1.call' os un hok bare fun b z=>nomatch z
  have sub1:∀ b o,s1.heap.get? b = some o→b < s2.heap.objs.size:=fun b o q=>by
   obtain ⟨o',q'⟩:=un.there b o q fun z=>nomatch z
   exact Heap.lt_size q'
  refine lvI I2 hst hfr sub1 hot fun h3 ch3 hch3 _ un3 hok3 hot3=>?_
  have I3:=Inv.hot I1 I2 hex un3 hok3 fun b hb=>(hch3 b hb).1
  obtain ⟨oe3,vs3,hv3,ge3,gc3,gd3,gf3,g13,y3,u3,hh3⟩:=id hot3
  refine hH od a D pins σ H1 H2 s1 _ I1 I3 hot3 (hW a od u3 hF fun dx e=>?_)
  cases z:H1 dx with
  | none=>rfl
  | some o =>
   obtain ⟨u,z'⟩:=I1.hok.get z
   rw [hyg dx e] at z'; cases z'
theorem j1q {n:Str} {c:Expr} {np pos:Pos} (hs:swapsWith c (some (.Name n np)) pos.line X.env = pure false:=by rfl):d1r X [.Assign [.Name n np] c pos] c:=fun Q E pins σ H s I h =>
 wpAny_execs_cons (wpAny_Assign_Name (thn h fun _ _ z=>z.elim) hs)
end
section
variable {X:Cx} {R:VK} {E:XK} {C:Addr} {fn:Option Str} {K:PySem.W.Frag} {S:ASp}
theorem m1m {st:Stmt} {t u:TS} (h1:PSr X R st t) (h2:PSr X R st u):PSr X R st (fun D σ H=>t D σ H ∨ u D σ H):=fun pins s σ H D e I h=>h.elim (h1 pins s σ H D e I) (h2 pins s σ H D e I)
end
section
variable {Y:Cx} (K:PySem.W.Frag)
def rIsX (K:PySem.W.Frag) (c:V) (u:Value):List V→Hp→VK→Prop:=fun xs H Q=>∃ a C od b,xs = [.ref a,c]∧H a = some (.ext (exP a C od))∧(∀ dx,od = some dx→H dx ≠ none)∧ExIs K C∧kitOne K (.ref C) u = some b∧Q (.bl b) H
theorem f1h {pins:List (Addr × Obj)} {σ:St} {H:Hp} {s:Shared} {a C:Addr} {od:Option Addr} (I:Inv Y pins σ H s) (h:H a = some (.ext (exP a C od))) (hd:∀ dx,od = some dx→H dx ≠ none):∃ oe odo,PySem.W.InstAt s.heap a oe C odo:=by
 obtain ⟨⟨oe,vs,ge,gc,gd,gf⟩,_,_⟩:=I.hok a _ h
 cases od with
 | none=>exact ⟨oe,none,ge,gc,by unfold notCls; rw [gf],by rw [gd]; trivial⟩
 | some dx =>
  cases z:H dx with
  | none=>exact absurd z (hd dx rfl)
  | some o =>
   obtain ⟨u,z'⟩:=I.hok.get z
   exact ⟨oe,some u,ge,gc,by unfold notCls; rw [gf],by rw [gd]; exact z'⟩
theorem c0p {c:V} {u:Value} (rc:∀ u',RelV c u'→u' = u) (hK:Y.K = K:=by rfl):g0l Y (.builtin "isinstance") (rIsX K c u):=by
 subst hK
 intro pins s σ H xs us Q I r h
 obtain ⟨a,C,od,b,rfl,hH,hd,q,hk,h⟩:=h
 cases r with
 | cons r1 rr =>
  cases rr with
  | cons r2 rr =>
   cases rr
   cases (show _ = Value.ref a from r1)
   rw [rc _ r2]
   obtain ⟨oe,odo,it⟩:=f1h I hH hd
   exact kia_one (f1d q) I.kIn it hk (by intro z; cases z) fun tk=>⟨.bl b,H,I.tok tk,rfl,h⟩
def a1c (K:PySem.W.Frag):V→List V→Hp→VK→Prop:=fun x vs H Q=>∃ (l:Addr) (bs:List Bool) (k:Bool),x = .ref l∧vs = [.bl k]∧SqL K H l (bs.map V.bl)∧Q (.int (bs.count k:Nat)) H
theorem b1c (hK:Y.K = K:=by rfl):MtR Y "list.count" (a1c K):=by
 subst hK
 intro pins s σ H x vs v us Q I rx rv h
 obtain ⟨l,bs,k,rfl,rfl,hq,q⟩:=h
 cases rx
 obtain ⟨u,rfl,ru⟩:=rv.one
 cases ru
 obtain ⟨its,r,pl,hz⟩:=I.list hq
 obtain ⟨⟨cl,dd,dt,sl⟩,n,e,c1,c2,c3⟩:=pl
 simp only at c1 c2 c3
 subst c1 c2 c3
 have all:∀ {bs:List Bool} {its:List Value},Vals (bs.map V.bl) its→its = bs.map Value.bool:=by
  intro bs
  induction bs with
  | nil=>intro its r; cases r; rfl
  | cons b bs ih=>intro its r; cases r with | cons r1 rr=>rw [ih rr,show _ = Value.bool b from r1]; rfl
 have ei:=all r
 subst ei
 refine call_meets PySem.F.slot_list_count ⟨_,e,rfl⟩ PySem.F.entry_list_count (PySem.F.args_list_count_2 _ _) (SeqAt.list_countAt l (bs.map Value.bool).toArray n none sl (.bool k) (isBoolOf k)) ⟨e,fun y hy=>?_,?_⟩
 ·have hy':y ∈ bs.map Value.bool:=by simpa using hy
  obtain ⟨b,_,rfl⟩:=List.mem_map.mp hy'
  exact SeqAt.EqAt.bool_bool b k
 ·have ec:(bs.map Value.bool).toArray.toList.countP (isBoolOf k) = bs.count k:=by
   show (bs.map Value.bool).countP (isBoolOf k) = bs.count k
   rw [List.countP_map]; rfl
  rw [ec]
  exact ⟨.int (bs.count k:Nat),H,I.tok _,⟨s.toks,rfl⟩,q⟩
end
section
variable {K:PySem.W.Frag} {pr:Nat→Bool} {F:Fr} {σ:St} {ρ:En} {H:Hp} {th:TS} {ah:AS} {S:ASp} {ts:TA} {as:AA} {ta:TE} {a:AE}
theorem Rel.gone (r:Rel K F σ ρ H) {i:Nat} (hm:∀ a,¬ F.pin i a):Rel K F (σ.set i none) (pt ρ i .un) H:=by
 rcases Nat.lt_or_ge i ρ.length with hi | hi
 case inr =>
  rw [w0g ρ i .un hi,List.set_eq_of_length_le (by rw [r.len]; exact hi)]; exact r
 have sub:∀ a,b0u (σ.set i none) (pt ρ i .un) a→b0u σ ρ a:=fun a ⟨j,hj,e⟩=>by
  obtain ⟨ij,hj⟩:=e0u rfl hj
  rw [List.getElem?_set_ne ij] at e
  exact ⟨j,hj,e⟩
 have vis:Same (hid H (hs F σ ρ)) (hid H (hs F (σ.set i none) (pt ρ i .un))):=b0t fun a o e n=>⟨e,fun z=>n (z.imp id (sub a))⟩
 refine ⟨by rw [List.length_set,i0s,r.len],r.fr,r.zl,fun a h=>r.zo a (sub a h),fun j a hj e=>?_,fun j a h=>?_,r.ml,r.ma,fun j k a hj hk ej ek=>?_,fun j=>?_⟩
 ·obtain ⟨ij,hj⟩:=e0u rfl hj
  rw [List.getElem?_set_ne ij] at e
  exact r.ow j a hj e
 ·have:i ≠ j:=fun e=>hm a (e ▸ h)
  rw [List.getElem?_set_ne this]; exact r.mi j a h
 ·obtain ⟨nj,hj⟩:=e0u rfl hj
  obtain ⟨nk,hk⟩:=e0u rfl hk
  rw [List.getElem?_set_ne nj] at ej
  rw [List.getElem?_set_ne nk] at ek
  exact r.nd j k a hj hk ej ek
 ·by_cases ij:i = j
  ·subst ij
   rw [q0c ρ i .un hi]; trivial
  ·rw [c0j ρ i j _ ij,List.getElem?_set_ne ij]
   exact (r.sl j).keep vis fun _ _ _ _ e=>e
def goA (i:Nat) (k:AEnds):AEnds:=⟨fun ρ=>k.nx (pt ρ i .un),k.rt,fun ρ=>k.bk (pt ρ i .un),fun ρ=>k.ct (pt ρ i .un)⟩
def exF:Option Str→R→Option (Option (List (Str × D)))
 | none,_=>some none
 | some f,r=>match r.frz with
  | .d d=>some (some [(f,d)])
  | _=>none
theorem f1s {f:Str} {r:R} {fs:Option (List (Str × D))} (h:exF (some f) r = some fs):∃ d,r.frz = .d d∧fs = some [(f,d)]:=by
 unfold exF at h
 dsimp only at h
 split at h
 next d e=>cases h; exact ⟨d,e,rfl⟩
 ·cases h
def h1x (C:Addr) (fn:Option Str) (i:Nat) (ah:AS) (r:R):AS:=fun k ρ=>match exF fn r with
 | some fs=>ah (goA i k) (pt ρ i (.ex C fs))
 | none=>False
def q1e (ca:AE) (ah:R→AS):AS:=fun k ρ=>ca ρ fun r ρ1=>ah r k ρ1
theorem e1e {fn:Option Str} {tH:Option Addr→Addr→TS} {aH:R→AS} (ht:TAok K ts as)
  (hh:∀ (F:Fr) (σ:St) (ρ:En) (H1 H':Hp) (D:Ends) (k:AEnds) (r:R) (v:V) (a:Addr) (od:Option Addr),(∀ i a,F.pin i a→pr i = true)→Rel K F σ ρ H'→InF K F σ ρ H' v r.frz→aH r k ρ→g1n K F D k→H' a = none→Fld H' fn od v→(∀ dx,od = some dx→¬ hs F σ ρ dx)→tH od a D σ H') :
  TSok K pr (fun D σ H=>ts σ H fun vs H1=>spA K S (vs ++ []) H1 (fun v H'=>∀ a od,H' a = none→Fld H' fn od v→(∀ dx,od = some dx→H1 dx = none)→tH od a D σ H') E0) (q1e (p1c S as) aH):=by
 intro F σ ρ H D k hp r ha ko
 refine ht F σ ρ H _ _ r ha fun rs ρ1 vs H1 h1 r1 i1 k1=>?_
 obtain ⟨hd,hS⟩:=h1
 have s:=i1.srcs
 rw [List.append_nil]
 refine ⟨rs.map (e0s ρ1),(l0k F σ ρ1 H1 (vs.map some) (rs.map (e0s ρ1))).Z,_,r1.sub s hd,hS,fun rr ss' v H' hq sb no out a od hn hf hdx=>?_⟩
 have o:Out K F σ ρ1 H1 (back ρ1 rs ss') v H' rr:=by
  cases rr with
  | o i=>exact absurd rfl (no i)
  | d d =>
   obtain ⟨a,b⟩:=out
   obtain ⟨x,y,z⟩:=r1.back s hd a sb
   exact ⟨x,y,RepD.same b z⟩
  | t n =>
   obtain ⟨a,b⟩:=out
   obtain ⟨x,y,z⟩:=r1.back s hd a sb
   exact ⟨x,y,b⟩
  | n sv =>
   obtain ⟨Hb,l,o,a,b,c,e1,e2,e3⟩:=out
   obtain ⟨x,y,z⟩:=r1.back s hd a sb
   exact ⟨Hb,l,o,x,y,b,c.keep z fun _ _ _ _ e=>e,e1,e2,e3⟩
 obtain ⟨r',k',i'⟩:=o.inF
 refine hh F σ _ H1 H' D k rr v a od hp r' i' hq ko hn hf fun dx e z=>?_
 rcases z with z | z
 ·exact (r1.zl dx z).1 (hdx dx e)
 ·exact f0k r1 (k'.so z) (hdx dx e)
theorem g1c {C:Addr} {fn:Option Str} {i:Nat} (hi:pr i = false) (hh:TSok K pr th ah) :
  ∀ (F:Fr) (σ:St) (ρ:En) (H1 H':Hp) (D:Ends) (k:AEnds) (r:R) (v:V) (a:Addr) (od:Option Addr),(∀ i a,F.pin i a→pr i = true)→Rel K F σ ρ H'→InF K F σ ρ H' v r.frz→h1x C fn i ah r k ρ→g1n K F D k→H' a = none→Fld H' fn od v→(∀ dx,od = some dx→¬ hs F σ ρ dx)→g1w C i od th a D σ H':=by
 intro F σ ρ H1 H' D k r v a od hp r' i' z ko hn hf hd
 have np:=a1y hp hi
 unfold h1x at z
 split at z
 next fs ef =>
  have hx:exD K (hid (upd H' a (.ext (exP a C od))) (hs F σ ρ)) fs od:=by
   cases fn with
   | none=>cases ef; obtain ⟨rfl,_⟩:=hf; trivial
   | some f =>
    obtain ⟨dx,rfl,hdx⟩:=hf
    obtain ⟨d,er,ef⟩:=f1s ef
    ·subst ef
     rw [er] at i'
     have na:dx ≠ a:=b0h hdx hn
     refine ⟨[(f,v)],j0z (hd dx rfl) (by rw [a0o na]; exact hdx),rfl,?_⟩
     show RepDs K _ [v] [d]
     unfold RepDs RepDs
     refine ⟨RepD.same (show RepD K (hid H' (hs F σ ρ)) v d from i') (b0t fun b o e n=>⟨by rw [a0o (b0h e hn)]; exact e,n⟩),trivial⟩
  have rf:=(r'.fresh (o:=.ext (exP a C od)) hn).setS (i:=i) (v:=.ref a) (s:=.ex C fs) rfl ⟨a,od,rfl,j0z (k0a r' hn) b0g,hx⟩ np
  exact hh F _ _ _ (goE i D) (goA i k) hp rf z ⟨fun σ2 ρ2 H2 q r2=>ko.nx _ _ _ q (r2.gone np),fun σ2 ρ2 H2 q r2=>ko.bk _ _ _ q (r2.gone np),fun σ2 ρ2 H2 q r2=>ko.ct _ _ _ q (r2.gone np),ko.rt⟩
 ·exact z.elim
theorem c1j {fs:Option (List (Str × D))} {od:Option Addr} {S:Addr→Prop} (h:exD K (hid H S) fs od):∀ dx,od = some dx→H dx ≠ none:=by
 rintro dx rfl
 cases fs with
 | none=>exact h.elim
 | some fs =>
  obtain ⟨ks,h1,_⟩:=h
  rw [(g0x.mp h1).2]; exact fun z=>nomatch z
def aIsX (K:PySem.W.Frag) (i:Nat) (u:Value):AE:=fun ρ q=>match gt ρ i with
 | .ex C _=>∃ b,ExIs K C∧kitOne K (.ref C) u = some b∧q (.d (.bl b)) ρ
 | _=>False
theorem e0r {i:Nat} {c:V} {u:Value}:TEok K (tCB (rIsX K c u) (z0h (tVar i) (z0h (tC c) tNil))) (aIsX K i u):=by
 intro F σ ρ H q Q a h b
 have s:=a.sl i
 unfold aIsX at h
 split at h
 ·rename_i C fs hg
  rw [hg] at s
  obtain ⟨e,od,e1,e2,e3⟩:=s
  obtain ⟨b',h1,h2,h3⟩:=h
  exact ⟨.ref e,e1,e,C,od,b',rfl,(g0x.mp e2).2,c1j e3,h1,h2,b.bl a h3⟩
 ·exact h.elim
@[irreducible] def gCnt (ds:List D) (k:Bool) (q:Nat→Prop):Prop:=∃ bs:List Bool,ds = bs.map D.bl∧q (bs.count k)
theorem k1l {bs:List Bool} {k:Bool} {q:Nat→Prop} (h:q (bs.count k)):gCnt (bs.map D.bl) k q:=by unfold gCnt; exact ⟨bs,rfl,h⟩
theorem a1a {Hh:Hp}:∀ {bs:List Bool} {vs:List V},RepDs K Hh vs (bs.map D.bl)→vs = bs.map V.bl
 | [],[],_=>rfl
 | b :: bs,v :: vs,h=>by
  unfold RepDs at h
  obtain ⟨h1,h2⟩:=h
  unfold RepD at h1
  rw [h1,a1a h2]; rfl
 | [],_ :: _,h=>by unfold RepDs at h; exact h.elim
 | _ :: _,[],h=>by unfold RepDs at h; exact h.elim
def aCnt (a:AE) (as:AA):AE:=fun ρ q=>a ρ fun r ρ1=>match view ρ1 r.frz with
 | some (.lst ds)=>as ρ1 fun rs ρ2=>(match rs with
  | [.d (.bl k)]=>gCnt ds k fun j=>ρ1 = ρ2∧q (.d (.int (j:Nat))) ρ2
  | _=>False)
 | _=>False
theorem i1h (ha:TEok K ta a) (hs':TAok K ts as):TEok K (tBM K "list" (a1c K) ta ts) (aCnt a as):=by
 intro F σ ρ H q Q r h k
 refine ha F σ ρ H _ _ r h fun r1 ρ1 x H1 h1 o1=>?_
 obtain ⟨r1',k1,i1⟩:=o1.inF
 split at h1
 ·rename_i ds e
  obtain ⟨l0,us0,rfl,sq0,_⟩:=c0s r1' i1 e
  refine ⟨.inl ⟨rfl,_,sq0⟩,hs' F σ ρ1 H1 _ _ r1' h1 fun rs ρ2 vs H2 h2 r2 i2 k2=>?_⟩
  split at h2
  ·rename_i y
   obtain ⟨z,rfl,iz⟩:=i2.one
   unfold gCnt at h2
   obtain ⟨bs,rfl,e12,hq⟩:=h2
   subst e12
   obtain ⟨l,us,el,sq,rd⟩:=c0s r2 (i1.keep k2) e
   rw [a1a rd] at sq
   exact ⟨l,bs,y,el,by rw [iz.blv],sq,((k.after k1).after k2).int r2 hq⟩
  ·exact h2.elim
 ·exact h1.elim
end
end L2
namespace L2
open PySem PySem.Spec PyProof.Rows Builtin
theorem n0n:fillsNumberSlot (.type "tuple") "mul" = pure false :=
 PySem.fillsNumberSlot_seq (id := "tuple.__mul__") (r:=some (.builtin "tuple.__rmul__")) F.slot_tuple_mul.lookup (by decide +kernel) F.slot_tuple_rmul.lookup (by decide +kernel)
theorem x0q:seqRepeat? (.type "tuple") = pure (some (.builtin "tuple.__mul__")):=by
 unfold seqRepeat?
 rw [PySem.seqSlot_of (T := "tuple") (name := "__mul__") (id := "tuple.__mul__") F.slot_tuple_mul.lookup (by decide +kernel),PySem.seqSlot_of (T := "tuple") (name := "__rmul__") (id := "tuple.__rmul__") F.slot_tuple_rmul.lookup (by decide +kernel)]
 rfl
theorem e1j (a:Int) (t:Tok) (l:Addr) (items:Array Value) (n:Nat) (d:Option Addr) (sl:Array (Option Value)) :
  Meets (Builtin.«int.__rmul__» ⟨[.int a t,.ref l],[]⟩) (fun _ R s=>s.heap.get? l = some { cls:=.type "tuple",dict:=d,data:=.seq items n,slots:=sl }∧R (.ok (.ret Value.notImplemented)) s) :=
 .of_wp fun prog w A R s h=>by obtain ⟨hp,g,d,tk,os⟩:=s; obtain ⟨hl,h⟩:=h; wp_walk; exact ⟨_,rfl,h⟩
theorem j1s (l:Addr) (items:Array Value) (n:Nat) (d:Option Addr) (sl:Array (Option Value)) (x:Int) (u:Tok) (h1:1 < x) (h2:x ≤ 1000) (h3:0 < items.size) (h4:items.size ≤ 1000) :
  Meets (Builtin.«tuple.__mul__» ⟨[.ref l,.int x u],[]⟩) (fun _ R s=>s.heap.get? l = some { cls:=.type "tuple",dict:=d,data:=.seq items n,slots:=sl }∧R (.ok (.ret (Value.ref s.heap.objs.size))) { s with heap:=s.heap.push { cls:=Value.type "tuple",data:=Data.seq (List.foldl (fun x1 x2=>x1 ++ x2) #[] (List.replicate x.toNat items)) } }) :=
 .of_wp fun prog w A R s h=>by
  obtain ⟨hp,g,d,tk,os⟩:=s; obtain ⟨hl,h⟩:=h
  have c1:¬ (decide (x < -2 ^ 63) || decide (x ≥ 2 ^ 63)) = true:=by simp; omega
  have c2:¬ (items.isEmpty || x == 1) = true:=by
   simp
   refine ⟨fun z=>?_,by omega⟩
   rw [z] at h3; simp at h3
  have c3:¬ (decide (x ≤ 0) || items.isEmpty) = true:=by
   simp
   refine ⟨by omega,fun z=>?_⟩
   rw [z] at h3; simp at h3
  have h5:(items.size:Int) * x ≤ 1000000:=by
   have:=Int.mul_le_mul (show (items.size:Int) ≤ 1000 by omega) h2 (by omega) (by omega)
   omega
  have c4:¬ (items.size:Int) * x > (2 ^ 63 - 1) / 8:=by omega
  have c5:¬ Tuple.tupleTooMany ((items.size:Int) * x) = true:=by
   unfold Tuple.tupleTooMany sizeLine
   simp only [decide_eq_true_eq]
   omega
  have c6:¬ (List.foldl (fun x1 x2=>x1 ++ x2) #[] (List.replicate x.toNat items)).size > sizeLine:=by
   have e:=q0g items.toList x.toNat #[]
   rw [Array.toArray_toList] at e
   rw [e]
   have h6:=Nat.mul_le_mul (show x.toNat ≤ 1000 by omega) h4
   have:(#[] ++ ((List.replicate x.toNat items.toList).flatten).toArray).size = x.toNat * items.size:=by
    simp [List.length_flatten]
   rw [this]
   exact Nat.not_lt.mpr (small h6)
  wp_walk
  rw [if_neg c1]
  wp_walk
  rw [if_neg c4]
  wp_walk
  exact ⟨_,rfl,h⟩
section
variable {X:Cx} (K:PySem.W.Frag)
def m1h (K:PySem.W.Frag):R2:=fun x y H Q=>∃ a xs,∃ n:Nat,x = .ref a∧y = .int (n:Nat)∧SqT K H a xs∧1 < n∧n ≤ 1000∧0 < xs.length∧xs.length ≤ 1000∧∀ p,H p = none→Q (.ref p) (upd H p (.tup (List.replicate n xs).flatten))
theorem j1n (hK:X.K = K:=by rfl):OpR X (binaryOp .Mult) (m1h K):=by
 subst hK
 intro pins s σ H x y v u Q I rx ry h
 obtain ⟨a,xs,n,rfl,rfl,ha,hn1,hn,hx0,hx,q⟩:=h
 cases rx
 obtain ⟨t,rfl⟩:=ry
 obtain ⟨its,r1,p1,_⟩:=I.tuple ha
 obtain ⟨⟨cls,dd,data,sl⟩,ho,hc,m,hd⟩:=id p1
 simp only at hc hd
 subst hc hd
 have hl:its.length = xs.length:=r1.length.symm
 have ho':s.TypeIs (.ref a) "tuple" := ⟨_,ho,rfl⟩
 refine wpAny_binaryOp_repeat_ref (T := "tuple") (U := "int") (by decide) ho' (fun s'=>typeIs_int s' n t) n0n F.fills_int_mul F.slot_int_rmul x0q F.slot_int_index.lookup ?_
 refine call_meets F.slot_int_rmul (typeIs_int s n t) F.entry_int_rmul (F.args_int_rmul_2 _ _) (e1j n t a its.toArray m dd sl) ⟨ho,rfl,ho',?_⟩
 have hM:=j1s a its.toArray m dd sl (n:Int) t (by omega) (by omega) (by rw [List.size_toArray]; omega) (by rw [List.size_toArray]; omega)
 refine call_meets F.slot_tuple_mul ho' F.entry_tuple_mul (F.args_tuple_mul_2 _ _) hM ⟨ho,?_⟩
 have e:List.foldl (fun x1 x2=>x1 ++ x2) #[] (List.replicate (n:Int).toNat its.toArray) = ((List.replicate n its).flatten).toArray:=by
  rw [Int.toNat_natCast,q0g]; simp
 rw [e]
 refine ⟨.ref s.heap.objs.size,_,I.laid (t':=s.toks) (o:=.tup (List.replicate n xs).flatten) (fun b ob q=>Heap.get?_push_of_some _ q) (Nat.le_refl _) ?_,rfl,q _ (I.hok.fresh (Nat.le_refl _))⟩
 refine ⟨?_,(List.replicate n its).flatten,v0o r1 n,_,Heap.get?_push_size _ rfl,rfl,0,rfl⟩
 refine small ?_
 have:=Nat.mul_le_mul hn hx
 simp only [List.length_flatten,List.map_replicate,List.sum_replicate_nat]
 exact this
end
section
variable {K:PySem.W.Frag}
def gRepT:R→R→AE:=fun r1 r2 ρ q=>match view ρ r1,r2 with
 | some (.tup ds),.d (.int n)=>(1 < n∧n ≤ 1000∧0 < ds.length∧ds.length ≤ 1000)∧q (.d (.tup (List.replicate n.toNat ds).flatten)) ρ
 | _,_=>False
theorem e1v:OpOk K (m1h K) gRepT:=by
 intro F σ ρ H x y r1 r2 q Q a h1 h2 h b
 unfold gRepT at h
 split at h
 ·rename_i ds n e1
  obtain ⟨⟨c1,c2,c3,c4⟩,h⟩:=h
  obtain ⟨l,vs,rfl,sq,rd,sv⟩:=l0p a h1 e1
  obtain ⟨m,rfl⟩:=Int.eq_ofNat_of_zero_le (show 0 ≤ n by omega)
  exact ⟨l,vs,m,rfl,h2.int,sq,by omega,by omega,by rw [rd.length]; exact c3,by rw [rd.length]; exact c4,fun p hp=>b.newT a h (rd.reps _) hp⟩
 ·exact h.elim
end
end L2
namespace L2
open PySem PySem.Spec PyProof.Rows
end L2
namespace L2
open PySem PySem.Spec PyProof.Rows PySem.W
section
variable {prog:Program} {w:World} {A:Around} {E:Value→Shared→Prop} {h:Heap} {g:Array GenState} {d:Drawn} {t:Nat} {os:OsState}
variable {nm q:Str} {C N:Addr} {bs bm bmB:List Value} {hdct:Bool} {sn:List Str} {sub:List Value} {ab:Bool} {col:Option Bool} {dd:Option Addr} {k0 k1 k2 k3 k5:Option Value} {B newId initId:String}
theorem n0k (F:ExcBaseFacts B newId initId bmB) (T:OwnTail h bmB bm) {mN:Str→Option Value} {rest:List Value} {fI:Addr} {oI:Obj} {Q:Fin→Shared→Prop}
  (hC:h.get? C = some (excClassObj nm q C N bs bm hdct sn sub ab col dd k0 k1 k2 k3 k5 newId)) (hn:h.Ns N mN) (hi:mN "__init__" = some (.ref fI)) (hfI:h.get? fI = some oI) (hfc:oI.cls = .type "function")
  (hq:∀ h' e,Heap.MadeExcOf h h' e (.ref C) rest→wpAny (model prog w) A (call (.ref fI) (.ref e :: rest)) (fun r s'=>r = .none∧Q (.done (.ret (.ref e))) s') E ⟨h',g,d,t,os⟩) (hrest:rest.length ≤ sizeLine) :
  wpAny (model prog w) A (Builtin.«type.__call__» ⟨.ref C :: rest,[]⟩) Q E ⟨h,g,d,t,os⟩:=by
 repeat (first | with_reducible refine wpAny_loadPart_at hC ?_ | with_reducible refine wpAny_madeBy_exc hC ?_ | wp_step)
 refine codeAny_call_builtin_code (Code.quiet_builtin _ F.quiet) (wpAny_check_new_subT F T hC ?_)
 refine codeAny_exc_new_subT F T hC ?_ hrest
 show wpAny _ _ _ _ _ _
 have hC₁:=Heap.get?_push_of_some { cls:=.ref C,data:=.fields #[.ref h.objs.size,.none,.none,.none,.bool false,.none] }
  (Heap.get?_push_of_some { cls:=.type "tuple",data:=.seq rest.toArray } hC)
 have hfI₁:=Heap.get?_push_of_some { cls:=.ref C,data:=.fields #[.ref h.objs.size,.none,.none,.none,.bool false,.none] }
  (Heap.get?_push_of_some { cls:=.type "tuple",data:=.seq rest.toArray } hfI)
 have hn₁:((h.push { cls:=.type "tuple",data:=.seq rest.toArray }).push { cls:=.ref C,data:=.fields #[.ref h.objs.size,.none,.none,.none,.bool false,.none] }).Ns N mN :=
  let ⟨o,es,ep,e,r⟩:=hn; ⟨o,es,ep,Heap.get?_push_of_some _ (Heap.get?_push_of_some _ e),r⟩
 have hget:((h.push { cls:=.type "tuple",data:=.seq rest.toArray }).push
   { cls:=.ref C,data:=.fields #[.ref h.objs.size,.none,.none,.none,.bool false,.none] }).get? (h.objs.size + 1) = some
   { cls:=.ref C,data:=.fields #[.ref h.objs.size,.none,.none,.none,.bool false,.none] }:=by heap_get
 have hcC:(Value.ref C :: bm).contains (.ref C) = true:=by simp
 have T₁:=T.keeps (h':=(h.push { cls:=.type "tuple",data:=.seq rest.toArray }).push { cls:=.ref C,data:=.fields #[.ref h.objs.size,.none,.none,.none,.bool false,.none] })
  fun b o e=>Heap.get?_push_of_some _ (Heap.get?_push_of_some _ e)
 unfold isInstance
 repeat (first | with_reducible refine wpAny_loadPart_at hget ?_ | (with_reducible refine wpAny_isSubtype_exc hC₁ ?_; rw [hcC]) | wp_step)
 show wpAny _ _ (typeLookup (.ref C) _) _ _ _
 refine wpAny_typeLookup_tail hC₁ hn₁ T₁ F.mroIs F.init.lookup ?_
 rw [hi]
 refine wpAny_holding (wpAny_bind ?_)
 unfold bindSpecial
 refine wpAny_bind (wpAny_typeOf (T := "function") ⟨_,hfI₁,hfc⟩ ?_)
 rw [if_pos (by decide)]
 refine wpAny_pure (wpAny_bind (wpAny_mono (hq _ (h.objs.size + 1) ⟨fun b o hb=>Heap.get?_push_of_some _ (Heap.get?_push_of_some _ hb),Heap.get?_none_of_le (Nat.le_succ _),h.objs.size,hget,Heap.get?_none_of_le (Nat.le_refl _),?_⟩) (fun r s' hr=>?_) fun _ _ x=>x))
 ·exact Heap.get?_push_of_some _ (Heap.get?_push_at rfl rfl)
 ·obtain ⟨rfl,hQ⟩:=hr
  wp_walk
  exact hQ
theorem c1w (F:ExcBaseFacts B newId initId bmB) (T:OwnTail h bmB bm) {mN:Str→Option Value} {rest:List Value} {fI:Addr} {oI:Obj} {Q:Value→Shared→Prop}
  (hC:h.get? C = some (excClassObj nm q C N bs bm hdct sn sub ab col dd k0 k1 k2 k3 k5 newId)) (hn:h.Ns N mN) (hi:mN "__init__" = some (.ref fI)) (hfI:h.get? fI = some oI) (hfc:oI.cls = .type "function")
  (hq:∀ h' e,Heap.MadeExcOf h h' e (.ref C) rest→wpAny (model prog w) (A.under (.builtin "type.__call__" ⟨.ref C :: rest,[]⟩)) (call (.ref fI) (.ref e :: rest)) (fun r s'=>r = .none∧Q (.ref e) s') E ⟨h',g,d,t,os⟩) (hrest:rest.length ≤ sizeLine) :
  wpAny (model prog w) A (call (.ref C) rest) Q E ⟨h,g,d,t,os⟩:=by
 have f1:=tc_lookup
 have f2:=tc_bind (.ref C)
 have hT:(⟨h,g,d,t,os⟩:Shared).TypeIs (.ref C) "type" := ⟨_,hC,rfl⟩
 refine wpAny_call (codeAny_of_tree ?_)
 show wpAny _ _ (callAny (.ref C) _) _ _ _
 repeat (any_goals (first | assumption | with_reducible refine wpAny_loadPart_at hC ?_ | wp_step))
 refine ⟨rfl,?_⟩
 refine codeAny_call_builtin_at (Code.quiet_builtin _ (by decide +kernel)) entry_typeCall (wpAny_check_type_call_sub hC (n0k (hrest:=hrest) F T hC hn hi hfI hfc fun h' e hm=>?_))
 exact hq h' e hm
end
section
variable {M:Model} {A:Around} {E:Value→Shared→Prop} {env:Env}
variable {nm q:Str} {C N:Addr} {bs bm:List Value} {hdct:Bool} {sn:List Str} {sub:List Value} {ab:Bool} {col:Option Bool} {dd:Option Addr} {k0 k1 k2 k3 k5:Option Value} {newId:String}
theorem n0l {s:Shared} {x:Sem Value} {Q:Flow→Shared→Prop} (hbase:bm.contains (.type "BaseException") = true) (hh:A.handled = none)
  (h:wpAny M A x (fun v s₁=>∃ e t od,v = .ref e∧s₁.heap.get? C = some (excClassObj nm q C N bs bm hdct sn sub ab col dd k0 k1 k2 k3 k5 newId) ∧
   s₁.heap.get? e = some { cls:=.ref C,dict:=od,data:=.fields #[.ref t,.none,.none,.none,.bool false,.none] }∧E (.ref e) s₁) E s) :
  wpAny M A (raiseStmt env (some x) none) Q E s:=by
 have hcB:(Value.ref C :: bm).contains (.type "BaseException") = true:=by rw [List.contains_cons,hbase,Bool.or_true]
 unfold raiseStmt
 refine wpAny_bind (wpAny_mono h (fun v s₁ h₁=>?_) fun _ _ x=>x)
 obtain ⟨e,t,od,rfl,hC,he,hE⟩:=h₁
 obtain ⟨hp,g,d,tk,os⟩:=s₁
 repeat (first | with_reducible refine wpAny_loadPart_at he ?_ | with_reducible refine wpAny_loadPart_at hC ?_ | (with_reducible refine wpAny_isSubtype_exc hC ?_; rw [hcB]) | wp_step)
 exact wpAny_raiseNew_none hh hE
end
section
variable {prog:Program} {w:World} {A:Around} {E:Value→Shared→Prop} {s:Shared} {env:Env}
variable {nm q:Str} {C N:Addr} {bs bm bmB:List Value} {hdct:Bool} {sn:List Str} {sub:List Value} {ab:Bool} {col:Option Bool} {dd:Option Addr} {k0 k1 k2 k3 k5:Option Value} {B newId initId:String}
theorem n0i (F:ExcBaseFacts B newId initId bmB) {mN:Str→Option Value} {x:Str} {np cpos pos:Pos} {args:List Expr} {Q:Flow→Shared→Prop} {fI:Addr} {oI:Obj}
  (hbase:bm.contains (.type "BaseException") = true) (hh:A.handled = none) (hplain:(backTo cpos (starEach args env)).any (·.1) = false) (hi:mN "__init__" = some (.ref fI)) (hfc:oI.cls = .type "function")
  (h:wpAny (model prog w) A (eval (.Name x np) env) (fun f s₁=>f = .ref C∧wpAny (model prog w) A (evalArgs (.ref C) true (backTo cpos (starEach args env)) [])
   (fun a s₂=>a.kw = []∧a.pos.length ≤ sizeLine∧s₂.heap.get? C = some (excClassObj nm q C N bs bm hdct sn sub ab col dd k0 k1 k2 k3 k5 newId)∧s₂.heap.Ns N mN∧OwnTail s₂.heap bmB bm∧s₂.heap.get? fI = some oI ∧
    ∀ h' e,Heap.MadeExcOf s₂.heap h' e (.ref C) a.pos→wpAny (model prog w) (A.under (.builtin "type.__call__" ⟨.ref C :: a.pos,[]⟩)) (call (.ref fI) (.ref e :: a.pos))
     (fun r s'=>r = .none∧s'.heap.get? C = some (excClassObj nm q C N bs bm hdct sn sub ab col dd k0 k1 k2 k3 k5 newId)∧∃ t od,s'.heap.get? e = some { cls:=.ref C,dict:=od,data:=.fields #[.ref t,.none,.none,.none,.bool false,.none] }∧E (.ref e) s') E { s₂ with heap:=h' }) E s₁) E s) :
  wpAny (model prog w) A (exec (.Raise (some (.Call (.Name x np) args [] cpos)) none pos) env) Q E s:=by
 rw [arm_exec_Raise]
 refine wpAny_bind (wpAny_standAt (n0l (C:=C) (nm:=nm) (q:=q) (N:=N) (bs:=bs) (bm:=bm) (hdct:=hdct) (sn:=sn) (sub:=sub) (ab:=ab) (col:=col) (dd:=dd) (k0:=k0) (k1:=k1) (k2:=k2) (k3:=k3) (k5:=k5) (newId:=newId) hbase hh (wpAny_bind (wpAny_mono (wpAny_Call_ofName (wpAny_mono h (fun f s₁ h₁=>?_) fun _ _ x=>x)) (fun v s₃ h₃=>wpAny_bind (wpAny_standAt (wpAny_pure h₃))) fun _ _ x=>x))))
 obtain ⟨rfl,h₁⟩:=h₁
 unfold callWith
 refine wpAny_bind (wpAny_holding (wpAny_mono h₁ (fun a s₂ h₂=>wpAny_bind (wpAny_standAt ?_)) fun _ _ x=>x))
 obtain ⟨apos,akw⟩:=a
 obtain ⟨hkw,hlen,hC,hn,T,hfI,h₂⟩:=h₂
 obtain rfl:akw = []:=hkw
 obtain ⟨hp,g,d,tk,os⟩:=s₂
 simp only [hplain]
 refine wpAny_bind (wpAny_keeperOf_exc hC ?_)
 refine wpAny_bind (c1w (hrest:=hlen) F T hC hn hi hfI hfc fun h' e hm=>wpAny_mono (h₂ h' e hm) (fun r s' ⟨hr,hC',t,od,he,hE⟩=>⟨hr,?_⟩) fun _ _ x=>x)
 exact wpAny_bind (wpAny_holding (wpAny_point (wpAny_pure ⟨e,t,od,rfl,hC',he,hE⟩)))
end
end L2
namespace L2
open PySem PySem.Spec PyProof.Rows PySem.W Builtin Builtin.ObjectAttr
theorem t0o {h:Heap} {bmB l:List Value} (T:OwnTail h bmB l) (self:Value) (what:Str):refuseLoop self what l = refuseLoop self what bmB:=by
 induction T with
 | base=>rfl
 | own _ _ _ _ ih=>rw [refuseLoop_ref,ih]
section
variable {prog:Program} {w:World} {A:Around} {E:Value→Shared→Prop} {h:Heap} {g:Array GenState} {d:Drawn} {t:Nat} {os:OsState} {K:PySem.W.Frag}
variable {nm q:Str} {C N x:Addr} {bs bm:List Value} {sn:List Str} {sub:List Value} {ab:Bool} {col:Option Bool} {dd:Option Addr} {k0 k1 k2 k3 k5:Option Value} {newId:String} {hdct:Bool} {name:Str} {v:Value} {o:Obj}
theorem d1d (T:OwnTail h bmV bm) {u:Value} {od:Option Addr} {t0:Addr} {Q:Value→Shared→Prop} (hC:h.get? C = some (excClassObj nm q C N bs bm hdct sn sub ab col dd k0 k1 k2 k3 k5 "ValueError.__new__"))
  (he:h.get? x = some { cls:=.ref C,dict:=od,data:=.fields #[.ref t0,.none,.none,.none,.bool false,.none] })
  (hq:∀ h',(∀ b ob,b ≠ x→h.get? b = some ob→h'.get? b = some ob)→(∃ t1,h'.get? x = some { cls:=.ref C,dict:=od,data:=.fields #[.ref t1,.none,.none,.none,.bool false,.none] })→Q .none ⟨h',g,d,t,os⟩) :
  wpAny (model prog w) A (call (.builtin "ValueError.__init__") [.ref x,u]) Q E ⟨h,g,d,t,os⟩:=by
 have F:=PySem.F.excBase_ValueError
 refine wpAny_call (codeAny_call_builtin F.init.plain F.initEntry (wpAny_check_init_subT F T hC he rfl ?_))
 wp_walk
 refine hq _ (fun b ob ne hb=>?_) ⟨h.objs.size,?_⟩
 ·rw [Heap.get?_update_other _ _ (Ne.symm ne)]
  exact Heap.get?_push_of_some _ hb
 ·rw [Heap.get?_update_self _ (Heap.get?_push_of_some _ he) rfl]
  rfl
theorem c1s {M:Model} {nameV:Value} {Q:Unit→Shared→Prop} (T:OwnTail h bmV bm) (hC:h.get? C = some (excClassObj nm q C N bs bm hdct sn sub ab col dd k0 k1 k2 k3 k5 newId)) (hx:h.get? x = some o) (hc:o.cls = .ref C) (hq:Q () ⟨h,g,d,t,os⟩) :
  wpAny M A (checkBuiltinCall "object.__setattr__" ⟨[.ref x,nameV,v],[]⟩) Q E ⟨h,g,d,t,os⟩:=by
 have SF:=PySem.F.store_ValueError
 have hcB:(Value.ref C :: bm).contains (.type "object") = true:=by rw [List.contains_cons,T.hasType SF.hasOwner,Bool.or_true]
 have ha:=SF.args (.ref x) nameV v
 simp only [checkBuiltinCall,SF.kind,SF.split]
 refine wpAny_bind ?_
 ·unfold isInstance
  repeat (first | (with_reducible refine wpAny_loadPart_at hx ?_; rw [hc]) | (with_reducible refine wpAny_isSubtype_exc hC ?_; rw [hcB]) | wp_step)
  exact hq
theorem i1t {Q:Unit→Shared→Prop} (KX:K.In h) (T:OwnTail h bmV bm) (hC:h.get? C = some (excClassObj nm q C N bs bm true sn sub ab col dd k0 k1 k2 k3 k5 newId))
  (hsa:findIn K (.ref C) "__setattr__" = some (some (.builtin "object.__setattr__"))) (hna:findIn K (.ref C) name = some none) (hx:h.get? x = some o) (hc:o.cls = .ref C) (hdn:o.dict = none) (hnc:∀ c,o.data ≠ .cls c)
  (hq:∀ h' dx tk',h.get? dx = none→dx ≠ x→h.objs.size ≤ dx→h'.get? x = some { o with dict:=some dx }→h'.Ns1 dx (fun y=>if y = name then some v else none)→(∀ b ob,b ≠ x→h.get? b = some ob→h'.get? b = some ob)→Q () ⟨h',g,d,tk',os⟩) :
  wpAny (model prog w) A (setAttr (.ref x) name v) Q E ⟨h,g,d,t,os⟩:=by
 have SF:=PySem.F.store_ValueError
 have f3:=SF.slot.bind (.ref x)
 have L1:=looks_findIn (M:=model prog w) KX hsa
 have L2:=looks_findIn (M:=model prog w) KX hna
 have hpass:=SF.passes (.ref x)
 have hcB:(Value.ref C :: bm).contains (.type "object") = true:=by rw [List.contains_cons,T.hasType SF.hasOwner,Bool.or_true]
 unfold setAttr callSpecial? specialOf
 repeat (any_goals (first | assumption | (with_reducible refine wpAny_loadPart_at hx ?_; rw [hc]) | with_reducible refine L1.at ?_ | wp_step))
 refine codeAny_call_builtin SF.slot.plain SF.entry ?_
 have core:wpAny (model prog w) A.in1 (Builtin.«object.__setattr__» ⟨[.ref x,.str name t,v],[]⟩) (fun fin s'=>fin = .done (.ret .none)∧Q () s') (fun _ _=>False) ⟨h,g,d,t + 1,os⟩:=by
  unfold Builtin.«object.__setattr__»
  repeat (first | rw [refuse_eq] | (rw [refuseLoop_ref,t0o T,hpass]) | (with_reducible refine wpAny_loadPart_at hx ?_; rw [hc]) | with_reducible refine wpAny_mroOf_exc hC ?_ | with_reducible refine L2.at ?_ | wp_step)
  rw [hdn,if_neg (by simp [typeHasDict])]
  split
  ·rename_i hcd
   cases hcd
  split
  ·rename_i c hcd
   exact absurd hcd (hnc c)
  ·have hx₁:(h.push { cls:=.type "dict",data:=.dict #[] }).get? x = some o:=Heap.get?_push_of_some _ hx
   have hxs:x ≠ h.objs.size:=Nat.ne_of_lt (Heap.lt_size hx)
   refine wpAny_bind (wpAny_alloc' ?_)
   refine wpAny_bind (wpAny_update' hx₁ ?_)
   refine wpAny_pure ?_
   have hgd:((h.push { cls:=.type "dict",data:=.dict #[] }).update x fun o=>{ cls:=o.cls,dict:=some h.objs.size,data:=o.data,slots:=o.slots }).get? h.objs.size
     = some { cls:=.type "dict",data:=.dict #[] } :=
    (Heap.get?_update_ne _ _ _ _ hxs.symm).trans (Heap.get?_push_at rfl rfl)
   have hnd:((h.push { cls:=.type "dict",data:=.dict #[] }).update x fun o=>{ cls:=o.cls,dict:=some h.objs.size,data:=o.data,slots:=o.slots }).Ns h.objs.size (fun _=>none) :=
    ⟨_,#[],_,hgd,rfl,fun e he=>absurd he (by simp),fun _=>rfl⟩
   show wpAny _ _ (storeInDict h.objs.size (.str name t) name v) _ _ _
   unfold storeInDict newKeyGuard
   refine wpAny_bind (wpAny_pure (wpAny_bind (wpAny_nsSet1 (Heap.Ns1.of_empty hnd) fun h' hn' hs=>?_)))
   obtain ⟨oD,esD,epD,hoD,hdD,hcD⟩:=hn'.count (Within.cons name v Within.nil)
   refine wpAny_bind (wpAny_lookBehind hoD (by rw [hdD]; exact pastItsLine_dict (Nat.le_trans hcD (by rw [List.length_cons,List.length_nil,sizeLine_eq]; omega))) ?_)
   wp_walk
   refine ⟨rfl,hq h' h.objs.size _ (Heap.get?_none_of_le (Nat.le_refl _)) hxs.symm (Nat.le_refl _) ?_ hn' fun b ob hbx hb=>?_⟩
   ·refine (hs.2 x hxs).trans (Heap.get?_update_self _ hx₁ ?_)
    have hfr:=(Heap.get?_some_iff.mp hx).2
    obtain ⟨oc,od,odt,osl⟩:=o
    cases odt <;> first | rfl | exact hfr
   ·exact (hs.2 b (Nat.ne_of_lt (Heap.lt_size hb))).trans ((Heap.get?_update_ne _ _ _ _ hbx).trans (Heap.get?_push_of_some _ hb))
 refine c1s T hC hx hc (wpAny_mono core (fun fin s' ⟨z1,z2⟩=>?_) fun _ _ z=>z.elim)
 subst z1
 repeat (any_goals (first | assumption | wp_step))
end
end L2
namespace L2
open PySem PySem.Spec PyProof.Rows PySem.W
def exI (e C:Addr) (od:Option Addr):Heap→Prop:=fun h=>∃ t,h.get? e = some { cls:=.ref C,dict:=od,data:=.fields #[.ref t,.none,.none,.none,.bool false,.none] }
theorem exI.ok {P:Program} {w:World} {H:Hp} {h:Heap} {e C:Addr} {od:Option Addr} (q:exI e C od h):d0x P w H h e (.ext (exI e C od)) :=
 ⟨q,let ⟨t,g⟩:=q; ⟨_,g⟩,fun h1 h2 ⟨t,g⟩ k=>⟨t,k _ g⟩⟩
def n0d (K:PySem.W.Frag) (C fI:Addr):Bool:=match K.lookup C with
 | some ⟨.type "type",_,.cls cd,sl⟩=>(match cd.mro,sl.toList with
  | .ref C' :: bm,[_,_,_,_,some (.builtin n),_]=>C' == C && n == "ValueError.__new__" && !cd.hasDel && PySem.W.tailIn K bmV bm && PySem.W.nsOkIn K cd.ns && PySem.W.nsIn K cd.ns "__init__" == some (some (.ref fI)) && cd.hasDict
  | _,_=>false)
 | _=>false
structure OwnI (C fI:Addr) (h:Heap):Prop where
 obj:∃ bm N nm q bs sn sub ab col dd k0 k1 k2 k3 k5 mN,h.get? C = some (excClassObj nm q C N bs bm true sn sub ab col dd k0 k1 k2 k3 k5 "ValueError.__new__")∧h.Ns N mN∧mN "__init__" = some (.ref fI)∧OwnTail h bmV bm
theorem x0v {K:PySem.W.Frag} {h:Heap} {N:Addr} {mg:Str→Option Value} {n:Str} {v:Value} (X:K.In h) (G:h.Ns N mg) (e:nsIn K N n = some (some v)):mg n = some v:=by
 obtain ⟨o,es,ep,ho,hd,_,hf⟩:=G
 unfold nsIn at e
 split at e
 ·rename_i c d es' n' sl q
  have:=X _ _ q
  rw [ho] at this
  cases this
  cases hd
  split at e
  ·rename_i en he
   cases e
   rw [← hf]
   unfold nsFind findBy
   rw [← Array.find?_toList,he]
   rfl
  ·split at e <;> cases e
 ·cases e
theorem a1o {K:PySem.W.Frag} {h:Heap} {C fI:Addr} (KX:K.In h) (q:n0d K C fI = true):OwnI C fI h:=by
 unfold n0d at q
 split at q
 next dd cd sl lk =>
  split at q
  next C' bm k0 k1 k2 k3 n k5 em es =>
   simp only [Bool.and_eq_true,beq_iff_eq,Bool.not_eq_true'] at q
   obtain ⟨⟨⟨⟨⟨⟨rfl,rfl⟩,nd⟩,tl⟩,nk⟩,ni⟩,hd⟩:=q
   obtain ⟨a1,a2,a3,a4,a5,a6,a7,a8,a9,a10,a11⟩:=cd
   obtain ⟨l⟩:=sl
   dsimp only at em nd nk ni es hd
   subst em nd es hd
   exact ⟨bm,a4,a1,a5,a2,a7,a8,a9,a10,dd,k0,k1,k2,k3,k5,_,KX _ _ lk,.of_isNs (PySem.W.isNs_of_in KX nk),x0v KX (.of_isNs (PySem.W.isNs_of_in KX nk)) ni,PySem.W.tail_of_in KX tl⟩
  ·cases q
 ·cases q
structure y0q (K:PySem.W.Frag) (D:Addr):Prop where
 sp:specialIn K (.ref D) "__getattribute__" = some (some (.builtin "type.__getattribute__"))
 rd:readsIn K D (.type "type") = true
 fc:findCls K (.ref D) (.type "type") "__init__" = some (.val (.builtin "ValueError.__init__"))
structure ExcI (K:PySem.W.Frag) (C fI:Addr) (f:Str):Prop where
 cl:n0d K C fI = true
 fn:typeIn K (.ref fI) = some (.type "function")
 sa:findIn K (.ref C) "__setattr__" = some (some (.builtin "object.__setattr__"))
 na:findIn K (.ref C) f = some none
section
variable {X:Cx} {pins:List (Addr × Obj)} {σ σ1:St} {H H1:Hp} {s s1:Shared} {h':Heap} {e C:Addr}
theorem Inv.track2 {o:HO} (I:Inv X pins σ H s) (ue:H e = none) (y0:X.s₀.heap.get? e = none) (nL:X.env.locals ≠ e) (nC:∀ x c,X.env.cells.lookup x = some c→c ≠ e) (nP:∀ p ∈ X.pn ++ pins,p.1 ≠ e) (new:d0x X.prog X.w (upd H e o) s.heap e o):Inv X pins σ (upd H e o) s:=by
 have ne:∀ {b:Addr} {o:HO},H b = some o→b ≠ e:=fun z w=>by rw [w,ue] at z; cases z
 have n0:∀ b o,X.s₀.heap.get? b = some o→b ≠ e:=fun b o q z=>by rw [z,y0] at q; cases q
 refine ⟨I.ok,I.os,I.bare,⟨I.base.keep,I.base.slot,fun b o q n x=>?_,I.base.there,fun b xs q=>?_,fun b o u q=>?_,fun b ps q=>?_⟩,I.loc,I.cell,?_,fun x c q=>?_,fun p hp'=>?_,fun a o q=>?_,I.len⟩
 ·rw [a0o (n0 b o q)]; exact I.base.free b o q n x
 ·have:=I.base.tups b xs q
  rw [a0o (ne this)]; exact this
 ·have:=I.base.frzs b o u q
  rw [a0o (ne this)]; exact this
 ·obtain ⟨more,this⟩:=I.base.tbls b ps q
  exact ⟨more,by rw [a0o (ne this)]; exact this⟩
 ·rw [a0o nL]; exact I.free
 ·rw [a0o (nC x c q)]; exact I.freeC x c q
 ·obtain ⟨p1,p2,p3,p4,p5⟩:=I.pin p hp'
  exact ⟨p1,by rw [a0o (nP p hp')]; exact p2,p3,p4,p5⟩
 ·by_cases z:a = e
  ·subst z
   rw [b0g] at q
   cases q
   exact new
  ·rw [a0o z] at q
   exact (I.hok a o q).stay (fun _ _ _ w=>w) (fun b w=>by rw [a0o (ne w)]; exact w) fun b xs w=>by rw [a0o (ne w)]; exact w
def rm (H:Hp) (e:Addr):Hp:=fun b=>if b = e then none else H b
theorem z0x:rm H e e = none:=by unfold rm; rw [if_pos rfl]
theorem t0n {b:Addr} (h:b ≠ e):rm H e b = H b:=by unfold rm; rw [if_neg h]
theorem Inv.untrack {φ:Heap→Prop} (I:Inv X pins σ H s) (he:H e = some (.ext φ)) (y0:X.s₀.heap.get? e = none):Inv X pins σ (rm H e) s:=by
 have ne:∀ {b:Addr} {o:HO},H b = some o→(∀ φ,o ≠ .ext φ)→b ≠ e:=fun z n w=>by rw [w,he] at z; cases z; exact n _ rfl
 have nn:∀ b,H b = none→rm H e b = none:=fun b z=>by unfold rm; split <;> first | rfl | exact z
 refine ⟨I.ok,I.os,I.bare,⟨I.base.keep,I.base.slot,fun b o q n x=>nn b (I.base.free b o q n x),I.base.there,fun b xs q=>?_,fun b o u q=>?_,fun b ps q=>?_⟩,I.loc,I.cell,nn _ I.free,fun x c q=>nn _ (I.freeC x c q),fun p hp'=>?_,fun a o q=>?_,I.len⟩
 ·have:=I.base.tups b xs q
  rw [t0n (ne this fun _ z=>nomatch z)]; exact this
 ·have:=I.base.frzs b o u q
  rw [t0n (ne this fun _ z=>nomatch z)]; exact this
 ·obtain ⟨more,this⟩:=I.base.tbls b ps q
  exact ⟨more,by rw [t0n (ne this fun _ z=>nomatch z)]; exact this⟩
 ·obtain ⟨p1,p2,p3,p4,p5⟩:=I.pin p hp'
  exact ⟨p1,nn _ p2,p3,p4,p5⟩
 ·by_cases z:a = e
  ·subst z; rw [z0x] at q; cases q
  ·rw [t0n z] at q
   exact (I.hok a o q).stay (fun _ _ _ w=>w) (fun b w=>by rw [t0n (ne w fun _ z=>nomatch z)]; exact w) fun b xs w=>by rw [t0n (ne w fun _ z=>nomatch z)]; exact w
theorem l1v {o:HO} (h:H e = some o):upd H e o = H:=by
 funext b; unfold upd; split
 ·rename_i z; rw [z,h]
 ·rfl
end
section
variable {X:Cx} {C D:Addr} {y f:Str} {np apos cpos pos pos' sp:Pos} {e text value:Expr} {es:List Expr} {t:TA} {tv:TE}
def rBI (C:Addr):List V→Hp→VK→Prop:=fun vs H Q=>∃ e od x,vs = [.ref e,x]∧H e = some (.ext (exI e C od))∧Q .non H
theorem e1r {pl:Sem Bool} (B:y0q X.K D) (hc:i0w X.K C = true) (hm:X.mg y = some (.ref D)) (ha:PA X (e :: es) t) (hg:Gl X y:=by rfl) (hdb:(y == ("__debug__" : Str)) = false:=by decide)
  (hst:starEach (e :: es) X.env = (false,eval e X.env) :: starEach es X.env:=by rfl) (hpl:(backTo cpos (starEach es X.env)).any (·.1) = false:=by rfl)
  (ht:eval (.Call (.Attribute (.Name y np) "__init__" apos) (e :: es) [] cpos) X.env = (do
   let ov ← eval (.Name y np) X.env
   standAt apos.atName
   let (f,first) ← holding [ov] (getMethod ov "__init__" pl)
   callWith cpos f first (backTo cpos (starEach (e :: es) X.env)) (backToKw cpos (keywordEach [] X.env))):=by rfl) :
  PE X (.Call (.Attribute (.Name y np) "__init__" apos) (e :: es) [] cpos) (fun σ H Q=>t σ H fun vs H1=>rBI C vs H1 Q):=by
 intro pins s σ H Q I h
 refine PySem.W.methodCall_KW (pl:=pl) (j0f I hg hm ?_ hdb) ht
 refine method_cls I.kIn B.sp (cls_value I.kIn B.rd B.fc rfl ?_)
 have hA:=ha cpos pins _ σ H _ (I.tok (s.toks + 1)) h
 rw [hst] at hA ⊢
 refine Calls.callWith_builtin (by show (false || (backTo cpos (starEach es X.env)).any (·.1)) = false; rw [hpl] <;> rfl) (Calls.evalArgs_plain ?_)
 refine thn hA fun us s2 ⟨vs,H2,I2,r,q⟩=>?_
 obtain ⟨e',od,x,rfl,he,hq⟩:=q
 obtain ⟨t0,ge⟩:=(I2.hok e' _ he).1
 obtain ⟨bm,N,nm,q,bs,hdct,sn,sub,ab,col,dd,k0,k1,k2,k3,k5,hC,T⟩:=(ecls I2.kIn hc).obj
 cases r with
 | cons r1 rr =>
  cases rr with
  | cons r2 rr =>
   cases rr
   cases (show _ = Value.ref e' from r1)
   obtain ⟨hh,g,d,tk,os⟩:=s2
   refine d1d T hC ge fun h' k hx=>⟨.non,H2,?_,rfl,hq⟩
   have:=I2.write (x:=e') (e:=e') (o:=.ext (exI e' C od)) (t':=tk) (h':=h') (by rw [he]; exact True.intro) (.inl rfl) (fun b u ne z=>k b u ne z) (let ⟨t1,g1⟩:=hx; ⟨_,g1⟩) (exI.ok hx)
   rw [l1v he] at this
   exact this
def sXF (C:Addr) (tv:TE) (i:Nat) (f:Str):TS:=fun D σ H=>tv σ H fun y H1=>∃ e,σ[i]? = some (some (.ref e))∧H1 e = some (.ext (exI e C none)) ∧
 ∀ dx,H1 dx = none→dx ≠ e→D.nx σ (upd (upd H1 e (.ext (exI e C (some dx)))) dx (.xd [(f,y)]))
theorem j1g {i:Nat} {sn:Str} {fI:Addr} (c:ExcI X.K C fI f) (hv:PE X value tv) (hi:PE X (.Name sn sp) (tVar i)) (hs:swapsWith value (some (.Attribute (.Name sn sp) f pos')) pos.line X.env = pure false:=by rfl) :
  PS X (.Assign [.Attribute (.Name sn sp) f pos'] value pos) (sXF C tv i f):=by
 intro pins s σ H D I h
 refine plainObj_wpAny_Assign_Attribute (thn (hv pins s σ H _ I h) fun u s1 ⟨yv,H1,I1,ry,e,e1,e2,q⟩=>thn (hi pins s1 σ H1 (fun x H2=>x = .ref e∧H2 = H1) I1 ⟨.ref e,e1,rfl,rfl⟩) fun ov s2 ⟨x,H2,I2,rx,ex,eH⟩=>?_) hs
 subst ex eH
 obtain rfl:ov = Value.ref e:=rx
 obtain ⟨t0,ge⟩:=(I2.hok e _ e2).1
 obtain ⟨bm,N,nm,q',bs,sn',sub,ab,col,dd,k0,k1,k2,k3,k5,mN,hC,hN,_,T⟩:=(a1o I2.kIn c.cl).obj
 obtain ⟨hh,g,d,tk,os⟩:=s2
 refine i1t I2.kIn T hC c.sa c.na ge rfl rfl (fun _ z=>nomatch z) fun h' dx tk' hn ne hz gx nx k=>?_
 have ud:H2 dx = none:=I2.hok.fresh hz
 have I3:=I2.write (x:=e) (e:=e) (o:=.ext (exI e C (some dx))) (t':=tk') (h':=h') (by rw [e2]; exact True.intro) (.inl rfl) (fun b u ne z=>k b u ne z) ⟨_,gx⟩ (exI.ok ⟨t0,gx⟩)
 have sz0:X.s₀.heap.objs.size ≤ dx:=Nat.le_trans I2.sz hz
 have ge':∀ b o,hh.get? b = some o→b ≠ dx:=fun b o z w=>by rw [w,hn] at z; cases z
 have I4:=I3.track2 (e:=dx) (o:=.xd [(f,yv)]) (by rw [a0o ne]; exact ud) (Heap.get?_none_of_le sz0)
  (fun z=>by obtain ⟨m1,⟨o1,_,_,ho1,_⟩,_⟩:=id I2.loc; exact ge' _ _ ho1 z)
  (fun x c q z=>by obtain ⟨v,o1,ho1,_⟩:=I2.cell x c q; exact ge' _ _ ho1 z)
  (fun p hp z=>ge' _ _ (I2.pin p hp).1 z) ⟨_,nx,fun g=>?_⟩
 ·exact ⟨σ,_,I4,q dx ud ne⟩
 ·show RelO (List.lookup g [(f,yv)]) (if g = f then some u else none)
  by_cases z:g = f
  ·rw [if_pos z]
   have hb:(g == f) = true:=beq_iff_eq.mpr z
   simp only [List.lookup,hb]
   exact ry
  ·rw [if_neg z]
   have hb:(g == f) = false:=beq_eq_false_iff_ne.mpr z
   simp only [List.lookup,hb]
   trivial
end
section
variable {X:Cx} {R:VK} {C fI:Addr} {f x:Str}
def tRsI (C:Addr) (f:Str) (sp:Sp) (t0:TE):TS:=fun D σ H=>t0 σ H fun v H1=>∀ e,H1 e = none→sp [.ref e,v] (upd H1 e (.ext (exI e C none)))
 (fun r H2=>r = .non∧∃ dx y,H2 e = some (.ext (exI e C (some dx)))∧H2 dx = some (.xd [(f,y)])∧dx ≠ e∧H1 dx = none∧D.rt y (rm H2 e)) E0
theorem k0m {k:Nat} {fd:FuncData} {ps:List Str} {sp:Sp} (T:Tie X C (some f) R) (hc:X.calm = true) (hm:X.mg x = some (.ref C)) (c:ExcI X.K C fI f) (F:FnOk X.prog X.w X.K X.mg X.base CX0 k fI fd ps sp) (hr:Room (k + 1) X.A) (hb:n0s X.K fd ps [])
  {e0:Expr} {t0:TE} {np cpos pos:Pos} (ha:PE X.nox e0 t0) (hg:Gl X x:=by rfl) (he:starEach [e0] X.env = [(false,eval e0 X.env)]:=by rfl) (hdb:(x == ("__debug__" : Str)) = false:=by decide) :
  PSr X R (.Raise (some (.Call (.Name x np) [e0] [] cpos)) none pos) (tRsI C f sp t0):=by
 intro pins s σ H D e I h
 obtain ⟨tl,N,nm,q,bs,sn,sub,ab,col,dd,k0,k1,k2,k3,k5,mN,hC,hN,hi,tw⟩:=(a1o I.mod.kin c.cl).obj
 obtain ⟨oI,lkI,hfc⟩:=Option.map_eq_some_iff.mp (show (X.K.lookup fI).map (·.cls) = some (.type "function") from c.fn)
 refine n0i (k5:=k5) (k3:=k3) (k2:=k2) (k1:=k1) (k0:=k0) (dd:=dd) (col:=col) (ab:=ab) (sub:=sub) (sn:=sn) (hdct:=true) (bs:=bs) (N:=N) (q:=q) (nm:=nm) (C:=C) (bm:=tl) (mN:=mN) (fI:=fI) (oI:=oI) PySem.F.excBase_ValueError (tw.hasType (by decide +kernel)) (I.ok.hd hc) (by rw [he]; rfl) hi hfc (j0f I hg hm ⟨rfl,?_⟩ hdb)
 rw [he]
 refine Calls.evalArgs_plain (Calls.spliced_cons ?_)
 refine thn (ha.nox pins s σ H _ I h) fun u s1 ⟨v,H1,I1,r1,q1⟩=>Calls.spliced_nil ?_
 refine ⟨rfl,by show (1:Nat) ≤ _; decide,I1.bk _ _ hC,hN.keeps I1.bk,tw.keeps I1.bk,I1.kIn _ _ lkI,fun h' a mk=>?_⟩
 obtain ⟨tt,g1,g2,g3⟩:=mk.there
 have ua:H1 a = none:=by
  cases z:H1 a with
  | none=>rfl
  | some o =>
   obtain ⟨u,z'⟩:=I1.hok.get z
   rw [mk.new] at z'; cases z'
 have y0:=I1.back0 T.ex mk.new
 have ga:∀ b o,s1.heap.get? b = some o→b ≠ a:=fun b o z w=>by rw [w,mk.new] at z; cases z
 have It:=(I1.kept (t':=s1.toks) mk.keeps).track2 (e:=a) (o:=.ext (exI a C none)) ua y0
  (fun z=>by obtain ⟨m1,⟨o1,_,_,ho1,_⟩,_⟩:=id I1.loc; exact ga _ _ ho1 z)
  (fun x c q z=>by obtain ⟨v,o1,ho1,_⟩:=I1.cell x c q; exact ga _ _ ho1 z)
  (fun p hp z=>ga _ _ (I1.pin p hp).1 z) (exI.ok ⟨tt,g1⟩)
 have hl:([Value.ref a,u]:List Value).length = ps.length:=F.len _ _ _ _ (q1 a ua)
 refine wpAny_call (codeAny_mono (F.run _ X.stack _ _ ⟨[Value.ref a,u],[]⟩ [Value.ref a,u] [.ref a,v] _ E0 (hr.make C [u] []) (It.env0.make C [u] []) (by have:=hb _ [Value.ref a,u] It.kIn (by simpa using hl); simpa using this) (.cons rfl (.cons r1 .nil)) (q1 a ua)) fun rr s' hq=>?_)
 cases rr with
 | error ev=>exact False.elim hq
 | ok fl =>
  cases fl with
  | next=>exact False.elim hq
  | brk=>exact False.elim hq
  | cont=>exact False.elim hq
  | ret w' =>
   obtain ⟨v',H2,os,bare,un,hok,rv,ev,dx,y,e2,e3,ne,ud,qq⟩:=hq
   subst ev
   have I2:Inv X pins σ H2 s':=It.call' os un hok bare fun b z=>nomatch z
   have yd:X.s₀.heap.get? dx = none:=by
    refine I1.back0 T.ex ?_
    cases z:s1.heap.get? dx with
    | none=>rfl
    | some o =>
     have:=un.free dx o (mk.keeps _ _ z) (by rw [a0o ne]; exact ud) (fun z=>nomatch z)
     rw [e3] at this; cases this
   have I3:=I2.untrack e2 y0
   obtain ⟨t1,g4⟩:=(I2.hok a _ e2).1
   refine ⟨rv,I2.bk _ _ hC,t1,some dx,g4,?_⟩
   exact T.run I3 ⟨_,_,.none,g4,rfl,rfl,rfl,rfl,y0,z0x,.inl rfl⟩ (fun z w=>by cases w; exact yd) ⟨dx,rfl,by rw [t0n ne]; exact e3⟩ (e ▸ qq)
end
def spIP (C:Addr) (f:Str):Sp:=fun vs H Q _=>∃ e,∃ n:Nat,vs = [.ref e,.int n]∧n < 10000000000000000000000000000000000000000000000000000000000000000000000∧H e = some (.ext (exI e C none))∧∀ dx,H dx = none→dx ≠ e→Q .non (upd (upd H e (.ext (exI e C (some dx)))) dx (.xd [(f,.int n)]))
theorem tn3:∀ k:Nat,k < 10000000000000000000000000000000000000000000000000000000000000000000000→(toString (k:Int):Str).length ≤ 70:=fun k h=>toString_length_le (v:=(k:Int)) (k:=70) (by omega) (by decide) (by omega)
theorem p1u {k:Nat} (h:k < 10000000000000000000000000000000000000000000000000000000000000000000000):(k:Int).natAbs.log2 < 1920:=by
 rw [Int.natAbs_natCast]
 by_cases h0:k = 0
 ·subst h0; decide
 ·have:=(Nat.log2_lt h0).mpr (show k < 2 ^ 233 by omega)
  omega
section
variable {K:PySem.W.Frag} {C:Addr} {f:Str} {pr:Nat→Bool} {t0:TE} {a0:AE}
theorem i1x {H:Hp} {e dx:Addr} {o o1 o2:HO} (he:H e = none) (ne:dx ≠ e):rm (upd (upd (upd H e o) e o1) dx o2) e = upd H dx o2:=by
 funext b
 unfold rm upd
 by_cases z:b = e
 ·subst z; rw [if_pos rfl,if_neg (Ne.symm ne),he]
 ·rw [if_neg z]
  by_cases w:b = dx
  ·rw [if_pos w,if_pos w]
  ·rw [if_neg w,if_neg w,if_neg z,if_neg z]
def aRsP (a:AE):AS:=fun k ρ=>a ρ fun r ρ1=>match r with
 | .d (.int i)=>(0 ≤ i∧i < 10000000000000000000000000000000000000000000000000000000000000000000000)∧k.rt (.d (.int i)) ρ1
 | _=>False
theorem k0i (ha:TEok K t0 a0):TSok K pr (tRsI C f (spIP C f) t0) (aRsP a0):=by
 intro F σ ρ H D k hp r h ko
 refine ha F σ ρ H _ _ r h fun r1 ρ1 v H1 h1 o=>?_
 obtain ⟨r',k1,i1⟩:=o.inF
 split at h1
 ·rename_i i
  obtain ⟨⟨l0,l2⟩,h1⟩:=h1
  have ev:v = .int i:=i1.int
  subst ev
  intro e ue
  refine ⟨e,i.toNat,by rw [Int.toNat_of_nonneg l0],by omega,b0g,fun dx hd ne=>⟨rfl,dx,.int i,?_,?_,ne,?_,?_⟩⟩
  ·rw [a0o (Ne.symm ne),b0g]
  ·rw [b0g,Int.toNat_of_nonneg l0]
  ·rw [a0o ne] at hd; exact hd
  ·rw [a0o ne] at hd
   rw [i1x ue ne]
   refine ko.rt σ ρ1 (.d (.int i)) _ _ h1 ⟨r'.fresh hd,?_⟩
   unfold RepD; rfl
 ·exact h1.elim
end
section
variable {prog:Program} {w:World} {A:Around} {E:Value→Shared→Prop} {s:Shared} {K:PySem.W.Frag} {x D:Addr} {ox:Obj} {odo:Option Obj}
theorem k1h {name:Str} {v:Value} {Q:Value→Shared→Prop} (KX:K.In s.heap) (I:PySem.W.InstAt s.heap x ox D odo) (hga:findIn K (.ref D) "__getattribute__" = some (some (.builtin "BaseException.__getattribute__"))) (hgn:findIn K (.ref D) "__getattr__" = some none)
  (hf:findObj K D odo name = some (.value v)) (hb:subIn K (.ref D) (.type "BaseException") = some true) (hh:handedIn v = true)
  (h:Q v { s with toks:=s.toks + 1 }):wpAny (model prog w) A (getAttr (.ref x) name true) Q E s:=by
 obtain ⟨hp,g,d,t,os⟩:=s
 have L0:=I.type (M:=model prog w)
 have L1:=looks_findIn (M:=model prog w) KX hga
 have L2:=looks_findIn (M:=model prog w) KX hgn
 have L3:=looks_find (M:=model prog w) KX I hf
 have L4:=looks_subIn (M:=model prog w) KX hb
 have f3:=PySem.F.excAttr_ValueError.ga.bind (.ref x)
 have hk:builtinKind "BaseException.__getattribute__" = some .slot:=by decide +kernel
 have hsp:splitId "BaseException.__getattribute__" = some ("BaseException", "__getattribute__"):=by decide +kernel
 have ha:=PySem.F.args_bexc_ga (.ref x) (.str name t)
 unfold getAttr getAttrBy
 refine wpAny_bind (wpAny_mkText (wpAny_holding (wpAny_bind (L0.at (wpAny_bind (L1.at ?_))))))
 show wpAny _ _ (getAttrByItsOwn _ _ _ _ _ _) _ _ _
 unfold getAttrByItsOwn
 repeat (any_goals (first | assumption | with_reducible refine L0.at ?_ | with_reducible refine L1.at ?_ | with_reducible refine L2.at ?_ | wp_step))
 refine codeAny_call_builtin PySem.F.excAttr_ValueError.ga.plain PySem.F.entry_bexc_ga ?_
 simp only [checkBuiltinCall,hk,hsp]
 refine wpAny_bind ?_
 unfold isInstance
 repeat (any_goals (first | assumption | with_reducible refine L0.at ?_ | with_reducible refine L4.at ?_ | with_reducible refine L3.at ?_ | wp_step))
 show wpAny _ _ (handedOut v) _ _ _
 exact handed_on hh h
end
structure ExG (K:PySem.W.Frag) (C:Addr) (f:Str):Prop extends ExIs K C where
 na:findIn K (.ref C) f = some none
 hd:hasDictIn K C = true
def l1x (K:PySem.W.Frag) (ta:TE) (f:Str):TE:=fun σ H Q=>ta σ H fun x H1=>∃ e C dx fs v,x = .ref e∧H1 e = some (.ext (exP e C (some dx)))∧H1 dx = some (.xd fs)∧fs.lookup f = some v∧ExG K C f∧Q v H1
section
variable {X:Cx} {e:Expr} {ta:TE} {f:Str} {pos:Pos} {K:PySem.W.Frag}
theorem j1w {h:Heap} {dx:Addr} {o:Obj} {mA:Str→Option Value} {n:Str} {u:Value} (hN:h.Ns1 dx mA) (ho:h.get? dx = some o) (hu:mA n = some u):lookIn n o = some (some u):=by
 obtain ⟨o',es,ep,ho',hd,_,_,hf⟩:=hN
 rw [ho] at ho'
 cases ho'
 unfold lookIn
 rw [hd]
 dsimp only
 have q:=hf n
 rw [hu] at q
 unfold nsFind findBy at q
 rw [← Array.find?_toList] at q
 obtain ⟨en,q1,q2⟩:=Option.map_eq_some_iff.mp q
 rw [q1]
 dsimp only
 rw [q2]
theorem a1l (he:PE X e ta) (hb:attributeBase e f X.env (eval e X.env) = eval e X.env:=by rfl):PE X (.Attribute e f pos) (l1x X.K ta f):=by
 intro pins s σ H Q I h
 refine l1e hb (thn (he pins s σ H _ I h) fun u s1 ⟨x,H1,I1,rx,a,C,dx,fs,v,ex,ea,ed,l,g,q⟩=>?_)
 subst ex
 obtain rfl:u = Value.ref a:=rx
 obtain ⟨⟨oe,vs,ge,gc,gd,gf⟩,_,_⟩:=I1.hok a _ ea
 obtain ⟨mA,hN,r⟩:=I1.hok dx _ ed
 obtain ⟨od,_,_,ho,_⟩:=id hN
 obtain ⟨u,hu,ru⟩:=RelO.some_of (v:=v) (o:=mA f) (by rw [← l]; exact r f)
 have it:PySem.W.InstAt s1.heap a oe C (some od):=⟨ge,gc,by unfold notCls; rw [gf],by rw [gd]; exact ho⟩
 obtain ⟨cd,hcd,hcd2⟩:=any_some g.hd
 refine k1h I1.kIn it g.ga g.gn (v:=u) ?_ g.be (b1w ru) ⟨v,H1,I1.tok _,ru,q⟩
 unfold findObj PySem.W.ownOf
 rw [hcd,Option.bind_some,g.na,Option.bind_some]
 simp only [Option.bind_some,hcd2,if_pos]
 rw [j1w hN ho hu]
 rfl
def o1u (K:PySem.W.Frag) (i:Nat) (f:Str):AE:=fun ρ q=>match gt ρ i with
 | .ex C (some fs)=>∃ d,fs.lookup f = some d∧ExG K C f∧q (.d d) ρ
 | _=>False
theorem w0o {Hh:Hp} {f:Str} {d:D}:∀ {ks:List (Str × V)} {fs:List (Str × D)},ks.map Prod.fst = fs.map Prod.fst→RepDs K Hh (ks.map Prod.snd) (fs.map Prod.snd)→fs.lookup f = some d→∃ v,ks.lookup f = some v∧RepD K Hh v d
 | [],[],_,_,h=>by cases h
 | (k,v) :: ks,(g,d') :: fs,e,r,h=>by
  simp only [List.map_cons,List.cons.injEq] at e
  obtain ⟨e1,e2⟩:=e
  simp only [List.map_cons] at r
  unfold RepDs at r
  subst e1
  simp only [List.lookup] at h ⊢
  split at h
  ·rename_i q; cases h; exact ⟨v,rfl,r.1⟩
  ·rename_i q; exact w0o e2 r.2 h
 | [],_ :: _,e,_,_=>by cases e
 | _ :: _,[],e,_,_=>by cases e
theorem v0q {i:Nat}:TEok K (l1x K (tVar i) f) (o1u K i f):=by
 intro F σ ρ H q Q a h b
 have s:=a.sl i
 unfold o1u at h
 split at h
 ·rename_i C fs hg
  rw [hg] at s
  obtain ⟨e,od,e1,e2,e3⟩:=s
  obtain ⟨d,h1,h2,h3⟩:=h
  cases od with
  | none=>exact e3.elim
  | some dx =>
   obtain ⟨ks,k1,k2,k3⟩:=e3
   obtain ⟨v,l,rv⟩:=w0o k2 k3 h1
   exact ⟨.ref e,e1,e,C,dx,ks,v,rfl,(g0x.mp e2).2,(g0x.mp k1).2,l,h2,b (.d d) ρ v H h3 ⟨a,.refl,rv⟩⟩
 ·exact h.elim
end
def p1z:Stmt→Stmt
 | .ClassDef _ _ _ (st :: _) _ _ _ _ _ _ _=>st
 | _=>.Pass ⟨0,0,0,0⟩
structure y0p (K:PySem.W.Frag) (C fI:Addr) (f qual:Str) (st:Stmt) (ps:List Str):Prop where
 xi:ExcI K C fI f
 fn:∃ fd,Fun K "__init__" qual st fI fd∧∀ us:List Value,us.length = ps.length→bindArgs fd ⟨us,[]⟩ = pure (ps.zip us)
theorem f1i {K:PySem.W.Frag} {C fI:Addr} {f qual:Str} {st:Stmt} {ps:List Str} {oc:Value} {od an:Option Addr} {osl:Array (Option Value)} {kV doc pm cdv ct:Value} (i:findIn K (.ref C) "__init__" = some (some (.ref fI)))
  (l:K.lookup fI = some ⟨oc,od,.func (PySem.W.fnOf "__init__" qual (g0z st) (d0k st) (a0l st) .none kV doc pm an cdv ct),osl⟩) (c:PySem.W.codeIn K cdv qual = true) (k:PySem.W.keepIn K (.ref fI) = true)
  (cl:n0d K C fI = true) (fn:typeIn K (.ref fI) = some (.type "function")) (sa:findIn K (.ref C) "__setattr__" = some (some (.builtin "object.__setattr__"))) (na:findIn K (.ref C) f = some none)
  (hb:∀ (kV doc pm:Value) (an:Option Addr) (cdv ct:Value) (us:List Value),us.length = ps.length→bindArgs (PySem.W.fnOf "__init__" qual (g0z st) (d0k st) (a0l st) .none kV doc pm an cdv ct) ⟨us,[]⟩ = pure (ps.zip us)):y0p K C fI f qual st ps :=
 ⟨⟨cl,fn,sa,na⟩,_,h1u l c k,fun us hl=>hb kV doc pm an cdv ct us hl⟩
theorem c1h {K:PySem.W.Frag} {C:Addr} (q:excIn K C bmV "ValueError.__new__" = true):i0w K C = true:=by
 unfold excIn at q
 unfold i0w
 split at q
 next dd cd sl lk =>
  try rw [lk]
  split at q
  next C' bm k0 k1 k2 k3 n k5 em es =>
   simp only [Bool.and_eq_true,beq_iff_eq,Bool.not_eq_true'] at q
   obtain ⟨⟨⟨⟨⟨rfl,rfl⟩,nd⟩,tl⟩,nk⟩,ni⟩:=q
   first | (simp [em,es,nd,tl]; done) | simp_all
  ·cases q
 ·cases q
theorem y0g {K:PySem.W.Frag} {C fI:Addr} (q:n0d K C fI = true):i0w K C = true:=by
 unfold n0d at q
 unfold i0w
 split at q
 next dd cd sl lk =>
  try rw [lk]
  split at q
  next C' bm k0 k1 k2 k3 n k5 em es =>
   simp only [Bool.and_eq_true,beq_iff_eq,Bool.not_eq_true'] at q
   obtain ⟨⟨⟨⟨⟨⟨rfl,rfl⟩,nd⟩,tl⟩,nk⟩,ni⟩,hd⟩:=q
   first | (simp [em,es,nd,tl]; done) | simp_all
  ·cases q
 ·cases q
theorem j3 {σ:St} {H:Hp} {Q:VK} {a c:Str} {n i:Nat} (ha:a.length ≤ 1000) (hc:c.length ≤ 1000) (hn:n < 10000000000000000000000000000000000000000000000000000000000000000000000) (hv:σ[i]? = some (some (.int n))) (h:∀ t,Q (.str t) H):b1n (tC (.str a)) (b1n (tFmt (tVar i)) (b1n (tC (.str c)) jNil)) Str.empty σ H Q:=by
 have t3:=tn3 n hn
 have l0:Str.empty.length = 0:=rfl
 have e1:(Str.empty ++ a).length ≤ 1000:=by rw [Str.length_append,l0]; omega
 have e2:(Str.empty ++ a ++ (toString (n:Int):Str)).length ≤ 1070:=by rw [Str.length_append]; omega
 have e3:(Str.empty ++ a ++ (toString (n:Int):Str) ++ c).length ≤ 2070:=by rw [Str.length_append]; omega
 refine ⟨_,rfl,by rw [sizeLine_eq]; omega,.int n,hv,n,rfl,p1u hn,_,rfl,by rw [sizeLine_eq]; omega,_,rfl,by rw [sizeLine_eq]; omega,by rw [sizeLine_eq]; omega,h _⟩
end L2
namespace L2
open PySem PySem.Spec PyProof.Rows
section
variable {M:Model} {A:Around} {E:Value→Value→Shared→Prop} {s:Shared} {base:Heap} {env:Env} {outer:List Env} {L e C:Addr} {oe:Obj} {vs:Array Value} {od:Option Addr}
theorem r0z {E0:Value→Shared→Prop} {hd:Value} {had:Bool} {Q:Value→Unit→Shared→Prop} (fr:A.frames = some (env :: outer)) (ff:s.heap.FunFrames base (env :: outer)) (lf:env.frame = some L)
  (ge:s.heap.get? e = some oe) (gc:oe.cls = .ref C) (gd:oe.dict = od) (gf:oe.data = .fields vs) (gz:1 < vs.size)
  (fin:∀ h' T,s.heap.objs.size ≤ T→Fly od h' e C T→(∀ b o,s.heap.get? b = some o→b ≠ e→b ∉ frs (env :: outer)→h'.get? b = some o)→(∀ b o,s.heap.get? b = some o→b ≠ e→∃ sl,h'.get? b = some { o with slots:=sl })→Q (.ref e) () { s with heap:=h' }) :
  wpAny M A (do let a ← frameOf env; let pl ← entryPlaceOf L had; let b ← EntryCells.newEntry hd a .none (rawInt L) .none pl; setField (.ref e) 1 b) (fun _ s'=>cameBackBy M A env (fun x s2=>wpAny M A (leaving env x) (Q x) (E x) s2) (.ref e) s') E0 s:=by
 have off:e ∉ frs (env :: outer):=fun q=>by
  obtain ⟨_,o,go,no⟩:=ff.mem q
  cases ge.symm.trans go
  exact no vs gf
 refine wpAny_bind (wpAny_frameOf_fun fr ff lf fun ha sa=>wpAny_bind (wpAny_entryPlaceOf fun pl ip=>?_))
 unfold EntryCells.newEntry newFields
 refine wpAny_bind (wpAny_newObj_type ?_ (ip.sizeOk5 _ _ _ _ _))
 have ge1:ha.get? e = some oe:=(sa.2.1 e off).trans ge
 have sz:ha.objs.size = s.heap.objs.size:=sa.1
 generalize hT:([hd,Value.ref L,.none,rawInt L,.none] ++ (if pl.isEmpty then List.replicate 6 Value.none else pl)).toArray = tv
 have tz:3 < tv.size:=by rw [← hT,List.size_toArray,List.length_append]; simp only [List.length_cons,List.length_nil]; omega
 have neT:e ≠ ha.objs.size:=Nat.ne_of_lt (Heap.lt_size ge1)
 refine wpAny_setField (Heap.get?_push_of_some _ ge1) gf gz ?_
 generalize hp:ha.push { cls:=.type "traceback",dict:=none,data:=.fields tv } = hb
 have gT:hb.get? ha.objs.size = some { cls:=.type "traceback",dict:=none,data:=.fields tv }:=by rw [← hp]; exact Heap.get?_push_size _ rfl
 have kb:∀ b o,ha.get? b = some o→hb.get? b = some o:=fun b o q=>by rw [← hp]; exact Heap.get?_push_of_some _ q
 have w1:=Obj.data_mapFields gf fun a=>a.setIfInBounds 1 (.ref ha.objs.size)
 have g3:=Heap.get?_update_self (Obj.mapFields fun a=>a.setIfInBounds 1 (.ref ha.objs.size)) (kb e oe ge1) (Obj.isFreed_of_fields w1)
 have gT3:=(Heap.get?_update_other hb (Obj.mapFields fun a=>a.setIfInBounds 1 (.ref ha.objs.size)) neT).trans gT
 unfold cameBackBy
 refine wpAny_bind (wpAny_field g3 w1 (x:=.ref ha.objs.size) (by simp [gz]) ?_)
 rw [if_neg (by simp:¬ (Value.ref ha.objs.size == Value.none) = true)]
 rw [lf]
 unfold setFlight
 refine wpAny_bind (wpAny_field g3 w1 (x:=.ref ha.objs.size) (by simp [gz]) ?_)
 rw [if_pos (by simp:(Value.ref ha.objs.size != Value.none) = true)]
 refine wpAny_setField gT3 rfl tz ?_
 generalize hh2:hb.update e (Obj.mapFields fun a=>a.setIfInBounds 1 (.ref ha.objs.size)) = hc at g3 gT3 ⊢
 have g4:=(Heap.get?_update_other hc (Obj.mapFields fun a=>a.setIfInBounds 3 ((some L:Option Addr).elim Value.none fun f=>rawInt f)) neT.symm).trans g3
 have w4:=Obj.data_mapFields (o:={ cls:=.type "traceback",dict:=none,data:=.fields tv }) rfl fun a=>a.setIfInBounds 3 ((some L:Option Addr).elim Value.none fun f=>rawInt f)
 have gT4:=Heap.get?_update_self (Obj.mapFields fun a=>a.setIfInBounds 3 ((some L:Option Addr).elim Value.none fun f=>rawInt f)) gT3 (Obj.isFreed_of_fields w4)
 unfold leaving noteFrame
 simp only [lf]
 refine wpAny_bind (wpAny_bind (wpAny_field g4 w1 (x:=.ref ha.objs.size) (by simp [gz]) ?_))
 rw [if_pos (by simp:(Value.ref ha.objs.size != Value.none) = true)]
 refine wpAny_bind (wpAny_field gT4 w4 (x:=rawInt L) (by simp [tz]) ?_)
 rw [if_pos (by simp:(rawInt L == rawInt L) = true)]
 refine wpAny_pure ?_
 unfold setFlight
 refine wpAny_bind (wpAny_field g4 w1 (x:=.ref ha.objs.size) (by simp [gz]) ?_)
 rw [if_pos (by simp:(Value.ref ha.objs.size != Value.none) = true)]
 refine wpAny_setField gT4 w4 (by simp [tz]) ?_
 have w5:=Obj.data_mapFields w4 fun a=>a.setIfInBounds 3 ((none:Option Addr).elim Value.none fun f=>rawInt f)
 have on:∀ b o,b ≠ e→ha.get? b = some o→((hc.update ha.objs.size (Obj.mapFields fun a=>a.setIfInBounds 3 ((some L:Option Addr).elim Value.none fun f=>rawInt f))).update ha.objs.size (Obj.mapFields fun a=>a.setIfInBounds 3 ((none:Option Addr).elim Value.none fun f=>rawInt f))).get? b = some o:=fun b o ne q=>by
  rw [Heap.get?_update_other _ _ (Nat.ne_of_gt (Heap.lt_size q)),Heap.get?_update_other _ _ (Nat.ne_of_gt (Heap.lt_size q)),← hh2,Heap.get?_update_other _ _ (Ne.symm ne)]
  exact kb b o q
 refine fin _ ha.objs.size (by rw [sz]; exact Nat.le_refl _) ⟨_,_,_,_,(Heap.get?_update_other _ _ neT.symm).trans g4,(Obj.cls_mapFields _ _).trans gc,?_,w1,by simp [gz],neT.symm,Heap.get?_update_self _ gT4 (Obj.isFreed_of_fields w5),w5,by simp [tz]⟩ (fun b o q ne nf=>on b o ne ((sa.2.1 b nf).trans q)) fun b o q ne=>?_
 ·obtain ⟨oc,od,oda,osl⟩:=oe
  cases gf
  exact gd
 ·obtain ⟨sl,q'⟩:=sa.2.2 b o q
  exact ⟨sl,on b _ ne q'⟩
theorem lv2 {E0:Value→Shared→Prop} {hv:Value} {Q:Value→Unit→Shared→Prop} (fr:A.frames = some (env :: outer)) (ff:s.heap.FunFrames base (env :: outer)) (lf:env.frame = some L)
  (ge:s.heap.get? e = some oe) (gc:oe.cls = .ref C) (gd:oe.dict = od) (gf:oe.data = .fields vs) (g1:vs[1]? = some hv)
  (hh:hv = .none ∨ ∃ T oT ts,hv = .ref T∧T ≠ e∧s.heap.get? T = some oT∧oT.data = .fields ts∧ts[3]? = some .none)
  (fin:∀ h' T,s.heap.objs.size ≤ T→Fly od h' e C T→Gone (frs (env :: outer)) s.heap h' e hv→Q (.ref e) () { s with heap:=h' }) :
  wpAny M A (noteFrame (.ref e) env) (fun _ s'=>cameBackBy M A env (fun x s2=>wpAny M A (leaving env x) (Q x) (E x) s2) (.ref e) s') E0 s:=by
 have gz:=(Array.getElem?_eq_some_iff.mp g1).1
 unfold noteFrame
 simp only [lf]
 refine wpAny_bind (wpAny_field ge gf g1 ?_)
 rcases hh with rfl | ⟨T,oT,ts,rfl,nT,gT,fT,t3⟩
 ·rw [if_neg (by decide)]
  exact r0z fr ff lf ge gc gd gf gz fun h' T' q1 q2 q3 q4=>fin h' T' q1 q2 ⟨fun b o a1 a2 _ a4=>q3 b o a1 a2 a4,fun b o a1 a2 _=>q4 b o a1 a2⟩
 ·rw [if_pos (by simp:(Value.ref T != Value.none) = true)]
  refine wpAny_bind (wpAny_field gT fT t3 ?_)
  rw [if_neg (by simp [rawInt]:¬ (Value.none == rawInt L) = true)]
  refine wpAny_bind (wpAny_setField gT fT (Array.getElem?_eq_some_iff.mp t3).1 ?_)
  have ot:∀ b,b ≠ T→(s.heap.update T (Obj.mapFields fun a=>a.setIfInBounds 3 Value.none)).get? b = s.heap.get? b:=fun b q=>Heap.get?_update_other _ _ (Ne.symm q)
  have gT':=Heap.get?_update_self (Obj.mapFields fun a=>a.setIfInBounds 3 Value.none) gT (Obj.isFreed_of_fields (Obj.data_mapFields fT _))
  have nr:∀ b o,s.heap.get? b = some o→(∀ us,o.data ≠ .fields us)→b ≠ T:=fun b o q nf z=>by
   subst z
   cases gT.symm.trans q
   exact nf ts fT
  refine r0z fr (ff.of_keeps fun b o q nf=>⟨o,(ot b (nr b o q nf)).trans q,rfl⟩) lf ((ot e nT.symm).trans ge) gc gd gf gz fun h' T' q1 q2 q3 q4=>fin h' T' ?_ q2 ⟨fun b o a1 a2 a3 a4=>q3 b o ((ot b fun z=>a3 (by rw [z])).trans a1) a2 a4,fun b o a1 a2 a3=>q4 b o ((ot b fun z=>a3 (by rw [z])).trans a1) a2⟩
  rwa [Heap.size_update] at q1
end
def Cx.pz (X:Cx):Value→Shared→Prop:=notedBy (model X.prog X.w) X.A X.env (cameBackBy (model X.prog X.w) X.A X.env X.xe)
section
variable {X:Cx} {pins:List (Addr × Obj)} {σ:St} {H:Hp} {s:Shared} {h0:Heap} {e C:Addr} {od:Option Addr}
theorem lvI2 {E0:Value→Shared→Prop} {E:Value→Value→Shared→Prop} {Q:Value→Unit→Shared→Prop} (I:Inv X pins σ H s) (hs:X.stack = X.env :: X.outer) (hf:X.env.frame = some X.env.locals) (hsub:∀ b o,h0.get? b = some o→b < s.heap.objs.size) (hot:Hot od h0 s.heap H e C)
  (fin:∀ h' ch,(∀ b ∈ ch,h0.get? b = none∧H b = none)→e ∈ ch→Un (frs X.stack) ch H H s.heap h'→HOk X.prog X.w H h'→Hot od h0 h' H e C→Q (.ref e) () { s with heap:=h' }) :
  wpAny (model X.prog X.w) X.A (noteFrame (.ref e) X.env) (fun _ s'=>cameBackBy (model X.prog X.w) X.A X.env (fun x s2=>wpAny (model X.prog X.w) X.A (leaving X.env x) (Q x) (E x) s2) (.ref e) s') E0 s:=by
 obtain ⟨oe,vs,hv,ge,gc,gd,gf,g1,ye,ue,hh⟩:=hot
 have hh':hv = .none ∨ ∃ T oT ts,hv = .ref T∧T ≠ e∧s.heap.get? T = some oT∧oT.data = .fields ts∧ts[3]? = some .none:=by
  rcases hh with q | ⟨T,oT,ts,q1,q2,q3,q4,q5,_⟩
  ·exact .inl q
  ·exact .inr ⟨T,oT,ts,q1,q2,q3,q4,q5⟩
 refine lv2 (hs ▸ I.ok.frames) (hs ▸ I.stack) hf ge gc gd gf g1 hh' fun h' T q1 ⟨oe',vs',oT',ts',f1,f2,f3,f4,f5,f6,f7,f8,f9⟩ g=>?_
 have hch:∀ b ∈ e :: (match hv with | .ref T=>[T] | _=>[]),h0.get? b = none∧H b = none:=fun b hb=>by
  rcases List.mem_cons.mp hb with rfl | hb
  ·exact ⟨ye,ue⟩
  ·rcases hh with rfl | ⟨T,oT,ts,rfl,_,_,_,_,y,u⟩
   ·cases hb
   ·rw [List.mem_singleton.mp hb]; exact ⟨y,u⟩
 have nch:∀ b,b ∉ e :: (match hv with | .ref T=>[T] | _=>[])→b ≠ e∧hv ≠ .ref b:=fun b hb=>⟨fun z=>hb (z ▸ .head _),fun z=>hb (by subst z; exact .tail _ (.head _))⟩
 have there:∀ b o,s.heap.get? b = some o→∃ o',h'.get? b = some o' ∨ b = e ∨ hv = .ref b:=fun b o q=>by
  by_cases z1:b = e
  ·exact ⟨o,.inr (.inl z1)⟩
  ·by_cases z2:hv = .ref b
   ·exact ⟨o,.inr (.inr z2)⟩
   ·obtain ⟨sl,q'⟩:=g.slot b o q z1 z2
    exact ⟨_,.inl q'⟩
 refine fin h' _ hch (.head _) ⟨fun b o q n nf nx=>g.keep b o q (nch b nx).1 (nch b nx).2 (by rw [← hs]; exact nf),fun b o q n _ nx=>g.slot b o q (nch b nx).1 (nch b nx).2,fun b o _ n _=>n,fun b o q nx=>?_,fun _ _ q=>q,fun _ _ _ q=>q,fun b ps q=>⟨#[],by rw [q]; simp⟩⟩ (fun a o q=>?_) ⟨oe',vs',_,f1,f2,f3,f4,f5,ye,ue,.inr ⟨T,oT',ts',rfl,f6,f7,f8,f9,?_,I.hok.fresh q1⟩⟩
 ·obtain ⟨sl,q'⟩:=g.slot b o q (nch b nx).1 (nch b nx).2
  exact ⟨_,q'⟩
 ·have tr:∀ b o',H b = some o'→b ≠ e∧hv ≠ .ref b∧b ∉ frs (X.env :: X.outer):=fun b o' z=>by
   refine ⟨fun w=>?_,fun w=>?_,fun w=>?_⟩
   ·rw [w,ue] at z; cases z
   ·rcases hh with y | ⟨T,oT,ts,y,_,_,_,_,_,u⟩
    ·rw [y] at w; cases w
    ·rw [y] at w; cases w; rw [u] at z; cases z
   ·rw [← hs] at w
    rw [I.stkFree b w] at z; cases z
  refine (I.hok a o q).stay (fun b u hb z=>?_) (fun _ z=>z) fun _ _ z=>z
  have:∃ o',H b = some o':=by
   rcases hb with rfl | hb
   ·exact ⟨_,q⟩
   ·exact ⟨_,hb⟩
  obtain ⟨o',ho'⟩:=this
  obtain ⟨a1,a2,a3⟩:=tr b o' ho'
  exact g.keep b u z a1 a2 a3
 ·cases z:h0.get? T with
  | none=>rfl
  | some o=>exact absurd (hsub T o z) (Nat.not_lt.mpr q1)
end
section
variable {P:Program} {w:World} {K:PySem.W.Frag} {mg:Str→Option Value} {base:Heap} {N:List Str} {qual:Str} {scope:Scope} {f:Addr} {cd:Value} {A:Around} {outer:List Env} {s0:Shared} {H0:Hp} {E:XK}
theorem n1e {pins:List (Addr × Obj)} {σ:St} {H:Hp} {s:Shared} {e C:Addr} {od:Option Addr} (I:Inv (cxOf (CX1 P w) P w K mg base N qual scope f cd A outer s0 H0 E) pins σ H s) (hot:Hot od s0.heap s.heap H e C) (hyg:Yg s0.heap od) (he:E (odV od) (some C) H) :
  (cxOf (CX1 P w) P w K mg base N qual scope f cd A outer s0 H0 E).pz (.ref e) s:=by
 refine lvI2 I rfl rfl (fun b o q=>?_) hot fun h' ch hch hin un hok hot'=>?_
 ·exact Nat.lt_of_lt_of_le (Heap.lt_size q) I.sz
 ·have lo:∀ b o,s0.heap.get? b = some o→b ∉ ch:=fun b o q z=>by rw [(hch b z).1] at q; cases q
  have nL:∀ b o,s0.heap.get? b = some o→b ≠ s0.heap.objs.size:=fun b o q=>Nat.ne_of_lt (Heap.lt_size q)
  refine ⟨e,C,od,H,rfl,I.os,I.bare,⟨fun b o q n nf _=>?_,fun b o q n hb _=>?_,fun b o q n _=>I.base.free b o q n (fun z=>nomatch z),fun b o q _=>?_,I.base.tups,I.base.frzs,I.base.tbls⟩,hok,hot',hyg,he⟩
  ·refine un.keep b o (I.base.keep b o q n nf fun z=>nomatch z) (I.base.free b o q n fun z=>nomatch z) (fun z=>?_) (lo b o q)
   rcases List.mem_cons.mp z with z | z
   ·exact nL b o q z
   ·exact nf z
  ·obtain ⟨sl,q'⟩:=I.base.slot b o q n hb fun z=>nomatch z
   obtain ⟨sl',q''⟩:=un.slot b _ q' (I.base.free b o q n fun z=>nomatch z) (.tail _ hb) (lo b o q)
   exact ⟨sl',q''⟩
  ·obtain ⟨o',q'⟩:=I.base.there b o q fun z=>nomatch z
   exact un.there b o' q' (lo b o q)
end
abbrev Cx.inFor (X:Cx):Cx:={ X with xe:=X.pz }
section
variable {X:Cx} {R:VK} {tg:Expr}
theorem j1d {iter:Expr} {body:List Stmt} {wi:TI} {g:TG} {tb:TS} {pos:Pos} (hc:X.calm = true) (hi:PI X.nox tg iter wi) (hg:PG X.nox tg g) (hb:PSsr X.inFor R body tb)
  (hs:∀ x,foldedSetIterable iter X.env x = pure x:=by intro _; rfl):PSr X R (.For tg iter body [] pos) (tFor wi g tb):=by
 intro pins s σ H D e I h
 refine wpAny_For (wpAny_mono (hi pins s σ H _ (I.wish _) h) (fun v s1 h1=>wpAny_mono h1 (fun itv s2 h2=>?_) fun _ _ z=>False.elim z) fun _ _ z=>False.elim z) hs
 obtain ⟨it,fp,tn,J,H2,e2,I2w,T,st2,f2,W,⟨m0,w0⟩,turn⟩:=h2
 subst e2
 have I2:=I2w.unwish
 have stat:∀ {H':Hp},(∀ b ∈ fp,H' b = none)→∀ b ∈ fp,FpOk X pins H' b:=fun hn b hb=>⟨hn b hb,(f2 b hb).2⟩
 refine codeAny_forLoop_any (fun n s'=>∃ i σ' H',Inv X pins σ' H' s'∧tn i s'.heap∧(∀ b ∈ fp,H' b = none)∧W i n σ' H') ?_ m0 ⟨0,σ,H2,I2,st2,fun b hb=>(f2 b hb).1,w0⟩
 rintro n s3 ⟨i,σ3,H3,I3,st3,fr3,w3⟩
 rcases turn i n σ3 H3 w3 with ⟨stop,qn⟩ | ⟨go,N,hN,step⟩
 ·refine thn (T.done X rfl rfl rfl hc i pins s3 σ3 H3 X.pz I3 (stat fr3) st3 stop) fun r s4 ⟨hr,I4⟩=>?_
  subst hr
  exact wpAny_execs_nil ⟨σ3,H3,I4,qn⟩
 ·refine thn (T.item X rfl rfl rfl hc i pins s3 σ3 H3 X.pz I3 (stat fr3) st3 go) fun r s4 ⟨u,hr,h4⟩=>?_
  subst hr
  refine thn h4 fun _ s5 ⟨x,H5,I5,r5,y5,st5,fr5⟩=>?_
  have I5':=I5.pinned (stat fr5) (T.obj _ _ st5)
  refine wpAny_mono (hg _ s5 σ3 H5 x u _ (I5'.wish _) r5 (step x H5 y5)) (fun _ s6 ⟨σ6,H6,I6,q6⟩=>?_) fun _ _ z=>False.elim z
  refine thn (hb _ s6 σ6 H6 { D with nx:=N,ct:=N,bk:=D.nx } e (I6.unwish.wish _) q6) fun f s7 q7=>?_
  have again:∀ {σ7:St} {H7:Hp},Inv X (pins ++ o0c fp s5.heap) σ7 H7 s7→N σ7 H7→∃ m,m < n∧∃ i σ' H',Inv X pins σ' H' s7∧tn i s7.heap∧(∀ b ∈ fp,H' b = none)∧W i m σ' H':=fun {σ7 H7} I7 n7=>by
   obtain ⟨m',hm,w7⟩:=hN σ7 H7 n7
   refine ⟨m',hm,i + 1,σ7,H7,I7.unpinned,T.keep _ _ _ st5 fun b hb o e=>(I7.pin (b,o) (List.mem_append_right _ (List.mem_append_right _ (f0b hb e)))).1,fun b hb=>?_,w7⟩
   obtain ⟨o,e,d⟩:=T.obj _ _ st5 b hb
   exact (I7.pin (b,o) (List.mem_append_right _ (List.mem_append_right _ (f0b hb e)))).2.1
  cases f with
  | next=>obtain ⟨σ7,H7,I7,n7⟩:=q7; exact again I7.unwish n7
  | cont=>exact q7.elim
  | brk=>exact q7.elim
  | ret v=>exact q7.elim
end
section
variable {P:Program} {w:World} {K:PySem.W.Frag} {mg:Str→Option Value} {base:Heap} {N:List Str} {qual:Str} {scope:Scope} {f:Addr} {cd:Value} {A:Around} {outer:List Env} {s0:Shared} {H0:Hp} {E:XK} {C:Addr} {fn:Option Str}
theorem tie2:Tie (cxOf (CX1 P w) P w K mg base N qual scope f cd A outer s0 H0 E).inFor C fn (XW E C fn):=⟨rfl,fun I hot hy hf hr=>n1e I.unwish hot hy (hr _ hf)⟩
end
end L2
namespace L2
end L2
namespace L2
open PySem PySem.Spec PyProof.Rows
abbrev EnO (h:Heap) (e it:Addr) (i:Int) (old:Value) (a:Addr) (f:Bool):Prop :=
 h.get? e = some { cls:=.type "enumerate",dict:=none,data:=.fields #[rawInt a,.bool f,.ref it,rawInt i,.none,old],slots:=#[] }
section
variable {prog:Program} {w:World} {A:Around} {E:Value→Shared→Prop} {s:Shared}
def EnS (h:Heap) (e it:Addr) (i:Nat) (S:Addr):Prop:=(∃ old,IsEnum h e it i old) ∨ ∃ old a f oa,EnO h e it i old a f∧h.get? a = some oa∧a ≠ e∧a ≠ it∧a ≠ S
theorem EnS.keep {h h':Heap} {e it S:Addr} {i:Nat} (x:EnS h e it i S) (hk:∀ b o,b ≠ S→h.get? b = some o→h'.get? b = some o) (hS:e ≠ S):EnS h' e it i S:=by
 rcases x with ⟨old,he⟩ | ⟨old,a,f,oa,he,ha,h1,h2,h3⟩
 ·exact .inl ⟨old,hk _ _ hS he⟩
 ·exact .inr ⟨old,a,f,oa,hk _ _ hS he,hk _ _ h3 ha,h1,h2,h3⟩
theorem EnS.typeIs {e it S:Addr} {i:Nat} (x:EnS s.heap e it i S):s.TypeIs (.ref e) "enumerate" := by
 rcases x with ⟨old,he⟩ | ⟨old,a,f,oa,he,_⟩
 ·exact ⟨_,he,rfl⟩
 ·exact ⟨_,he,rfl⟩
end
structure LeG (P:Nat→Value→Prop) (lo:Addr) (h:Heap) (as:List Addr):Prop where
 rise:as.Pairwise (· < ·)
 above:∀ a ∈ as,lo < a
 pairs:∀ (j:Nat) (a:Addr),as[j]? = some a→∃ tk x,P j x∧h.get? a = some { cls:=.type "tuple",data:=.seq #[.int j tk,x] }
theorem LeG.there {P:Nat→Value→Prop} {lo:Addr} {h:Heap} {as:List Addr} (g:LeG P lo h as) {a:Addr} (ha:a ∈ as):a < h.objs.size:=by
 obtain ⟨j,hj⟩:=List.mem_iff_getElem?.mp ha
 obtain ⟨_,_,_,e⟩:=g.pairs j a hj
 exact Heap.lt_size e
end L2
namespace L2
def fst1 (R:List Nat) (t:Nat):Nat:=R.idxOf (R.getD t 0)
def j1z (m:Nat) (f:Nat→Nat):List (Nat × Nat)→Nat→(Nat→Bool)→Nat→Bool
 | [],_,M,t=>M t
 | p :: r,k,M,t=>j1z m f r (k + 1) M t || (j1z m f r (k + 1) M (m + k) && (t == f p.1 || t == f p.2))
def nkT (m:Nat) (L:Nat→Bool) (k:Nat):Nat:=((List.range k).filter fun j=>L (m + j)).length
def nbT (m:Nat) (L:Nat→Bool) (t:Nat):Nat:=if t < m then t else m + nkT m L (t - m)
structure Rws (N:Net):Prop where
 ix:okIx N.m N.js
 ne:∀ (i:Nat) (p:Nat × Nat),N.js[i]? = some p→(i1u N).getD p.1 0 ≠ (i1u N).getD p.2 0
def fT (N:Net):Nat→Nat:=fst1 (i1u N)
def p1s (N:Net):Nat→Bool:=j1z N.m (fT N) N.js 0 fun t=>(N.os.map (fT N)).contains t
abbrev nT (N:Net):Nat→Nat:=nbT N.m (p1s N)
end L2
namespace L2
open PySem PySem.Spec PyProof.Rows
section
variable {X:Cx} {R:VK} {E:XK} {C:Addr} {fn:Option Str} {K:PySem.W.Frag} {S:ASp}
theorem j1c {k:Nat} {x y:Str} {ps:List Str} {p np cpos pos:Pos} {e:Expr} {es:List Expr} {t:TA} (F:OkX X.prog X.w X.K X.mg X.base k x ps C fn (spA K S)) (hr:Room k X.A) (hx:n0j (CX1 X.prog X.w) X E) (ha:PA X.nox (e :: es) t) (hg:Gl X x:=by rfl)
  (hdb:(x == ("__debug__" : Str)) = false:=by decide) (he:starEach (e :: es) X.env = (false,eval e X.env) :: starEach es X.env:=by rfl) (hpl:(backTo cpos (starEach es X.env)).any (·.1) = false:=by rfl)
  (hs:swapsWith (.Call (.Name x p) (e :: es) [] cpos) (some (.Name y np)) pos.line X.env = pure false:=by rfl) :
  PSr X (XW E C fn) (.Assign [.Name y np] (.Call (.Name x p) (e :: es) [] cpos) pos) (tRet (p0g (spA K S) [] E0 t)):=by
 obtain ⟨f,fd,hm,hk,hb,F⟩:=F.ex
 intro pins s σ H D e1 I h
 have pe:=t0r (p:=p) (sp:=spX C fn (spA K S)) (E:=E) F hr hg hm hk hb .nil hx ha.nox hdb he hpl
 have h':p0g (spX C fn (spA K S)) [] E t σ H fun _ _=>False:=by
  have h2:t σ H fun vs H1=>spA K S (vs ++ []) H1 D.rt E0:=h
  rw [e1] at h2
  exact h2
 exact wpAny_Assign_Name (thn (pe pins s σ H _ I h') fun v s1 ⟨_,_,_,_,q1⟩=>q1.elim) hs
end
section
variable {X:Cx} (K:PySem.W.Frag)
def rSplit:V→List V→Hp→VK→Prop:=fun x vs H Q=>∃ z y,x = .str z∧vs = [.str y]∧(y.length == 0) = false∧z.length ≤ 1000000∧∀ l,H l = none→Q (.ref l) (upd H l (.lst ((Txt.split z y).map V.str)))
theorem q0q:∀ (l:List (Str × Tok)),Vals ((l.map (·.1)).map V.str) (strValues l)
 | []=>.nil
 | p :: r=>.cons ⟨p.2,rfl⟩ (q0q r)
theorem i0h:MtR X "str.split" rSplit:=by
 intro pins s σ H x vs v us Q I rx rv h
 obtain ⟨z,y,rfl,rfl,hy,hz,q⟩:=h
 obtain ⟨t,rfl⟩:=rx
 obtain ⟨u,rfl,tu,rfl⟩:=rv.one
 have hsz:z.length + 2 ≤ sizeLine:=by rw [sizeLine_eq]; omega
 have hn:(Builtin.Str.partsBetween z (Builtin.Str.occurrences z y 0 z.length (z.length + 1)) y.length).length ≤ sizeLine:=by
  have e1:=StrLaws.occ_length_le z y 0 z.length (z.length + 1)
  rw [length_partsBetween]; omega
 have fin:∀ (l:List (Str × Tok)) (k:Nat),l.length ≤ sizeLine→l.map (·.1) = Txt.split z y→EP X pins σ Q (.ref s.heap.objs.size) { s with heap:=s.heap.push { cls:=.type "list",data:=.seq (strValues l).toArray },toks:=k }:=fun l k hl e=>by
  refine ⟨.ref s.heap.objs.size,_,I.laid (t':=k) (o:=.lst ((Txt.split z y).map V.str)) (fun b o q=>Heap.get?_push_of_some _ q) (Nat.le_refl _) ⟨?_,strValues l,0,?_,?_⟩,rfl,q _ (I.hok.fresh (Nat.le_refl _))⟩
  ·rw [List.length_map,← e,List.length_map]; exact hl
  ·rw [← e]; exact q0q l
  ·exact Heap.get?_push_size _ rfl
 cases h1:(decide (z.length < y.length) || decide (Builtin.Str.strKind z < Builtin.Str.strKind y))
 ·cases hf:(Builtin.Str.occurrences z y 0 z.length (z.length + 1)).isEmpty
  ·refine call_meets F.slot_str_split (typeIs_str _ _ _) F.entry_str_split (F.args_str_split_2 _ _) (meets_str_split_sep z y t tu h1 hy hf (by omega) hn) ?_
   rw [strsFrom_eq]
   refine fin (numbered s.toks _) _ ?_ ((numbered_texts _ _).trans ((if_neg (ne_true_of_eq_false h1)).trans (if_neg (ne_true_of_eq_false hf))).symm)
   have e:=congrArg List.length (numbered_texts s.toks (Builtin.Str.partsBetween z (Builtin.Str.occurrences z y 0 z.length (z.length + 1)) y.length))
   rw [List.length_map] at e
   rw [e]; exact hn
  ·exact call_meets F.slot_str_split (typeIs_str _ _ _) F.entry_str_split (F.args_str_split_2 _ _) (meets_str_split_not_found z y t tu h1 hy hf) (fin [(z,t)] s.toks (by show 1 ≤ sizeLine; decide) ((if_neg (ne_true_of_eq_false h1)).trans (if_pos hf)).symm)
 ·exact call_meets F.slot_str_split (typeIs_str _ _ _) F.entry_str_split (F.args_str_split_2 _ _) (meets_str_split_cannot_occur z y t tu h1) (fin [(z,t)] s.toks (by show 1 ≤ sizeLine; decide) (if_pos h1).symm)
theorem f1a:MtR X "str.isascii" (fun x xs H Q=>∃ z,x = .str z∧xs = []∧Q (.bl (z.cps.all (· < 128))) H):=by
 intro pins s σ H x xs v us Q I rx rv h
 obtain ⟨z,rfl,rfl,q⟩:=h
 obtain ⟨t,rfl⟩:=rx
 cases rv
 exact call_gives F.slot_str_isascii (typeIs_str _ _ _) F.entry_str_isascii (F.args_str_isascii_1 _) (gives_str_isascii z t) ⟨.bl _,H,I,rfl,q⟩
theorem e1z:MtR X "str.isdigit" (fun x xs H Q=>∃ z,x = .str z∧xs = []∧Q (.bl (z.length > 0 && z.cps.all Unicode.isDigit)) H):=by
 intro pins s σ H x xs v us Q I rx rv h
 obtain ⟨z,rfl,rfl,q⟩:=h
 obtain ⟨t,rfl⟩:=rx
 cases rv
 exact call_gives F.slot_str_isdigit (typeIs_str _ _ _) F.entry_str_isdigit (F.args_str_isdigit_1 _) (gives_str_isdigit z t) ⟨.bl _,H,I,rfl,q⟩
theorem s0x:g0l X (.type "int") (fun xs H Q=>∃ z n,xs = [.str z]∧z.length ≤ 640∧intText? z = some n∧Q (.int n) H):=by
 intro pins s σ H xs us Q I r h
 obtain ⟨z,n,rfl,hz,hn,q⟩:=h
 obtain ⟨u,rfl,t,rfl⟩:=l0j r
 exact PySem.W.KIN.call_text hn hz ⟨.int n,H,I.tok _,⟨_,rfl⟩,q⟩
end
section
variable {K:PySem.W.Frag} {ta te:TE} {a ae:AE} {ts:TA} {as:AA}
@[irreducible] def w0t (z:Str):R→AE:=fun r ρ q=>match r with
 | .d (.str y)=>(y.length == 0) = false∧z.length ≤ 1000000∧q (.f ((Txt.split z y).map D.str)) ρ
 | _=>False
theorem g0h {z y:Str} {ρ:En} {q:Ko} (hy:(y.length == 0) = false) (hz:z.length ≤ 1000000) (hq:q (.f ((Txt.split z y).map D.str)) ρ):w0t z (.d (.str y)) ρ q:=by
 unfold w0t; exact ⟨hy,hz,hq⟩
theorem n0y {H:Hp}:∀ (ns:List Str),RepDs K H (ns.map V.str) (ns.map D.str)
 | []=>.nil
 | n :: ns=>.cons (by unfold RepD; rfl) (n0y ns)
def o1w (a:AE) (as:AA):AE:=fun ρ q=>a ρ fun r ρ1=>match r with
 | .d (.str z)=>as ρ1 fun rs ρ2=>(match rs with | [x]=>w0t z x ρ2 q | _=>False)
 | _=>False
theorem f0z (ha:TEok K ta a) (hs:TAok K ts as):TEok K (tBM K "str" rSplit ta ts) (o1w a as):=by
 intro F σ ρ H q Q r h k
 refine ha F σ ρ H _ _ r h fun r1 ρ1 x H1 h1 o1=>?_
 obtain ⟨r1',k1,i1⟩:=o1.inF
 split at h1
 ·rename_i sep
  have ex:x = .str sep:=i1.strv
  subst ex
  refine ⟨by first | rfl | exact .inl rfl | trivial | simp [tyV],hs F σ ρ1 H1 _ _ r1' h1 fun rs ρ2 vs H2 h2 r2 i2 k2=>?_⟩
  split at h2
  ·obtain ⟨y,rfl,iy⟩:=i2.one
   unfold w0t at h2
   split at h2
   ·rename_i y'
    have ey:y = .str y':=iy.strv
    subst ey
    exact ⟨sep,y',rfl,rfl,h2.1,h2.2.1,fun l hl=>((k.after k1).after k2).new r2 h2.2.2 (n0y _) hl⟩
   ·exact h2.elim
  ·exact h2.elim
 ·exact h1.elim
def p1d (a:AE):AE:=fun ρ q=>a ρ fun r ρ1=>match r with
 | .d (.str z)=>q (.d (.bl (z.cps.all (· < 128)))) ρ1
 | _=>False
theorem z0a (ha:TEok K ta a):TEok K (tBM0 K "str" (fun x xs H Q=>∃ z,x = .str z∧xs = []∧Q (.bl (z.cps.all (· < 128))) H) ta) (p1d a):=by
 intro F σ ρ H q Q r h k
 refine ha F σ ρ H _ _ r h fun r1 ρ1 x H1 h1 o1=>?_
 obtain ⟨r1',k1,i1⟩:=o1.inF
 split at h1
 ·rename_i i
  have ex:x = .str i:=i1.strv
  subst ex
  exact ⟨by first | rfl | exact .inl rfl | trivial | simp [tyV],i,rfl,rfl,(k.after k1).bl r1' h1⟩
 ·exact h1.elim
def p1a (a:AE):AE:=fun ρ q=>a ρ fun r ρ1=>match r with
 | .d (.str z)=>q (.d (.bl (z.length > 0 && z.cps.all Unicode.isDigit))) ρ1
 | _=>False
theorem y0y (ha:TEok K ta a):TEok K (tBM0 K "str" (fun x xs H Q=>∃ z,x = .str z∧xs = []∧Q (.bl (z.length > 0 && z.cps.all Unicode.isDigit)) H) ta) (p1a a):=by
 intro F σ ρ H q Q r h k
 refine ha F σ ρ H _ _ r h fun r1 ρ1 x H1 h1 o1=>?_
 obtain ⟨r1',k1,i1⟩:=o1.inF
 split at h1
 ·rename_i i
  have ex:x = .str i:=i1.strv
  subst ex
  exact ⟨by first | rfl | exact .inl rfl | trivial | simp [tyV],i,rfl,rfl,(k.after k1).bl r1' h1⟩
 ·exact h1.elim
def gIntS:List R→AE:=fun rs ρ q=>match rs with
 | [.d (.str z)]=>∃ n,z.length ≤ 640∧intText? z = some n∧q (.d (.int n)) ρ
 | _=>False
theorem s0v:CbOk K (fun xs H Q=>∃ z n,xs = [.str z]∧z.length ≤ 640∧intText? z = some n∧Q (.int n) H) gIntS:=by
 intro F σ ρ H vs rs q Q a i h b
 unfold gIntS at h
 split at h
 ·obtain ⟨x,rfl,i1⟩:=i.one
  obtain ⟨n,h1,h2,h3⟩:=h
  exact ⟨_,n,by rw [i1.strv],h1,h2,b.int a h3⟩
 ·exact h.elim
def gLenS:List R→AE:=fun rs ρ q=>match rs with
 | [.d (.str z)]=>z.length ≤ 1000000∧q (.d (.int z.length)) ρ
 | _=>False
theorem h0x:CbOk K (fun xs H Q=>∃ z,xs = [.str z]∧z.length ≤ sizeLine∧Q (.int z.length) H) gLenS:=by
 intro F σ ρ H vs rs q Q a i h b
 unfold gLenS at h
 split at h
 ·obtain ⟨x,rfl,i1⟩:=i.one
  exact ⟨_,by rw [i1.strv],small h.1,b.int a h.2⟩
 ·exact h.elim
end
section
variable {X:Cx}
def h1t (K:PySem.W.Frag) (i j:Nat):TG:=fun v σ H Q=>∃ l xs y,v = .ref l∧SqL K H l (y :: xs)∧xs.length ≤ 16000∧∀ p,H p = none→Q ((σ.set i (some y)).set j (some (.ref p))) (upd H p (.lst xs))
theorem e1p (K:PySem.W.Frag) {i j:Nat} {x y:Str} {k:Nat} {p1 p2 p3 pos:Pos} (hc:X.calm = true) (hx:PG X (.Name x p1) (u0v i)) (hy:PG X (.Name y p3) (u0v j)) (hK:X.K = K:=by rfl)
  (hn:assignEach [.Name x p1,.Starred (.Name y p3) p2] X.env = [(false,assign (.Name x p1) X.env),(true,assign (.Name y p3) X.env)]:=by rfl):PG X (.Tuple [.Name x p1,.Starred (.Name y p3) p2] k pos) (h1t K i j):=by
 subst hK
 intro pins s σ H v u Q I r hw
 obtain ⟨l,xs,z,e1,hq,hl,hw⟩:=hw
 subst e1
 cases r
 obtain ⟨its,rv,pl,hz⟩:=I.list hq
 cases rv with
 | cons rb va =>
 rename_i b as
 have hli:=pl.isList
 have hh:X.A.handled = none:=I.ok.hd hc
 have hlt:l ≠ s.heap.objs.size:=by obtain ⟨o,ho,_⟩:=hli; exact Nat.ne_of_lt (Heap.lt_size ho)
 have la:=va.length
 rw [assign_Tuple]
 refine wpAny_bind (wpAny_standAt ?_)
 unfold unpack
 rw [hn]
 refine wpAny_bind (wpAny_holding ?_)
 show wpAny _ _ (unpackItems (.ref l) 2 (some 1)) _ _ _
 unfold unpackItems
 refine wpAny_bind ?_
 unfold notIterableAtAll
 refine wpAny_bind (wpAny_specialOf hli.typeIs PySem.F.slot_list_iter.lookup ?_)
 refine wpAny_pure ?_
 simp only [Bool.false_eq_true,if_false]
 refine wpAny_bind (wpAny_holding (wpAny_pyIter_list hli ?_))
 refine wpAny_bind (wpAny_holding (PySem.W.kun_draw hlt 1 0 _ _ ⟨_,Heap.get?_push_size _ rfl,rfl,rfl⟩ (hli.push _) (by simp) fun h₁ hit₁ hs₁=>?_))
 have hl₁:h₁.IsList l (b :: as).toArray:=(hli.push _).extBut hs₁.extBut hlt
 rw [Nat.zero_add] at hit₁
 have hit₁':=hit₁
 obtain ⟨oi,hoi,_⟩:=hit₁'
 have hl₁':=hl₁
 obtain ⟨ol,hol,_⟩:=hl₁'
 have e0:List.take 1 (List.drop 0 (b :: as).toArray.toList) = [b]:=by simp
 rw [e0]
 simp only [List.length_cons,List.length_nil,Nat.zero_add,Nat.lt_irrefl,if_false]
 refine wpAny_bind (wpAny_holding (PySem.W.kun_collect (s:={ s with heap:=h₁ }) (T := "list_iterator") (.inr (.inr (.inl rfl))) (Walks.list (A:=X.A.in1) hh s.heap.objs.size l hlt (b :: as).toArray) (fun j u st=>st.1.typeIs) (k:=1) (by simp) ⟨hit₁,hl₁⟩ (Heap.lt_size hoi) (Heap.lt_size hol) (fun h₂ tk hk=>?_) (by simp; rw [sizeLine_eq]; omega)))
 have hr:List.drop 1 (b :: as).toArray.toList = as:=by simp
 rw [hr]
 show wpAny _ _ (if as.length < 0 then _ else _) _ _ _
 rw [if_neg (by omega)]
 show wpAny _ _ (newList (as.take (as.length - 0)) >>= fun d=>pure ([b] ++ [d] ++ as.drop (as.length - 0))) _ _ _
 have et:as.take (as.length - 0) = as:=by simp
 have ed:as.drop (as.length - 0) = []:=by simp
 rw [et,ed]
 have I2:Inv X pins σ H { s with heap:=h₂,toks:=tk }:=I.kept (t':=tk) fun q o e=>hk q o (Nat.ne_of_lt (Heap.lt_size e)) (hs₁.extBut q o (Nat.ne_of_lt (Heap.lt_size e)) (Heap.get?_push_of_some _ e))
 refine wpAny_bind (wpAny_newObj_type (wpAny_pure ?_) (by show as.toArray.size ≤ sizeLine; simp; rw [sizeLine_eq]; omega))
 have I3:=I2.lnew (t':=tk) va (by rw [sizeLine_eq]; omega)
 have q1:=hw _ I2.fresh
 show wpAny _ _ (assignInOrder [assign (.Name x p1) X.env,assign (.Name y p3) X.env] [b,.ref h₂.objs.size]) _ _ _
 refine assignInOrder_cons (thn (hx pins _ σ _ z b (fun σ' H'=>σ' = σ.set i (some z)∧H' = upd H h₂.objs.size (.lst xs)) I3 rb ⟨rfl,rfl⟩) fun _ s4 ⟨σ4,H4,I4,e1,e2⟩=>?_)
 subst e1 e2
 refine assignInOrder_cons (thn (hy pins _ _ _ (.ref h₂.objs.size) _ (fun σ' H'=>Q σ' H') I4 rfl q1) fun _ s5 ⟨σ5,H5,I5,q5⟩=>?_)
 exact assignInOrder_nil ⟨σ5,H5,I5,q5⟩
end
section
variable {K:PySem.W.Frag} {te:TE} {ae:AE} {pr:Nat→Bool}
def o1v (i j:Nat) (x:AE):AS:=fun e ρ=>x ρ fun r ρ1=>match r.frz with
 | .d (.lst ds)=>∃ xs y,ds = y :: xs∧xs.length ≤ 16000∧e.nx (pt (pt ρ1 i (.vl y)) j (.ow xs))
 | _=>False
theorem z0p {i j:Nat} (h:TEok K te ae) (hi:pr i = false) (hj:pr j = false) (hij:i ≠ j):TSok K pr (tAsg te (h1t K i j)) (o1v i j ae):=by
 intro F σ ρ H D e hp r ha k
 refine h F σ ρ H _ _ r ha fun r1 ρ1 v H1 h1 o=>?_
 obtain ⟨r',k1,i1⟩:=o.inF
 split at h1
 ·rename_i ds e1
  rw [e1] at i1
  have rd:RepD K _ v (.lst ds):=i1
  unfold RepD at rd
  obtain ⟨a,vs,rfl,sq,rd⟩:=rd
  obtain ⟨xs,y,rfl,hl,hn⟩:=h1
  match vs,sq,rd with
  | [],sq,rd=>unfold RepDs at rd; exact rd.elim
  | b :: as,sq,rd =>
  unfold RepDs at rd
  obtain ⟨rb,ra⟩:=rd
  refine ⟨a,as,b,rfl,c0y.seq sq,by rw [ra.length]; exact hl,fun p hpn=>?_⟩
  have r2:=r'.set rb (a1y hp hi)
  have sv:Same (hid H1 (hs F σ ρ1)) (hid H1 (hs F (σ.set i (some b)) (pt ρ1 i (.vl y)))):=a1n fun q hq=>by
   obtain ⟨ne,q'⟩:=e0u rfl hq
   exact ⟨q',by rw [List.getElem?_set_ne ne]⟩
  exact k.nx _ _ _ hn (r2.setF (s:=.ow xs) rfl ⟨p,as,rfl,b0g,ra.same sv⟩ hpn (a1y hp hj))
 ·exact h1.elim
end
theorem k1p (a b:Value):checkTypeCall "enumerate" ⟨[a],[("start",b)]⟩ = pure ():=by kernel_rfl
theorem o1e (a b:Value):checkBuiltinCall "enumerate.__new__" ⟨[.type "enumerate",a],[("start",b)]⟩ = pure ():=by kernel_rfl
theorem k1r (o a b:Value):argsOk "object.__init__" ⟨[o,a],[("start",b)]⟩:=by first | exact ⟨_,_,by kernel_rfl⟩ | (unfold argsOk; kernel_rfl) | kernel_rfl
theorem k1q (l:Addr) (items:Array Value) (n:Nat) (dct:Option Addr) (sl:Array (Option Value)) (t:Tok) :
  Meets (Builtin.«enumerate.__new__» ⟨[.type "enumerate",.ref l],[("start",.int 1 t)]⟩) (fun _ R s=>s.heap.get? l = some { cls:=.type "list",dict:=dct,data:=.seq items n,slots:=sl } ∧
   R (.ok (.ret (.ref (s.heap.push { cls:=.type "list_iterator",data:=.fields #[.ref l,.int 0 0] }).objs.size)))
    { s with heap:=(s.heap.push { cls:=.type "list_iterator",data:=.fields #[.ref l,.int 0 0] }).push { cls:=.type "enumerate",data:=.fields #[.none,.bool false,.ref s.heap.objs.size,rawInt 1,.none,.none] } }) :=
 .of_wp fun prog w A R s h=>by
  obtain ⟨hp,g,d,tk,os⟩:=s; obtain ⟨hl,h⟩:=h
  have hsub:=sub_enumerate
  have hL:Heap.IsList (Shared.heap ⟨hp,g,d,tk,os⟩) l items:=⟨_,hl,rfl,n,rfl⟩
  wp_walk using AutoSeq1.wpAny_loadPart' hl
  refine wpAny_stack_any fun st=>wpAny_pure ?_
  split
  ·rename_i c _ _ _ _ _
   cases (c == Value.type "enumerate")
   ·wp_walk using AutoSeq1.wpAny_loadPart' hl,wpAny_pyIter_list hL
    exact ⟨_,rfl,h⟩
   ·wp_walk using AutoSeq1.wpAny_loadPart' hl,wpAny_pyIter_list hL
    exact ⟨_,rfl,h⟩
  ·wp_walk using AutoSeq1.wpAny_loadPart' hl,wpAny_pyIter_list hL
   exact ⟨_,rfl,h⟩
theorem o1d {T newId:String} {self:Value} {rest:List Value} {kw:List (Str × Value)} (hl:typeLookup (.type T) "__init__" = pure (some (.builtin "object.__init__")))
  (hm:Bind.madeBy (.type T) = pure (some newId)) (hne:(some newId != some "object.__new__") = true) :
  Meets (Builtin.«object.__init__» ⟨self :: rest,kw⟩) (fun _ R s=>s.TypeIs self T∧R (.ok (.ret .none)) s):=by
 refine Meets.of_wp fun prog w A R s hs=>?_
 obtain ⟨hT,hq⟩:=hs
 cases rest with
 | nil =>
  cases kw with
  | nil=>exact wpAny_pure ⟨_,rfl,hq⟩
  | cons k kw =>
   repeat (any_goals (first | assumption | wp_step))
   exact ⟨_,rfl,hq⟩
 | cons a rest =>
  repeat (any_goals (first | assumption | wp_step))
  exact ⟨_,rfl,hq⟩
section
variable {prog:Program} {w:World} {A:Around} {E:Value→Shared→Prop} {s:Shared}
theorem k1s {l:Addr} {items:Array Value} {t:Tok} {Q:Value→Shared→Prop} (hL:s.heap.IsList l items)
  (h:∀ h',IsEnum h' (s.heap.objs.size + 1) s.heap.objs.size 1 .none→h'.IsListIter s.heap.objs.size l 0→h'.objs.size = s.heap.objs.size + 2 →
   (∀ b o,s.heap.get? b = some o→h'.get? b = some o)→Q (.ref (s.heap.objs.size + 1)) { s with heap:=h' }) :
  wpAny (model prog w) A (call (.type "enumerate") [.ref l] [("start",.int 1 t)]) Q E s:=by
 obtain ⟨⟨c,dct,dt,sl⟩,hl,hc,n,hd⟩:=hL
 replace hc:c = .type "list" := hc
 replace hd:dt = .seq items n:=hd
 subst hc hd
 have ft:=F.called_enumerate
 obtain ⟨c,tl,hmro⟩:=ft.mro
 have hmade:=ft.made
 have hsub:=ft.sub
 have hct:=k1p (.ref l) (.int 1 t)
 refine wpAny_call (codeAny_of_tree ?_)
 show wpAny _ _ (callAny (.type "enumerate") _) _ _ _
 refine wpAny_pure ⟨Code.quiet_builtin _ (by decide +kernel),codeAny_builtin F.entry_type_call ?_⟩
 rw [Around.under_plain (weight_type_call_type "enumerate" [.ref l] [("start",.int 1 t)]) (units_type_call_type "enumerate" [.ref l] [("start",.int 1 t)])]
 have h1:=ft.notType
 have h2:=ft.canCreate
 repeat (any_goals (first | assumption | wp_step))
 have hz:(s.heap.push { cls:=.type "list_iterator",data:=.fields #[.ref l,.int 0 0] }).objs.size = s.heap.objs.size + 1:=Heap.size_push ..
 have he:IsEnum ((s.heap.push { cls:=.type "list_iterator",data:=.fields #[.ref l,.int 0 0] }).push
   { cls:=.type "enumerate",data:=.fields #[.none,.bool false,.ref s.heap.objs.size,rawInt 1,.none,.none] }) (s.heap.objs.size + 1) s.heap.objs.size 1 .none:=by
  have:=Heap.get?_push_size (s.heap.push { cls:=.type "list_iterator",data:=.fields #[.ref l,.int 0 0] })
   (o:={ cls:=.type "enumerate",data:=.fields #[.none,.bool false,.ref s.heap.objs.size,rawInt 1,.none,.none] }) rfl
  rw [hz] at this; exact this
 refine codeAny_mono (codeAny_call_builtin ft.plain F.entry_enumerate_new (wpAny_of_eq (o1e _ _) (k1q l items n dct sl t prog w A.in1 (wants (fun obj s₁=>s₁.TypeIs obj "enumerate" ∧ Q obj s₁) E) s ⟨hl,?_⟩))) fun r s₁ hr=>?_
 ·show _∧_
  rw [hz]
  exact ⟨⟨_,he,rfl⟩,h _ he ⟨_,Heap.get?_push_of_some _ (Heap.get?_push_size _ rfl),rfl,rfl⟩ (by rw [Heap.size_push,hz]) fun b o x=>Heap.get?_push_of_some _ (Heap.get?_push_of_some _ x)⟩
 cases r with
 | error e=>exact hr
 | ok fl =>
  cases fl with
  | ret obj =>
   obtain ⟨hT,hq⟩:=hr
   have hli:=ft.init.lookup
   have hbi:=ft.init.bind obj
   repeat (any_goals (first | assumption | wp_step))
   refine codeAny_mono (codeAny_call_builtin ft.init.plain F.entry_object_init (ft.init.check _ _ _ _ _ _ _ _ hT (k1r _ _ _) (o1d ft.init.lookup ft.made (by decide) prog w A.in1 (wants (fun r s₂=>r = .none∧Q obj s₂) E) s₁ ⟨hT,rfl,hq⟩))) fun r₂ s₂ hr₂=>?_
   cases r₂ with
   | error e=>exact hr₂
   | ok fl₂ =>
    cases fl₂ with
    | ret r =>
     obtain ⟨rfl,hq⟩:=hr₂
     repeat (any_goals (first | assumption | wp_step))
    | _=>exact hr₂.elim
  | _=>exact hr.elim
theorem f1u {it:Addr} {fp:List Addr} {n:Nat} {P:Nat→Value→Prop} {St:Nat→Heap→Prop} (D:Draws prog w A it fp n P St) :
  Draws prog w A it fp (n + 1) (fun i v=>∃ j,i = j + 1∧P j v) (fun i h=>∃ j,i = j + 1∧St j h) where
 live:=fun _ h ⟨j,_,st⟩=>D.live j h st
 frame:=fun _ h h' ⟨j,e,st⟩ k=>⟨j,e,D.frame j h h' st k⟩
 item:=fun i s Q E hi ⟨j,e,st⟩ hQ=>D.item j s Q E (by omega) st fun x h' tk p st' sb=>hQ x h' tk ⟨j,e,p⟩ ⟨j + 1,by omega,st'⟩ sb
 done:=fun s Q E ⟨j,e,st⟩ hE=>D.done s Q E ((show j = n by omega) ▸ st) hE
end
def Ite1 (K:PySem.W.Frag) (l:Addr):It :=
 ⟨fun i H=>∃ xs x,SqL K H l xs∧xs[i]? = some x,fun i H v H'=>∃ p x,v = .ref p∧H p = none∧H' = upd H p (.tup [.int ((i + 1:Nat):Int),x])∧∀ xs,SqL K H l xs→xs[i]? = some x,
  fun i H=>∃ xs,SqL K H l xs∧xs.length ≤ i⟩
theorem x0k {P:Program} {w:World} {K:PySem.W.Frag} {elts:List Expr} {x1} {tpos:Pos} {e it l:Addr} (ne:e ≠ it) (nl:l ≠ it) :
  Turn P w K (.Tuple elts x1 tpos) (Ite1 K l) [e,it] e (fun i h=>(∃ old,IsEnum h e it ((i + 1:Nat):Int) old)∧h.IsListIter it l i) where
 mem:=by simp
 obj:=fun i h st b hb=>by
  obtain ⟨⟨old,he⟩,⟨o1,e1,c1,d1⟩⟩:=st
  simp only [List.mem_cons,List.not_mem_nil,or_false] at hb
  rcases hb with rfl | rfl
  ·exact ⟨_,he,fun v q=>by cases q⟩
  ·exact ⟨o1,e1,fun v q=>by rw [d1] at q; cases q⟩
 keep:=fun i h h' st k=>by
  obtain ⟨⟨old,he⟩,h1⟩:=st
  exact ⟨⟨old,k e (by simp) _ he⟩,h1.at fun o q=>k it (by simp) o q⟩
 item:=by
  intro X hP hw hK hc i pins s σ H E I hf st hg
  subst hP hw hK
  obtain ⟨xs,x,q1,hx⟩:=hg
  obtain ⟨⟨old,he⟩,h1⟩:=st
  obtain ⟨its,rv,p1,_⟩:=I.list q1
  obtain ⟨u,hu,ru⟩:=rv.get hx
  have nel:e ≠ l:=by
   rintro rfl
   obtain ⟨o,ho,hcl,_⟩:=p1.isList
   have he':s.heap.get? e = some _:=he
   rw [he'] at ho
   cases ho
   simp at hcl
  have hi:i < its.toArray.size:=by
   have:=(List.getElem?_eq_some_iff.mp hu).1
   simpa using this
  refine wpAny_pyNext_enum_itemD (f1u (Draws.list (A:=X.A.in1) (show X.A.in1.handled = none from I.ok.hd hc) it l nl its.toArray)) he ⟨i,rfl,h1,p1.isList⟩ (by omega) ne (by simp; exact ⟨ne,nel⟩) fun u' h' tk hp a1 a2 a3 a4 hk=>?_
  obtain ⟨j,ej,hp⟩:=hp
  obtain rfl:j = i:=by omega
  obtain rfl:u' = u:=by
   have:its[j]? = some u':=by simpa using hp
   rw [hu] at this; cases this; rfl
  obtain ⟨j',ej',a2,_⟩:=a2
  obtain rfl:j' = j + 1:=by omega
  refine ⟨_,rfl,wpAny_letOwnedTupleGo_enum (s:={ s with heap:=h',toks:=tk + 1 }) a1 fun h2' he' hs'=>?_⟩
  have hs2:Heap.SameBut e h' h2':=hs'
  have ls:∀ {b o},s.heap.get? b = some o→b ≠ s.heap.objs.size:=fun e=>Nat.ne_of_lt (Heap.lt_size e)
  have es:e ≠ s.heap.objs.size:=ls he
  have up:∀ b o,b ∉ [e,it]→s.heap.get? b = some o→h2'.get? b = some o:=fun b o hb q=>by
   simp only [List.mem_cons,List.not_mem_nil,or_false,not_or] at hb
   exact (hs2.2 b hb.1).trans (hk b o hb.1 hb.2 q)
  have I1:Inv X pins σ H { s with heap:=h2',toks:=tk + 1 }:=I.turns (t':=tk + 1) up hf
  have fp:FpOk X pins H s.heap.objs.size:=I.fpOk (Nat.le_refl _) (I.hok.fresh (Nat.le_refl _))
  have g:h2'.get? s.heap.objs.size = some { cls:=.type "tuple",data:=.seq #[.int ((j + 1:Nat):Int) tk,u'] }:=(hs2.2 _ (Ne.symm es)).trans a3
  have I2:=I1.trackO (o:=.tup [.int ((j + 1:Nat):Int),x]) fp ⟨by show 2 ≤ sizeLine; decide,[.int ((j + 1:Nat):Int) tk,u'],.cons ⟨_,rfl⟩ (.cons ru .nil),_,g,rfl,_,rfl⟩
  refine ⟨.ref s.heap.objs.size,upd H s.heap.objs.size (.tup [.int ((j + 1:Nat):Int),x]),I2,rfl,⟨_,x,rfl,fp.1,rfl,fun zs hz=>by rw [I.list_inj hz q1]; exact hx⟩,?_,fun b hb=>?_⟩
  ·refine ⟨⟨u',by simpa using he'⟩,?_⟩
   obtain ⟨o,q,r⟩:=a2; exact ⟨o,(hs2.2 it (Ne.symm ne)).trans q,r⟩
  ·have hb':=(hf b hb).1
   have ne':b ≠ s.heap.objs.size:=by
    obtain ⟨o1,e1,_⟩:=h1
    simp only [List.mem_cons,List.not_mem_nil,or_false] at hb
    rcases hb with rfl | rfl
    ·exact ls he
    ·exact ls e1
   rw [a0o ne']; exact hb'
 done:=by
  intro X hP hw hK hc i pins s σ H E I hf st hg
  subst hP hw hK
  obtain ⟨xs,q1,hl⟩:=hg
  obtain ⟨⟨old,he⟩,h1⟩:=st
  obtain ⟨its,rv,p1,_⟩:=I.list q1
  have l1:=rv.length
  have hT:s.TypeIs (.ref e) "enumerate" := ⟨_,he,rfl⟩
  unfold pyNext
  refine wpAny_bind (wpAny_attempt (wpAny_callSpecial?_slot (name:=Str.ofString "__next__") hT F.slot_enumerate_next
   (wpAny_call_entry F.slot_enumerate_next hT F.entry_enumerate_next ?_ (F.args_enumerate_next_1 _))))
  show wpAny _ _ (field (.ref e) 2 >>= _) _ _ _
  refine wpAny_bind (wpAny_field he rfl (x:=.ref it) rfl ?_)
  refine wpAny_bind (wpAny_nextOf_list_end (I.ok.hd hc) h1 p1.isList (by simp; omega) fun h' x he' hx'=>?_)
  obtain ⟨o,ho,hc⟩:=hx'
  refine wpAny_bind (wpAny_isInstance (T := "StopIteration") (b:=true) ⟨o,ho,hc⟩ isSubtype_stop ?_)
  refine wpAny_pure ⟨rfl,I.turns (ch:=[e,it]) (t':=s.toks) (fun b o hb q=>?_) hf⟩
  simp only [List.mem_cons,List.not_mem_nil,or_false,not_or] at hb
  exact he' b o hb.2 q
 self:=fun _ _ _ _ _ st h=>by obtain ⟨⟨old,he⟩,_⟩:=st; exact wpAny_pyIter_enum he h
section
variable {M:Model} {A:Around} {E:Value→Shared→Prop} {s:Shared} {env:Env}
theorem y0h {pos:Pos} {T:String} {first:List Value} {args:List (Bool × Sem Value)} {keywords:List (Option Str × Sem Value)} {Q:Value→Shared→Prop}
  (hplain:args.any (·.1) = false) (hkw:keywords.any (·.1.isNone) = false)
  (h:wpAny M A (evalArgs (.type T) true args keywords) (fun a s₁=>wpAny M A (call (.type T) (first ++ a.pos) a.kw) Q E s₁) E s) :
  wpAny M A (callWith pos (.type T) first args keywords) Q E s:=by
 unfold callWith
 refine wpAny_bind (wpAny_holding (wpAny_mono h (fun a s₁ h₁=>wpAny_bind (wpAny_standAt ?_)) fun _ _ x=>x))
 simp only [hplain,hkw,Bool.or_false]
 refine wpAny_bind (wpAny_pure ?_)
 exact wpAny_bind (wpAny_mono h₁ (fun r s₂ hr=>wpAny_bind (wpAny_holding (wpAny_point (wpAny_pure hr)))) fun _ _ x=>x)
theorem o1k {pos:Pos} {T:String} {e:Expr} {rest:List Expr} {kws:List Keyword} {Q:Value→Shared→Prop}
  (h:wpAny M A (spliced (backTo pos (starEach (e :: rest) env))) (fun vs s₁=>wpAny M A (evalAll ((backToKw pos (keywordEach kws env)).map (·.2)))
   (fun kvs s₂=>wpAny M A (call (.type T) vs (((backToKw pos (keywordEach kws env)).filterMap (·.1)).zip kvs)) Q E s₂) E s₁) E s)
  (he:backTo pos (starEach (e :: rest) env) = (false,eval e env) :: backTo pos (starEach rest env):=by rfl)
  (hplain:(backTo pos (starEach (e :: rest) env)).any (·.1) = false:=by rfl)
  (hall:(backToKw pos (keywordEach kws env)).all (·.1.isSome) = true:=by rfl)
  (hkw:(backToKw pos (keywordEach kws env)).any (·.1.isNone) = false:=by rfl) :
  wpAny M A (callWith pos (.type T) [] (backTo pos (starEach (e :: rest) env)) (backToKw pos (keywordEach kws env))) Q E s:=by
 refine y0h hplain hkw ?_
 rw [he] at h ⊢
 exact evalArgs_kwB hall h
end
def h1s (K:PySem.W.Frag) (t:TA) (d:TE):TI:=fun σ H R=>t σ H fun vs H1=>d σ H1 fun u H2=>∃ l xs,u = .int 1∧vs = [.ref l]∧SqL K H2 l xs∧R (Ite1 K l) H2
theorem w0h (K:PySem.W.Frag) {X:Cx} {elts:List Expr} {x1} {tpos:Pos} {a dv:Expr} {ta:TA} {td:TE} {p pos kp:Pos} (hg:Gl X "enumerate") (hm:X.mg "enumerate" = none) (ha:PA X [a] ta) (hd:PE X dv td) (hK:X.K = K:=by rfl)
  (he:backTo pos (starEach [a] X.env) = (false,eval a X.env) :: backTo pos (starEach [] X.env):=by rfl) (hpl:(backTo pos (starEach [a] X.env)).any (·.1) = false:=by rfl) :
  PI X (.Tuple elts x1 tpos) (.Call (.Name "enumerate" p) [a] [⟨some "start",dv,kp⟩] pos) (h1s K ta td):=by
 subst hK
 intro pins s σ H R I h
 refine wpAny_Call_Name_kw (l0g I hg hm s0y ?_ (by decide) (by decide))
 refine o1k (thn (ha pos pins s σ H _ I h) fun us s1 ⟨vs,H1,I1,r1,q1⟩=>?_) he hpl rfl rfl
 refine kws_cons (thn (hd pins s1 σ H1 _ I1 q1) fun u s2 ⟨d,H2,I2,r2,q2⟩=>kws_nil ?_)
 obtain ⟨l,xs,rfl,rfl,h1,q⟩:=q2
 obtain ⟨u,rfl,ru⟩:=l0j r1
 cases ru
 obtain ⟨t,rfl⟩:=r2
 obtain ⟨its,_,p1,_⟩:=I2.list h1
 have nl:l ≠ s2.heap.objs.size:=by obtain ⟨o,ho,_⟩:=p1.isList; exact Nat.ne_of_lt (Heap.lt_size ho)
 refine k1s p1.isList fun h' he hi hsz hk=>?_
 refine wpAny_pyIter_enum he ?_
 refine ⟨_,_,_,_,H2,rfl,I2.kept (t':=s2.toks) hk,x0k (show s2.heap.objs.size + 1 ≠ s2.heap.objs.size by omega) nl,⟨⟨_,he⟩,hi⟩,fun b hb=>?_,q⟩
 have le:s2.heap.objs.size ≤ b:=by
  simp only [List.mem_cons,List.not_mem_nil,or_false] at hb
  rcases hb with rfl | rfl <;> omega
 exact I2.fpOk le (I2.hok.fresh le)
section
variable {K:PySem.W.Frag} {ts:TA} {as:AA} {td:TE} {ad:AE}
theorem d1s {S:Addr→Prop} {H:Hp} {l:Addr} {vs:List V} {ds:List D} (al:∀ a,S a→H a ≠ none) (h1:SqL K H l vs) (r1:RepDs K (hid H S) vs ds):WkAt K S H (Ite1 K l) (k0b 1 ds):=by
 intro k
 constructor
 ·intro d e
  obtain ⟨x,ex,rfl⟩:=s0s e
  rw [Nat.add_comm 1 k]
  obtain ⟨v,e1,rv⟩:=r1.get ex
  refine ⟨⟨vs,v,h1,e1⟩,fun z H' ⟨p,a,ez,hp,eH,ha⟩=>?_⟩
  have a1:=ha vs h1
  rw [e1] at a1
  cases a1
  subst eH ez
  have sm:Same H (upd H p (.tup [.int ((k + 1:Nat):Int),v])):=(Same.refl H).new hp
  have sm':Same (hid H S) (hid (upd H p (.tup [.int ((k + 1:Nat):Int),v])) S):=b0t fun a o e n=>⟨sm a o e,n⟩
  refine ⟨sm,?_⟩
  unfold RepD
  exact ⟨p,[.int ((k + 1:Nat):Int),v],rfl,(j0z (fun z=>al p z hp) b0g),.cons (by unfold RepD; rfl) (.cons (rv.same sm') .nil)⟩
 ·intro z
  rw [s0r] at z
  exact ⟨vs,h1,by rw [r1.length]; exact z⟩
def o1z (pin:Nat→Bool) (as:AA) (ad:AE):AI:=fun ρ q=>as ρ fun rs ρ1=>ad ρ1 fun r ρ2=>match rs,r with
 | [r1],.d (.int i)=>i = 1∧(match d1w pin ρ2 r1 with
  | some (ds,c)=>q (k0b 1 ds) c ρ2
  | _=>False)
 | _,_=>False
theorem n0v {pin:Nat→Bool} (h:TAok K ts as) (hd:TEok K td ad):TIok K pin (h1s K ts td) (o1z pin as ad):=by
 intro F σ ρ H q Rk r ha k
 refine h F σ ρ H _ _ r ha fun rs ρ1 vs H1 h1 r1 i1 k1=>?_
 refine hd F σ ρ1 H1 _ _ r1 h1 fun r2 ρ2 u H2 h2 o2=>?_
 obtain ⟨r2',k2,iu⟩:=o2.inF
 split at h2
 ·obtain ⟨x,rfl,ix⟩:=i1.one
  obtain ⟨rfl,h2⟩:=h2
  split at h2
  ·rename_i ds c e1
   obtain ⟨l1,us1,rfl,s1,w1⟩:=d1v r2' (ix.keep k2) e1
   refine ⟨l1,us1,iu.int,rfl,s1,k _ _ _ _ _ h2 r2' (k1.trans k2) fun σ2 ρ2 H2 sm sv pn al hc=>?_⟩
   obtain ⟨v1,z1,rd1⟩:=w1 σ2 ρ2 H2 sm sv pn hc
   exact d1s (fun a z=>(al a z).1) z1 rd1
  ·exact h2.elim
 ·exact h2.elim
end
theorem m0x (l:Addr) (items:Array Value) (hfit:(items.size:Int) < 2 ^ 63) :
  Meets (Builtin.«bool.__new__» ⟨[.type "bool",.ref l],[]⟩) (fun _ R s=>s.heap.IsList l items∧R (.ok (.ret (.bool (!items.isEmpty)))) { s with toks:=s.toks + 1 + 1 }) :=
 Meets.of_wp fun prog w A R s hs=>by
  obtain ⟨hp,g,d,tk,os⟩:=s
  obtain ⟨hl,hs⟩:=hs
  have f1:=F.conv_sub_bool
  repeat (any_goals (first | assumption | (with_reducible refine wpAny_truthy_list hl hfit ?_) | wp_step))
  all_goals first | exact ⟨_,rfl,hs⟩ | exact hs | skip
def i0v:D→Bool
 | .non=>true
 | _=>false
theorem f1t (e:D):eqD e .non = i0v e:=by
 cases e <;> simp [eqD,i0v]
section
variable {X:Cx} (K:PySem.W.Frag)
theorem y0k (hK:X.K = K:=by rfl):g0l X (.type "bool") (fun xs H Q=>∃ p ys,xs = [.ref p]∧SqL K H p ys∧Q (.bl (!ys.isEmpty)) H):=by
 subst hK
 intro pins s σ H xs us Q I r h
 obtain ⟨p,ys,rfl,hq,q⟩:=h
 obtain ⟨u,rfl,rx⟩:=l0j r
 cases rx
 obtain ⟨its,r',pl,hz⟩:=I.list hq
 have hlen:=r'.length
 have hn:=m0y
 refine call_bool_1 (m0x p its.toArray (by simp only [List.size_toArray] <;> omega)) ⟨pl.isList,?_⟩
 refine ⟨rfl,.bl (!ys.isEmpty),H,I.tok _,?_,q⟩
 show Value.bool _ = Value.bool _
 have e:its.toArray.isEmpty = ys.isEmpty:=by
  cases its <;> cases ys <;> simp_all
 rw [e]
def rNon (K:PySem.W.Frag) (neg:Bool):R2:=fun x y H Q=>∃ p xs ds,x = .non∧y = .ref p∧SqL K H p xs∧RepDs K H xs ds∧(∀ e ∈ ds,e.depth ≤ 60)∧Q (.bl (neg ^^ ds.any i0v)) H
def isNone:Value→Bool
 | .none=>true
 | _=>false
theorem p0x {H:Hp}:∀ {xs:List V} {us:List Value} {ds:List D},Vals xs us→RepDs K H xs ds→us.any isNone = ds.any i0v
 | [],_,[],.nil,_=>rfl
 | v :: xs,_,e :: ds,.cons h t,r=>by
  unfold RepDs at r
  rw [List.any_cons,List.any_cons,p0x t r.2]
  congr 1
  have r1:=r.1
  cases e <;> unfold RepD at r1
  ·subst r1; cases h; rfl
  ·subst r1; cases h; rfl
  ·subst r1; obtain ⟨t,rfl⟩:=h; rfl
  ·subst r1; obtain ⟨t,rfl⟩:=h; rfl
  ·obtain ⟨a,_,rfl,_⟩:=r1; cases h; rfl
  ·obtain ⟨a,_,rfl,_⟩:=r1; cases h; rfl
 | [],_,e :: ds,.nil,r=>by unfold RepDs at r; exact r.elim
 | v :: xs,_,[],.cons h t,r=>by unfold RepDs at r; exact r.elim
theorem h1n {pins:List (Addr × Obj)} {σ:St} {s:Shared} {H:Hp} {xs:List V} {ds:List D} {its:List Value} (I:Inv X pins σ H s) (hu:X.A.units + 64 < cLine) (r:Vals xs its) (rds:RepDs X.K H xs ds) (ha:∀ e ∈ ds,e.depth ≤ 60):∀ y,y ∈ its.toArray→SeqAt.EqAt X.A.in1 s y .none (isNone y):=by
 intro w hw
 have hw':w ∈ its:=by simpa using hw
 obtain ⟨j,hj,rfl⟩:=List.getElem_of_mem hw'
 have hl:=r.length
 have hl2:=rds.length
 obtain ⟨z,e1,e2⟩:=r.get (i:=j) (x:=xs[j]'(by omega)) (List.getElem?_eq_getElem _)
 rw [List.getElem?_eq_getElem hj] at e1
 cases e1
 obtain ⟨t,g1,g2⟩:=rds.get (i:=j) (d:=ds[j]'(by omega)) (List.getElem?_eq_getElem _)
 rw [List.getElem?_eq_getElem (by omega)] at g1
 cases g1
 have a1:=ha ds[j] (List.getElem_mem _)
 have e:isNone its[j] = eqD ds[j] .non:=by
  rw [f1t]
  have:=p0x (K:=X.K) (H:=H) (xs:=[xs[j]]) (us:=[its[j]]) (ds:=[ds[j]]) (.cons e2 .nil) (.cons g2 .nil)
  simpa using this
 rw [e]
 exact (w0d I 60 a1 (by rw [h0r]; omega) e2 (u:=.non) (uu:=.none) rfl g2 (by unfold RepD; rfl)).2
theorem e1t (hu:X.A.units + 64 < cLine) (hK:X.K = K:=by rfl):OpR X (compareOp .In) (rNon K false):=by
 subst hK
 intro pins s σ H x y v u Q I rx ry h
 obtain ⟨p,xs,ds,rfl,rfl,hq,rds,ha,q⟩:=h
 cases ry
 cases rx
 obtain ⟨its,r,pl,hz⟩:=I.list hq
 refine SeqAt.in_listAt isNone pl.isList (h1n I hu r rds ha) ⟨_,H,I,?_,q⟩
 show Value.bool _ = Value.bool _
 rw [List.any_toArray,p0x X.K r rds]; simp
theorem a1q (hu:X.A.units + 64 < cLine) (hK:X.K = K:=by rfl):OpR X (compareOp .NotIn) (rNon K true):=by
 subst hK
 intro pins s σ H x y v u Q I rx ry h
 obtain ⟨p,xs,ds,rfl,rfl,hq,rds,ha,q⟩:=h
 cases ry
 cases rx
 obtain ⟨its,r,pl,hz⟩:=I.list hq
 refine SeqAt.notIn_listAt isNone pl.isList (h1n I hu r rds ha) ⟨_,H,I,?_,q⟩
 show Value.bool _ = Value.bool _
 rw [List.any_toArray,p0x X.K r rds]; simp
end
section
variable {K:PySem.W.Frag}
@[irreducible] def gNon (neg:Bool):R→R→AE:=fun r1 r2 ρ q=>match r1,view ρ r2 with
 | .d .non,some (.lst ds)=>(∀ e ∈ ds,e.depth ≤ 60)∧q (.d (.bl (neg ^^ ds.any i0v))) ρ
 | _,_=>False
theorem u0u {neg:Bool} {r2:R} {ρ:En} {q:Ko} {ds:List D} (h2:view ρ r2 = some (.lst ds)) (ha:∀ e ∈ ds,e.depth ≤ 60) (hq:q (.d (.bl (neg ^^ ds.any i0v))) ρ):gNon neg (.d .non) r2 ρ q:=by
 unfold gNon
 rw [h2]
 exact ⟨ha,hq⟩
theorem a1r (neg:Bool):OpOk K (rNon K neg) (gNon neg):=by
 intro F σ ρ H x y r1 r2 q Q a h1 h2 h b
 unfold gNon at h
 split at h
 ·rename_i ds e2
  have rx:x = .non:=by unfold InF RepD at h1; exact h1
  obtain ⟨l,vs,rfl,sq,rd⟩:=c0s a h2 e2
  exact ⟨l,vs,ds,rx,rfl,sq,rd.same c0y,h.1,b.bl a h.2⟩
 ·exact h.elim
@[irreducible] def gBoolL:List R→AE:=fun rs ρ q=>match rs with
 | [r]=>(match view ρ r with
  | some (.lst ds)=>q (.d (.bl (!ds.isEmpty))) ρ
  | _=>False)
 | _=>False
theorem c1c {r:R} {ρ:En} {q:Ko} {ds:List D} (hv:view ρ r = some (.lst ds)) (hq:q (.d (.bl (!ds.isEmpty))) ρ):gBoolL [r] ρ q:=by
 unfold gBoolL; simp only [hv]; exact hq
theorem y0j:CbOk K (fun xs H Q=>∃ p ys,xs = [.ref p]∧SqL K H p ys∧Q (.bl (!ys.isEmpty)) H) gBoolL:=by
 intro F σ ρ H vs rs q Q a i h b
 unfold gBoolL at h
 split at h
 ·obtain ⟨x,rfl,i1⟩:=i.one
  split at h
  ·rename_i ds e
   obtain ⟨l,vs,rfl,sq,rd⟩:=c0s a i1 e
   have e:vs.isEmpty = ds.isEmpty:=by
    have:=rd.length
    cases vs <;> cases ds <;> simp_all
   exact ⟨l,vs,rfl,sq,by rw [e]; exact b.bl a h⟩
  ·exact h.elim
 ·exact h.elim
end
end L2
set_option maxHeartbeats 2000000
namespace L2
open PySem PySem.Spec PyProof.Rows
def tnI (k:Nat):Str:=toString (k:Int)
theorem b1p:∀ a < 10,∀ b < 10,∀ c < 10,intText? ⟨#[48 + a,48 + b,48 + c]⟩ = some ((100 * a + 10 * b + c:Nat):Int):=by decide +kernel
theorem b1q:∀ b < 10,∀ c < 10,intText? ⟨#[48 + b,48 + c]⟩ = some ((10 * b + c:Nat):Int):=by decide +kernel
theorem b1r:∀ c < 10,intText? ⟨#[48 + c]⟩ = some ((c:Nat):Int):=by decide +kernel
theorem f1x:∀ c < 128,Unicode.isDigit c = true→48 ≤ c∧c ≤ 57:=by decide +kernel
theorem i0q:∀ k < 1000,(tnI k).length ≤ 3∧(tnI k).cps.all (· < 128) = true∧(decide ((tnI k).length > 0) && (tnI k).cps.all Unicode.isDigit) = true∧intText? (tnI k) = some (k:Int):=by decide +kernel
def numW (w:Str):Option Nat:=(List.range 1000).find? fun n=>tnI n == w
theorem i1j {m n:Nat} (hm:m < 1000) (hn:n < 1000) (h:tnI m = tnI n):m = n:=by
 have a:=(i0q m hm).2.2.2
 rw [h,(i0q n hn).2.2.2] at a
 have:=Option.some.inj a
 omega
theorem u0e {n:Nat} (h:n < 1000):numW (tnI n) = some n:=by
 unfold numW
 cases e:(List.range 1000).find? fun k=>tnI k == tnI n with
 | none =>
  rw [List.find?_eq_none] at e
  have:=e n (List.mem_range.mpr h)
  simp at this
 | some m =>
  have h1:=List.find?_some e
  have h2:=List.mem_of_find?_eq_some e
  rw [i1j (List.mem_range.mp h2) h (by simpa using h1)]
theorem a1x {w:Str} {n:Nat} (h:numW w = some n):n < 1000∧w = tnI n:=by
 unfold numW at h
 have h1:=List.find?_some h
 have h2:=List.mem_of_find?_eq_some h
 exact ⟨List.mem_range.mp h2,(by simpa using h1:tnI n = w).symm⟩
theorem h0p {w:Str} (h:∀ n,n < 1000→tnI n ≠ w):numW w = none:=by
 unfold numW
 rw [List.find?_eq_none]
 intro n hn
 simpa using h n (List.mem_range.mp hn)
theorem figs {w:Str} (hl:w.length ≤ 3) (ha:w.cps.all (· < 128) = true) (hd:(decide (w.length > 0) && w.cps.all Unicode.isDigit) = true):∃ n:Nat,n < 1000∧intText? w = some (n:Int):=by
 obtain ⟨⟨cs⟩⟩:=w
 have hl':cs.length ≤ 3:=hl
 rw [Bool.and_eq_true] at hd
 have h0:0 < cs.length:=by simpa [Str.length] using hd.1
 have key:∀ c ∈ cs,∃ a,a < 10∧c = 48 + a:=fun c hc=>by
  have h1:c < 128:=by
   have:=ha
   simp only [List.all_toArray,List.all_eq_true] at this
   simpa using this c hc
  have h2:Unicode.isDigit c = true:=by
   have:=hd.2
   simp only [List.all_toArray,List.all_eq_true] at this
   exact this c hc
  have:=f1x c h1 h2
  exact ⟨c - 48,by omega,by omega⟩
 match cs,hl',h0,key with
 | [c],_,_,key =>
  obtain ⟨a,h1,rfl⟩:=key c (by simp)
  exact ⟨a,by omega,b1r a h1⟩
 | [c,d],_,_,key =>
  obtain ⟨a,h1,rfl⟩:=key c (by simp)
  obtain ⟨b,h2,rfl⟩:=key d (by simp)
  exact ⟨10 * a + b,by omega,b1q a h1 b h2⟩
 | [c,d,e],_,_,key =>
  obtain ⟨a,h1,rfl⟩:=key c (by simp)
  obtain ⟨b,h2,rfl⟩:=key d (by simp)
  obtain ⟨g,h3,rfl⟩:=key e (by simp)
  exact ⟨100 * a + 10 * b + g,by omega,b1p a h1 b h2 g h3⟩
 | [],_,h0,_=>simp at h0
 | _ :: _ :: _ :: _ :: _,hl,_,_=>simp at hl
def numD (w:Str):D:=match numW w with
 | some n=>.int (n:Nat)
 | none=>.non
theorem b0y (x y:Str):Txt.split x y ≠ []:=by
 intro h
 have:=congrArg List.length h
 unfold Txt.split at this
 split at this
 ·simp at this
 ·split at this
  ·simp at this
  ·rw [length_partsBetween] at this
   simp at this
theorem e0a (x y:Str):∀ p ∈ Txt.split x y,p.length ≤ x.length:=by
 intro p hp
 unfold Txt.split at hp
 split at hp
 ·rw [List.mem_singleton.mp hp]; exact Nat.le_refl _
 ·split at hp
  ·rw [List.mem_singleton.mp hp]; exact Nat.le_refl _
  ·simp only [Builtin.Str.partsBetween,List.mem_map] at hp
   obtain ⟨⟨i,j⟩,_,rfl⟩:=hp
   exact strSub_length_le ..
theorem f0d (x y:Str):(Txt.split x y).length ≤ x.length + 2:=by
 unfold Txt.split
 split
 ·simp
 ·split
  ·simp
  ·rw [length_partsBetween]
   have e1:=StrLaws.occ_length_le x y 0 x.length (x.length + 1)
   omega
section
variable {X:Cx}
def rSlS:V→Option Int→Option Int→Hp→VK→Prop:=fun x lo hi H Q=>∃ z,x = .str z∧z.length ≤ 1000000∧Q (.str (Txt.slice z lo hi)) H
theorem z0r:SlR X rSlS:=by
 intro pins s σ H x v vl vu lo hi sl Q I rx hs pl pu h
 obtain ⟨z,rfl,hz,q⟩:=h
 obtain ⟨t,rfl⟩:=rx
 have hsz:z.length ≤ sizeLine:=small hz
 refine ⟨"str",_,F.slot_str_getitem.lookup,typeIs_str _ _ _,?_⟩
 have fin:∀ (l u:Option (Int × Tok)),s.heap.IsSlice sl l u none→l.map (·.1) = lo→u.map (·.1) = hi→wpAny (model X.prog X.w) X.A (getItem (.str z t) (.ref sl)) (EP X pins σ Q) X.xe s:=fun l u hs' e1 e2=>by
  subst e1 e2
  exact wpAny_getItem_str_slice (l:=l) (u:=u) (st:=none) hs' rfl (post_val_or_str ⟨Nat.le_trans (Txt.slice_le z _ _) hsz,fun t' k=>⟨.str _,H,I.tok _,⟨_,rfl⟩,q⟩⟩)
 cases pl with
 | none =>
  cases pu with
  | none=>exact fin none none hs rfl rfl
  | int j tj=>exact fin none (some (j,tj)) hs rfl rfl
 | int i ti =>
  cases pu with
  | none=>exact fin (some (i,ti)) none hs rfl rfl
  | int j tj=>exact fin (some (i,ti)) (some (j,tj)) hs rfl rfl
def rMulS:R2:=fun x y H Q=>∃ z n,x = .str z∧y = .int n∧1 ≤ n∧n ≤ 1000∧z.length ≤ 1000∧Q (.str (Txt.mul z n)) H
theorem j1p:OpR X (binaryOp .Mult) rMulS:=by
 intro pins s σ H x y v u Q I rx ry h
 obtain ⟨z,n,rfl,rfl,h1,h2,hz,q⟩:=h
 obtain ⟨t,rfl⟩:=rx
 obtain ⟨t',rfl⟩:=ry
 refine SB.mul ⟨?_,fun _ _=>?_,fun _ _=>?_⟩ fun t' k=>⟨.str _,H,I.tok _,⟨_,rfl⟩,q⟩
 ·have e1:decide (n < -(2 ^ 63:Int)) = false:=decide_eq_false (by omega)
  have e2:decide (n ≥ 2 ^ 63) = false:=decide_eq_false (by omega)
  rw [e1,e2]; rfl
 ·intro hz'
  have h3:(2 ^ 63 - 1:Int) < (z.length:Int) * n:=Int.lt_mul_of_ediv_lt (by omega) hz'
  have h4:(z.length:Int) * n ≤ 1000 * 1000:=Int.mul_le_mul (by omega) h2 (by omega) (by decide)
  have h5:(1000 * 1000:Int) < 2 ^ 63 - 1:=by decide
  omega
 ·unfold Builtin.Str.tooLong
  have:z.length * n.toNat ≤ 1000 * 1000:=Nat.mul_le_mul hz (by omega)
  simp
  rw [sizeLine_eq]
  omega
end
section
variable {K:PySem.W.Frag} {ta te:TE} {a ae:AE} {ts:TA} {as:AA}
def gIxS:R→R→AE:=fun r1 r2 ρ q=>match r1,r2 with
 | .d (.str z),.d (.int i)=>∃ c,0 ≤ i∧i < 2 ^ 63∧i < z.length∧z.cps[i.toNat]? = some c∧q (.d (.str ⟨#[c]⟩)) ρ
 | _,_=>False
theorem a1s:OpOk K (fun x y H Q=>∃ z i c,x = .str z∧y = .int i∧0 ≤ i∧i < 2 ^ 63∧i < z.length∧z.cps[i.toNat]? = some c∧Q (.str ⟨#[c]⟩) H) gIxS:=by
 intro F σ ρ H x y r1 r2 q Q a h1 h2 h b
 unfold gIxS at h
 split at h
 ·obtain ⟨c,a1,a2,a3,a4,h⟩:=h
  exact ⟨_,_,c,h1.strv,h2.int,a1,a2,a3,a4,b.str a h⟩
 ·exact h.elim
def gInS (neg:Bool):R→R→AE:=fun r1 r2 ρ q=>match r1,r2 with
 | .d (.str i),.d (.str j)=>q (.d (.bl (if neg then !(!(Builtin.Str.occurrences j i 0 j.length 1).isEmpty) else !(Builtin.Str.occurrences j i 0 j.length 1).isEmpty))) ρ
 | _,_=>False
theorem x0t:OpOk K (fun x y H Q=>∃ i j,x = .str i∧y = .str j∧Q (.bl (!(!(Builtin.Str.occurrences j i 0 j.length 1).isEmpty))) H) (gInS true):=by
 intro F σ ρ H x y r1 r2 q Q a h1 h2 h b
 unfold gInS at h
 split at h
 ·exact ⟨_,_,h1.strv,h2.strv,b.bl a h⟩
 ·exact h.elim
def gMulS:R→R→AE:=fun r1 r2 ρ q=>match r1,r2 with
 | .d (.str z),.d (.int n)=>1 ≤ n∧n ≤ 1000∧z.length ≤ 1000∧q (.d (.str (Txt.mul z n))) ρ
 | _,_=>False
theorem e1x:OpOk K rMulS gMulS:=by
 intro F σ ρ H x y r1 r2 q Q a h1 h2 h b
 unfold gMulS at h
 split at h
 ·exact ⟨_,_,h1.strv,h2.int,h.1,h.2.1,h.2.2.1,b.str a h.2.2.2⟩
 ·exact h.elim
def aSlS (a:AE) (l u:AO):AE:=fun ρ q=>a ρ fun r ρ1=>l ρ1 fun lo ρ2=>u ρ2 fun hi ρ3=>match r with
 | .d (.str z)=>z.length ≤ 1000000∧q (.d (.str (Txt.slice z lo hi))) ρ3
 | _=>False
theorem t0g {tl th:TO} {al au:AO} (ha:TEok K ta a) (hl:TOok K tl al) (hh:TOok K th au):TEok K (tSl rSlS ta tl th) (aSlS a al au):=by
 intro F σ ρ H q Q r h k
 refine ha F σ ρ H _ _ r h fun r1 ρ1 x H1 h1 rel1=>?_
 obtain ⟨r',k1,i1⟩:=rel1.inF
 refine hl F σ ρ1 H1 _ _ r' h1 fun lo ρ2 H2 h2 r2 k2=>?_
 refine hh F σ ρ2 H2 _ _ r2 h2 fun hi ρ3 H3 h3 r3 k3=>?_
 have kk:=((k.after k1).after k2).after k3
 split at h3
 ·rename_i z
  have ex:x = .str z:=(show InF K F σ ρ1 H1 x (.d (.str z)) from i1).strv
  exact ⟨z,ex,h3.1,kk.str r3 h3.2⟩
 ·exact h3.elim
end
def Its (x:Str):It:=⟨fun i _=>i < x.cps.size,fun i H v H'=>H' = H∧∃ c,x.cps[i]? = some c∧v = .str ⟨#[c]⟩,fun i _=>x.cps.size ≤ i⟩
theorem y0u {P:Program} {w:World} {K:PySem.W.Frag} {tg:Expr} (it:Addr) (x:Str) (t:Tok):Turn P w K tg (Its x) [it] it (fun i h=>h.IsStrIter it (strIterType x) x t i) where
 mem:=by simp
 obj:=fun i h st b hb=>by
  have e:b = it:=by simpa using hb
  subst e
  obtain ⟨o,e,c,d⟩:=st
  exact ⟨o,e,fun v z=>by rw [d] at z; cases z⟩
 keep:=fun i h h' st k=>let ⟨o,ho,r⟩:=st; ⟨o,k it (by simp) o ho,r⟩
 item:=by
  intro X hP hw hK hc i pins s σ H E I hf st hg
  subst hP hw hK
  have hi:i < x.cps.size:=hg
  obtain ⟨f0,f1,f2,f3,f4,f5⟩:=hf it (by simp)
  have hx:x.cps[i]? = some x.cps[i]:=by simp [hi]
  have go:∀ (h':Heap),h'.IsStrIter it (strIterType x) x t (i + 1)→Heap.SameBut it s.heap h'→(strIterType x = "str_ascii_iterator" ∨ strIterType x = "str_iterator")→∃ u,some (Value.str ⟨#[x.cps[i]]⟩ s.toks) = some u ∧
   wpAny (model X.prog X.w) X.A (letOwnedTupleGo tg (.ref it) u) (fun _ s2=>∃ y H',Inv X pins σ H' s2∧RelV y u∧(Its x).yld i H y H'∧s2.heap.IsStrIter it (strIterType x) x t (i + 1)∧∀ b ∈ [it],H' b = none) E { s with heap:=h',toks:=s.toks + 1 }:=fun h' st' sb ht=>by
   have I1:Inv X pins σ H { s with heap:=h',toks:=s.toks + 1 }:=I.turned (t':=s.toks + 1) (fun b o hb e=>(sb.2 b hb).trans e) f0 f1 f3 f4 f5
   obtain ⟨o,e,c,d⟩:=id st'
   refine ⟨_,rfl,f1m (s:={ s with heap:=h',toks:=s.toks + 1 }) e c d (by rcases ht with ht | ht <;> rw [ht] <;> decide) ⟨.str ⟨#[x.cps[i]]⟩,H,I1,⟨_,rfl⟩,⟨rfl,_,hx,rfl⟩,st',fun b hb=>(hf b hb).1⟩⟩
  cases ha:x.cps.all (· < 128) with
  | true =>
   have et:strIterType x = "str_ascii_iterator" := by unfold strIterType; rw [if_pos ha]
   rw [et] at st go ⊢
   exact wpAny_pyNext_ascii_item st hx fun h' st' sb=>go h' st' sb (.inl rfl)
  | false =>
   have et:strIterType x = "str_iterator" := by unfold strIterType; rw [if_neg (by rw [ha]; exact Bool.false_ne_true)]
   rw [et] at st go ⊢
   exact wpAny_pyNext_wide_item st hx fun h' st' sb=>go h' st' sb (.inr rfl)
 done:=by
  intro X hP hw hK hc i pins s σ H E I hf st hg
  subst hP hw hK
  obtain ⟨f0,f1,f2,f3,f4,f5⟩:=hf it (by simp)
  have hi:x.cps.size ≤ i:=hg
  have hx:x.cps[i]? = none:=by simp; exact hi
  cases ha:x.cps.all (· < 128) with
  | true =>
   have et:strIterType x = "str_ascii_iterator" := by unfold strIterType; rw [if_pos ha]
   rw [et] at st
   exact wpAny_pyNext_ascii_end (I.ok.hd hc) st hx fun h' eb=>⟨rfl,I.turned (t':=s.toks) (fun b o hb e=>eb b o hb e) f0 f1 f3 f4 f5⟩
  | false =>
   have et:strIterType x = "str_iterator" := by unfold strIterType; rw [if_neg (by rw [ha]; exact Bool.false_ne_true)]
   rw [et] at st
   exact wpAny_pyNext_wide_end (I.ok.hd hc) st hx fun h' eb=>⟨rfl,I.turned (t':=s.toks) (fun b o hb e=>eb b o hb e) f0 f1 f3 f4 f5⟩
 self:=fun _ _ _ _ _ st h=>by
  cases ha:x.cps.all (· < 128) with
  | true =>
   have et:strIterType x = "str_ascii_iterator" := by unfold strIterType; rw [if_pos ha]
   rw [et] at st
   exact wpAny_pyIter_striter_ascii st h
  | false =>
   have et:strIterType x = "str_iterator" := by unfold strIterType; rw [if_neg (by rw [ha]; exact Bool.false_ne_true)]
   rw [et] at st
   exact wpAny_pyIter_striter_wide st h
def n1s (te:TE):TI:=fun σ H R=>te σ H fun v H1=>∃ z,v = .str z∧R (Its z) H1
theorem j1i {X:Cx} {tg e:Expr} {te:TE} (he:PE X e te):PI X tg e (n1s te):=by
 intro pins s σ H R I h
 refine thn (he pins s σ H _ I h) fun v s1 ⟨x,H1,I1,r1,z,e1,q⟩=>?_
 subst e1
 obtain ⟨t,rfl⟩:=r1
 refine wpAny_pyIter_strU ?_
 refine ⟨_,[s1.heap.objs.size],_,_,H1,rfl,I1.kept (t':=s1.toks) fun b o e=>Heap.get?_push_of_some _ e,y0u _ z t,⟨_,Heap.get?_push_size _ rfl,rfl,rfl⟩,fun b hb=>?_,q⟩
 have e:b = s1.heap.objs.size:=by simpa using hb
 subst e
 exact I1.fpOk (Nat.le_refl _) (I1.hok.fresh (Nat.le_refl _))
section
variable {K:PySem.W.Frag} {te ta:TE} {ae a:AE} {ts:TA} {as:AA}
def q0x (z:Str):List D:=z.cps.toList.map fun c=>D.str ⟨#[c]⟩
theorem i1a {S:Addr→Prop} {H:Hp} {z:Str}:WkAt K S H (Its z) (q0x z):=by
 intro k
 constructor
 ·intro d e
  unfold q0x at e
  rw [List.getElem?_map] at e
  obtain ⟨c,e1,e2⟩:=Option.map_eq_some_iff.mp e
  rw [Array.getElem?_toList] at e1
  have lt:k < z.cps.size:=by
   rcases Nat.lt_or_ge k z.cps.size with q | q
   ·exact q
   ·rw [Array.getElem?_eq_none q] at e1; cases e1
  refine ⟨lt,fun v H' ⟨eH,c',e3,ev⟩=>?_⟩
  rw [e1] at e3
  cases e3
  subst eH ev e2
  exact ⟨Same.refl _,by unfold RepD; rfl⟩
 ·intro q
  show z.cps.size ≤ k
  unfold q0x at q
  simpa using q
def o1x (x:AE):AI:=fun ρ q=>x ρ fun r ρ1=>match r with
 | .d (.str z)=>q (q0x z) (fun _=>True) ρ1
 | _=>False
theorem z0b {pin:Nat→Bool} (h:TEok K te ae):TIok K pin (n1s te) (o1x ae):=by
 intro F σ ρ H q Rk r ha k
 refine h F σ ρ H _ _ r ha fun r1 ρ1 x H1 h1 o1=>?_
 obtain ⟨r',k1,i1⟩:=o1.inF
 split at h1
 ·rename_i z
  have ex:x = .str z:=i1.strv
  exact ⟨z,ex,k _ _ _ _ _ h1 r' k1 fun _ _ _ _ _ _ _ _=>i1a⟩
 ·exact h1.elim
def o1y (a:AE) (as:AA):AE:=fun ρ q=>a ρ fun r ρ1=>match r with
 | .o i=>(match gt ρ1 i with
  | .ow _=>as ρ1 fun rs ρ2=>(match rs,gt ρ2 i with
   | [.d (.int j)],.ow ds=>∃ (n:Nat) (d:D),j = (n:Nat)∧ds[n]? = some d∧n < 1000000∧q (.d d) (pt ρ2 i (.ow (ds.eraseIdx n)))
   | _,_=>False)
  | _=>False)
 | _=>False
theorem RepDs.eraseIdx {H:Hp}:∀ {vs:List V} {ds:List D} (n:Nat),RepDs K H vs ds→RepDs K H (vs.eraseIdx n) (ds.eraseIdx n)
 | [],[],n,_=>by simp; exact .nil
 | v :: vs,d :: ds,0,h=>by unfold RepDs at h; exact h.2
 | v :: vs,d :: ds,n + 1,h=>by unfold RepDs at h; exact .cons h.1 (RepDs.eraseIdx n h.2)
 | [],d :: ds,n,h=>by unfold RepDs at h; exact h.elim
 | v :: vs,[],n,h=>by unfold RepDs at h; exact h.elim
theorem y0w (ha:TEok K ta a) (hs':TAok K ts as):TEok K (tBM K "list" rPopAt ta ts) (o1y a as):=by
 intro F σ ρ H q Q r h k
 refine ha F σ ρ H _ _ r h fun r1 ρ1 x H1 h1 rel1=>?_
 split at h1
 ·rename_i i
  obtain ⟨r',k1,i1⟩:=rel1.inF
  have ex:σ[i]? = some (some x):=i1
  split at h1
  ·rename_i ds0 hg0
   have s:=r'.sl i
   rw [hg0,ex] at s
   obtain ⟨l,vs0,e,hl,_⟩:=s
   injection e with e; injection e with e; subst e
   refine ⟨.inl ⟨rfl,_,SqL.of hl⟩,hs' F σ ρ1 H1 _ _ r' h1 fun rs ρ2 vs H2 h2 r2 i2 k2=>?_⟩
   split at h2
   ·rename_i j ds hg
    obtain ⟨z1,rfl,iz1⟩:=i2.one
    have s:=r2.sl i
    rw [hg,ex] at s
    obtain ⟨l',us,e,hl',rd'⟩:=s
    injection e with e; injection e with e; injection e with e; subst e
    obtain ⟨n,d,rfl,hd,hn,hq⟩:=h2
    obtain ⟨v,ev,rv⟩:=rd'.get hd
    have lt:n < us.length:=(List.getElem?_eq_some_iff.mp ev).1
    have hw:=r2.write (i:=i) (l:=l) (o:=.lst (us.eraseIdx n)) (s:=.ow (ds.eraseIdx n)) (by rw [hg]; rfl) ex rfl ⟨l,_,rfl,b0g,rd'.eraseIdx n⟩
    refine ⟨l,us,(n:Nat),n,v,rfl,by rw [iz1.int],hl',by omega,by omega,?_,ev,(((k.after k1).after k2).after hw.2).dat hw.1 hq (RepD.same rv hw.2.vis)⟩
    have:=PySem.StrLaws.seqIndex_nonneg (i:=(n:Int)) (n:=us.length) (by omega) (by omega)
    simpa using this
   ·exact h2.elim
  ·exact h1.elim
 ·exact h1.elim
end
theorem e0i (x y:Str):Txt.join y (Txt.split x y) = x:=by
 unfold Txt.join
 rw [StrLaws.glued_eq_join,StrLaws.join_split]
theorem h0h {a b:Str} (h:a.cps.toList = b.cps.toList):a = b:=by
 obtain ⟨⟨x⟩⟩:=a
 obtain ⟨⟨y⟩⟩:=b
 have:x = y:=h
 rw [this]
theorem d0f (a b:Str):(a ++ b).cps.toList = a.cps.toList ++ b.cps.toList:=by
 rw [Str.cps_append,Array.toList_append]
theorem d0z (sep x:Str):Txt.join sep [x] = x:=by unfold Txt.join; rw [StrLaws.glued_eq_join]; rfl
theorem c0x (sep x y:Str) (r:List Str):Txt.join sep (x :: y :: r) = x ++ sep ++ Txt.join sep (y :: r):=by
 unfold Txt.join
 rw [StrLaws.glued_eq_join,StrLaws.glued_eq_join]; rfl
theorem c1n {c:Nat}:∀ {a b r r':List Nat},c ∉ a→c ∉ b→a ++ c :: r = b ++ c :: r'→a = b∧r = r'
 | [],[],r,r',_,_,h=>by simp at h; exact ⟨rfl,h⟩
 | [],y :: b,r,r',_,hb,h=>by
  simp only [List.nil_append,List.cons_append,List.cons.injEq] at h
  exact absurd (by rw [h.1]; exact .head _) hb
 | x :: a,[],r,r',ha,_,h=>by
  simp only [List.nil_append,List.cons_append,List.cons.injEq] at h
  exact absurd (by rw [← h.1]; exact .head _) ha
 | x :: a,y :: b,r,r',ha,hb,h=>by
  simp only [List.cons_append,List.cons.injEq] at h
  obtain ⟨e1,e2⟩:=c1n (a:=a) (b:=b) (fun z=>ha (.tail _ z)) (fun z=>hb (.tail _ z)) h.2
  exact ⟨by rw [h.1,e1],e2⟩
theorem h1r {c:Nat}:∀ {xs ys:List Str},xs ≠ []→ys ≠ []→(∀ p ∈ xs,c ∉ p.cps.toList)→(∀ p ∈ ys,c ∉ p.cps.toList)→Txt.join ⟨#[c]⟩ xs = Txt.join ⟨#[c]⟩ ys→xs = ys
 | [],_,h,_,_,_,_=>absurd rfl h
 | _ :: _,[],_,h,_,_,_=>absurd rfl h
 | [x],[y],_,_,_,_,h=>by rw [d0z,d0z] at h; rw [h]
 | [x],y :: z :: r,_,_,hx,hy,h=>by
  rw [d0z,c0x] at h
  have:c ∈ x.cps.toList:=by rw [h,d0f,d0f]; simp
  exact absurd this (hx x (.head _))
 | x :: z :: r,[y],_,_,hx,hy,h=>by
  rw [d0z,c0x] at h
  have:c ∈ y.cps.toList:=by rw [← h,d0f,d0f]; simp
  exact absurd this (hy y (.head _))
 | x :: z :: r,y :: w :: q,_,_,hx,hy,h=>by
  rw [c0x,c0x] at h
  have h2:=congrArg (fun s:Str=>s.cps.toList) h
  simp only [d0f,List.append_assoc] at h2
  have h3:x.cps.toList ++ c :: (Txt.join ⟨#[c]⟩ (z :: r)).cps.toList = y.cps.toList ++ c :: (Txt.join ⟨#[c]⟩ (w :: q)).cps.toList:=h2
  obtain ⟨e1,e2⟩:=c1n (hx x (.head _)) (hy y (.head _)) h3
  rw [h0h e1,h1r (xs:=z :: r) (ys:=w :: q) (by simp) (by simp) (fun p hp=>hx p (.tail _ hp)) (fun p hp=>hy p (.tail _ hp)) (h0h e2)]
theorem l0r {c:Nat} {ys:List Str} (hn:ys ≠ []) (h:∀ p ∈ ys,c ∉ p.cps.toList):Txt.split (Txt.join ⟨#[c]⟩ ys) ⟨#[c]⟩ = ys :=
 h1r (b0y _ _) hn (StrLaws.split_free _ c) h (e0i _ _)
theorem k0t:Str.ofString "\n" = ⟨#[10]⟩:=by decide +kernel
theorem p0h:Str.ofString " " = ⟨#[32]⟩:=by decide +kernel
theorem i0b:∀ k < 1000,10 ∉ (tnI k).cps.toList∧32 ∉ (tnI k).cps.toList:=by decide +kernel
end L2
namespace L2
open PySem
def Ris (xs:Array Nat):Prop:=xs.toList.Pairwise (· < ·)
theorem Ris.lt {xs:Array Nat} (h:Ris xs) {i k:Nat} (hk:k < xs.size) (hi:i < k):xs[i]'(by omega) < xs[k]:=by
 have:=List.pairwise_iff_getElem.mp h i k (by simp; omega) (by simpa using hk) hi
 simpa using this
theorem q0l {xs:Array Nat} {j:Nat} (hr:Ris xs):∀ (f lo hi:Nat),hi - lo ≤ f→lo ≤ hi→hi ≤ xs.size→(∀ k (h:k < xs.size),k < lo→xs[k] < j)→(∀ k (h:k < xs.size),hi ≤ k→j ≤ xs[k]) →
  SetTable.below.go xs j f lo hi ≤ xs.size∧(∀ k (h:k < xs.size),k < SetTable.below.go xs j f lo hi→xs[k] < j)∧(∀ k (h:k < xs.size),SetTable.below.go xs j f lo hi ≤ k→j ≤ xs[k])
 | 0,lo,hi,hf,hl,hz,h1,h2=>by
  have:hi = lo:=by omega
  subst this
  exact ⟨hz,h1,h2⟩
 | f + 1,lo,hi,hf,hl,hz,h1,h2=>by
  unfold SetTable.below.go
  by_cases hlt:lo < hi
  ·rw [if_pos hlt]
   dsimp only
   have hm:(lo + hi) / 2 < xs.size:=by omega
   have eg:xs.getD ((lo + hi) / 2) j = xs[(lo + hi) / 2]:=by simp [Array.getD,hm]
   rw [eg]
   by_cases hc:xs[(lo + hi) / 2] < j
   ·rw [if_pos hc]
    refine q0l hr f _ hi (by omega) (by omega) hz (fun k hk h=>?_) h2
    by_cases e:k = (lo + hi) / 2
    ·subst e; exact hc
    ·exact Nat.lt_trans (hr.lt hm (by omega)) hc
   ·rw [if_neg hc]
    refine q0l hr f lo _ (by omega) (by omega) (by omega) h1 (fun k hk h=>?_)
    by_cases e:k = (lo + hi) / 2
    ·subst e; omega
    ·have:=hr.lt hk (show (lo + hi) / 2 < k by omega)
     omega
  ·rw [if_neg hlt]
   have:hi = lo:=by omega
   subst this
   exact ⟨hz,h1,h2⟩
theorem m0a {xs:Array Nat} {j:Nat} (hr:Ris xs):SetTable.below xs j ≤ xs.size∧(∀ k (h:k < xs.size),k < SetTable.below xs j→xs[k] < j)∧(∀ k (h:k < xs.size),SetTable.below xs j ≤ k→j ≤ xs[k]) :=
 q0l hr xs.size 0 xs.size (by omega) (Nat.zero_le _) (Nat.le_refl _) (fun k _ h=>absurd h (Nat.not_lt_zero _)) fun k h h'=>absurd h (by omega)
theorem g1g {xs:Array Nat} (hr:Ris xs) {k:Nat} (hk:k < xs.size):SetTable.below xs xs[k] = k:=by
 obtain ⟨h0,h1,h2⟩:=m0a (j:=xs[k]) hr
 rcases Nat.lt_trichotomy (SetTable.below xs xs[k]) k with h | h | h
 ·have a:=h2 (SetTable.below xs xs[k]) (by omega) (Nat.le_refl _)
  have b:=hr.lt hk h
  omega
 ·exact h
 ·have:=h1 k hk h
  omega
theorem y0n {xs:Array Nat} (hr:Ris xs) {k:Nat} (hk:k < xs.size):SetTable.below xs (xs[k] + 1) = k + 1:=by
 obtain ⟨h0,h1,h2⟩:=m0a (j:=xs[k] + 1) hr
 rcases Nat.lt_trichotomy (SetTable.below xs (xs[k] + 1)) (k + 1) with h | h | h
 ·have:=h2 k hk (by omega)
  omega
 ·exact h
 ·have a:=h1 (k + 1) (by omega) h
  have b:=hr.lt (show k + 1 < xs.size by omega) (show k < k + 1 by omega)
  omega
theorem y0m {xs:Array Nat} (hr:Ris xs):SetTable.below xs 0 = 0:=by
 obtain ⟨h0,h1,h2⟩:=m0a (j:=0) hr
 rcases Nat.eq_zero_or_pos (SetTable.below xs 0) with h | h
 ·exact h
 ·have:=h1 0 (by omega) h
  omega
theorem i1y {xs:Array Nat} {j:Nat} (hr:Ris xs) (hj:j ∉ xs.toList):Ris (SetTable.insertAt xs (SetTable.below xs j) j):=by
 obtain ⟨h0,h1,h2⟩:=m0a (j:=j) hr
 unfold Ris
 rw [SetTable.toList_insertAt]
 have sp:(xs.toList.take (SetTable.below xs j) ++ xs.toList.drop (SetTable.below xs j)).Pairwise (· < ·):=by rw [List.take_append_drop]; exact hr
 obtain ⟨p1,p2,p3⟩:=List.pairwise_append.mp sp
 have lo:∀ a ∈ xs.toList.take (SetTable.below xs j),a < j:=fun a ha=>by
  obtain ⟨i,hi,rfl⟩:=List.getElem_of_mem ha
  rw [List.length_take,Array.length_toList] at hi
  rw [List.getElem_take,Array.getElem_toList]
  exact h1 i (by omega) (by omega)
 have up:∀ a ∈ xs.toList.drop (SetTable.below xs j),j < a:=fun a ha=>by
  have hm:=List.mem_of_mem_drop ha
  obtain ⟨i,hi,rfl⟩:=List.getElem_of_mem ha
  rw [List.length_drop,Array.length_toList] at hi
  rw [List.getElem_drop,Array.getElem_toList] at hm ⊢
  have:=h2 (SetTable.below xs j + i) (by omega) (by omega)
  rcases Nat.lt_or_eq_of_le this with h | h
  ·exact h
  ·exact absurd (h ▸ hm) hj
 refine List.pairwise_append.mpr ⟨p1,List.pairwise_cons.mpr ⟨up,p2⟩,fun a ha b hb=>?_⟩
 rcases List.mem_cons.mp hb with rfl | hb
 ·exact lo a ha
 ·exact p3 a ha b hb
def Open (t:SetTable) (j:Nat):Prop:=∀ i,t.slot j ≠ .live i
theorem e1s {t:SetTable} {j:Nat} (hr:Ris t.place) (h:Open t j):j ∉ t.place.toList:=by
 intro hm
 obtain ⟨k,hk,e⟩:=List.getElem_of_mem hm
 rw [Array.length_toList] at hk
 rw [Array.getElem_toList] at e
 refine h k ?_
 unfold SetTable.slot
 dsimp only
 rw [← e,g1g hr hk,if_pos (by simp [hk])]
theorem t0d (t:SetTable) (p:SetTable.Probe):(t.advance p).dummy = p.dummy:=by
 unfold SetTable.advance; split <;> rfl
theorem u0t {t:SetTable} {f:Nat→Int} {h:Int}:∀ (n:Nat) (p:SetTable.Probe) (j:Nat) (d:Option Nat),SetTable.probe.go t f h n p = some (.empty j d)→(∀ x,p.dummy = some x→Open t x)→Open t j∧∀ x,d = some x→Open t x
 | 0,p,j,d,e,_=>by cases e
 | n + 1,p,j,d,e,hd=>by
  unfold SetTable.probe.go at e
  cases es:t.slot p.j with
  | empty =>
   rw [es] at e
   dsimp only at e
   simp only [Option.some.injEq,SetTable.Met.empty.injEq] at e
   obtain ⟨rfl,rfl⟩:=e
   exact ⟨fun i z=>(by rw [es] at z; cases z),hd⟩
  | dummy =>
   rw [es] at e
   refine u0t n _ j d e fun x hx=>?_
   rw [t0d] at hx
   cases hx
   exact fun i z=>by rw [es] at z; cases z
  | live i =>
   rw [es] at e
   dsimp only at e
   split at e
   ·cases e
   ·refine u0t n _ j d e fun x hx=>?_
    rw [t0d] at hx
    exact hd x hx
theorem c1d {t:SetTable} {h:Int} {j:Nat} {b:Bool} (e:t.freeSlot h = some (j,b)):Open t j:=by
 unfold SetTable.freeSlot at e
 split at e
 ·rename_i j' d hp
  simp only [Option.some.injEq,Prod.mk.injEq] at e
  obtain ⟨rfl,_⟩:=e
  unfold SetTable.probe at hp
  obtain ⟨a,b⟩:=u0t _ _ _ _ hp fun x hx=>by cases hx
  cases d with
  | none=>exact a
  | some x=>exact b x rfl
 ·cases e
def Led (t:SetTable):Prop:=t.led = true∧Ris t.place
theorem z0y (n:Nat):Ris (Array.range n):=by
 unfold Ris
 rw [Array.toList_range]
 exact List.pairwise_lt_range
theorem j0w {t:SetTable} (h:t.led = true) (n:Nat):Led (t.standIn n):=⟨h,z0y n⟩
theorem n1d {t:SetTable} (h:Led t) (n:Nat):Led (t.orStandIn n):=by
 unfold SetTable.orStandIn
 split
 ·exact h
 ·exact j0w h.1 n
theorem j1x {t:SetTable} (h:Led t) (es:Array (Int × Value)) (k:Int) (x:Value):Led (layNew t es k x).2.1:=by
 unfold layNew
 split
 ·rename_i j b e
  have l2:Led (t.put j).1:=⟨h.1,i1y h.2 (e1s h.2 (c1d e))⟩
  exact n1d l2 _
 ·exact j0w h.1 _
theorem k1n {α:Type} (f:Nat→Option α) (n:Nat):(((List.range n).filterMap fun j=>(f j).map (j,·)).map (·.1)).Sublist (List.range n):=by
 rw [List.map_filterMap]
 have:(fun x=>Option.map (fun y:Nat × α=>y.1) ((f x).map (x,·))) = fun x=>if (f x).isSome then some x else none:=by
  funext x; cases f x <;> rfl
 rw [this]
 have e:(List.range n).filterMap (fun x=>if (f x).isSome = true then some x else none) = (List.range n).filter fun x=>(f x).isSome:=by
  induction List.range n with
  | nil=>rfl
  | cons a l ih =>
   rw [List.filterMap_cons,List.filter_cons]
   cases (f a).isSome <;> simp [ih]
 rw [e]
 exact List.filter_sublist
theorem y0a {t t':SetTable} {hs:Array Int} {k:Nat} {o:Array Nat} (h:t.led = true) (e:t.relaid hs k = some (t',o)):Led t':=by
 unfold SetTable.relaid SetTable.laid at e
 cases ho:SetTable.layClean (SetTable.sizeAbove k - 1) hs with
 | none=>rw [ho] at e; cases e
 | some ow =>
  rw [ho] at e
  simp only [Option.bind_eq_bind,Option.bind_some,Option.pure_def,Option.some.injEq,Prod.mk.injEq] at e
  obtain ⟨rfl,_⟩:=e
  refine ⟨h,?_⟩
  unfold Ris
  dsimp only
  exact List.Pairwise.sublist (k1n (fun j=>ow.getD j none) _) List.pairwise_lt_range
theorem j1y {t:SetTable} (h:t.led = true) (es:Array (Int × Value)) (k:Nat):Led (relayAll t es k).2.1:=by
 unfold relayAll
 split
 ·rename_i t' o e
  dsimp only
  split
  ·exact y0a h e
  ·exact j0w h _
 ·exact j0w h _
end L2
namespace L2
open PySem PySem.Spec PyProof.Rows
def byT (w:World):Bool:=w.params.followText "set-order"
def SetI (P:Program) (w:World) (h:Heap) (a:Addr) (ks:List Int):Prop :=
 ∃ o es ep t,h.get? a = some o∧o.ExactSet∧o.data = .set es ep t∧ElemsOf (intKind P w) es.toList∧(∀ k,k ∈ ks↔∃ e ∈ es.toList,(intKind P w).is k e.2 = true)∧es.size < scanBound∧t.fits es.size = true∧es.size = ks.length∧(byT w = false→Led t)
section
variable {P:Program} {w:World} {A:Around} {E:Value→Shared→Prop} {s:Shared}
theorem SetI.kept {h h':Heap} {a:Addr} {ks:List Int} (hS:SetI P w h a ks) (k:∀ o,h.get? a = some o→h'.get? a = some o):SetI P w h' a ks:=by
 obtain ⟨o,es,ep,t,ho,r⟩:=hS
 exact ⟨o,es,ep,t,k o ho,r⟩
theorem SetI.store {h:Heap} {a:Addr} {o:Obj} {es es':Array (Int × Value)} {ep:Nat} {t t':SetTable} {ks:List Int} (e:h.get? a = some o) (x:o.ExactSet) (d:o.data = .set es ep t)
  (h1:ElemsOf (intKind P w) es'.toList) (h2:∀ k,k ∈ ks↔∃ e ∈ es'.toList,(intKind P w).is k e.2 = true) (h3:es'.size < scanBound) (h4:t'.fits es'.size = true) (h5:es'.size = ks.length) (h6:byT w = false→Led t') :
  (h.update a (Obj.putSet es' t')).get? a = some { o with data:=.set es' (ep + 1) t' }∧SetI P w (h.update a (Obj.putSet es' t')) a ks:=by
 have g:(h.update a (Obj.putSet es' t')).get? a = some { o with data:=.set es' (ep + 1) t' }:=by
  rw [Heap.get?_update_self (Obj.putSet es' t') e (by rw [putSet_of es' t' d]; rfl),putSet_of es' t' d]
 exact ⟨g,{ o with data:=.set es' (ep + 1) t' },es',ep + 1,t',g,x,rfl,h1,h2,h3,h4,h5,h6⟩
theorem d1i {g:Bool→Sem Unit} (hg:∀ (b:Bool) (z:Shared) (q:Unit→Shared→Prop),q () z→wpAny (model P w) A (g b) q E z) {a:Addr} {o:Obj} {es e1:Array (Int × Value)} {ep:Nat} {t t2:SetTable} {ks:List Int}
  (e:s.heap.get? a = some o) (x:o.ExactSet) (d:o.data = .set es ep t)
  (h1:ElemsOf (intKind P w) e1.toList) (h2:∀ k,k ∈ ks↔∃ e ∈ e1.toList,(intKind P w).is k e.2 = true) (h3:e1.size < scanBound) (h4:t2.fits e1.size = true) (h5:e1.size = ks.length) (h6:byT w = false→Led t2)
  {dm:Bool} {R:Option Bool→Shared→Prop} (h:∀ h',Heap.SameBut a s.heap h'→SetI P w h' a ks→R (some true) { s with heap:=h' }) :
  wpAny (model P w) A (do
   storeSet a e1 t2
   if (!dm && t2.tooFull) = true then do
    g (relayAll t2 e1 (SetTable.grown e1.size)).2.2
    storeSet a (relayAll t2 e1 (SetTable.grown e1.size)).1 (relayAll t2 e1 (SetTable.grown e1.size)).2.1
    pure (some true)
   else pure (some true)) R E s:=by
 refine wpAny_bind (wpAny_storeSet_of e d ?_ (fits_of_scanBound h3))
 obtain ⟨g1,S1⟩:=SetI.store (P:=P) (w:=w) e x d h1 h2 h3 h4 h5 h6
 have b1:=Heap.SameBut.update s.heap a (Obj.putSet e1 t2)
 split
 ·have p:=relayAll_perm t2 e1 (SetTable.grown e1.size)
  have f:=relayAll_fits t2 e1 (SetTable.grown e1.size)
  have l:byT w = false→Led (relayAll t2 e1 (SetTable.grown e1.size)).2.1:=fun z=>j1y (h6 z).1 _ _
  generalize relayAll t2 e1 (SetTable.grown e1.size) = R2 at p f l ⊢
  obtain ⟨e2,t3,g2⟩:=R2
  dsimp only at p f l ⊢
  have n2:e2.size = e1.size:=by have:=p.length_eq; simpa using this
  refine wpAny_bind (hg _ _ _ ?_)
  refine wpAny_bind (wpAny_storeSet_of g1 rfl ?_ (fits_of_scanBound (by omega)))
  obtain ⟨_,S2⟩:=SetI.store (P:=P) (w:=w) (ks:=ks) g1 x rfl (ElemsOf.perm h1 p) (fun k=>(h2 k).trans ⟨fun ⟨y,hy,z⟩=>⟨y,p.mem_iff.mpr hy,z⟩,fun ⟨y,hy,z⟩=>⟨y,p.mem_iff.mp hy,z⟩⟩) (by omega) f (by omega) l
  exact wpAny_pure (h _ (b1.trans (Heap.SameBut.update _ a _)) S2)
 ·exact wpAny_pure (h _ b1 S1)
theorem o1i (ks:List Int) (k j:Int):j ∈ step_dedup ks k↔j ∈ ks ∨ j = k:=by
 unfold step_dedup
 split
 ·rename_i h
  rw [List.any_eq_true] at h
  obtain ⟨y,hy,e⟩:=h
  have:y = k:=by simpa using e
  subst this
  exact ⟨.inl,fun z=>z.elim id fun e=>e ▸ hy⟩
 ·simp
theorem o1j {ks:List Int} {k:Int} (h:k ∈ ks):step_dedup ks k = ks:=by
 unfold step_dedup
 rw [if_pos (List.any_eq_true.mpr ⟨k,h,by simp⟩)]
theorem h1w {ks:List Int} {k:Int} (h:k ∉ ks):step_dedup ks k = ks ++ [k]:=by
 unfold step_dedup
 rw [if_neg (fun z=>by obtain ⟨y,hy,e⟩:=List.any_eq_true.mp z; exact h ((by simpa using e:y = k) ▸ hy))]
theorem q1d {a:Addr} {ks:List Int} {k:Int} {x:Value} {Q:Bool→Shared→Prop} (hk:(intKind P w).is k x = true) (hx:x.scannable = true) (hS:SetI P w s.heap a ks) (hr:ks.length + 1 < scanBound)
  (h:∀ h' b,Heap.SameBut a s.heap h'→SetI P w h' a (step_dedup ks k)→Q b { s with heap:=h' }):wpAny (model P w) A (setAddHashed a x ((intKind P w).hash k)) Q E s:=by
 obtain ⟨o,es,ep,t,ho,ex,d,el,me,bd,fi,le,ld⟩:=hS
 unfold setAddHashed setAddHashedIn
 refine wpAny_holding (wpAny_bind (wpAny_setState_of ho d fi ?_)); dsimp only
 rw [byScan_of hx bd el]; simp only [if_true]
 unfold setAddByScan
 refine wpAny_bind (wpAny_bind (wpAny_rule (wpAny_bind (wpAny_setScan_of hk ho d fi el ?_))))
 cases hf:List.findIdx? (fun e=>(intKind P w).is k e.2) es.toList with
 | some j =>
  dsimp only
  obtain ⟨lj,pj,_⟩:=List.findIdx?_eq_some_iff_getElem.mp hf
  have kin:k ∈ ks:=(me k).mpr ⟨_,List.getElem_mem lj,pj⟩
  refine wpAny_pure (wpAny_pure ?_)
  have:=h s.heap false (Heap.SameBut.refl a s.heap) (by rw [o1j kin]; exact ⟨o,es,ep,t,ho,ex,d,el,me,bd,fi,le,ld⟩)
  exact this
 | none =>
  dsimp only
  have kout:k ∉ ks:=fun z=>by
   obtain ⟨y,hy,q⟩:=(me k).mp z
   have:=List.findIdx?_eq_none_iff.mp hf y hy
   rw [q] at this; cases this
  have gw:∀ (b:Bool) {z:Shared} {q:Unit→Shared→Prop},q () z→wpAny (model P w) A (match b with | true=>rule "set.scan.the-table-gave-way" | false=>pure ()) q E z:=fun b z q hq=>by
   cases b
   ·exact wpAny_pure hq
   ·exact wpAny_rule hq
  have pe:=layNew_perm t es ((intKind P w).hash k) x
  have fe:=layNew_fits t es ((intKind P w).hash k) x
  have lf:byT w = false→Led (layNew t es ((intKind P w).hash k) x).2.1:=fun z=>j1x (ld z) _ _ _
  generalize layNew t es ((intKind P w).hash k) x = L at pe fe lf ⊢
  obtain ⟨e1,t1,dm,gv⟩:=L
  dsimp only at pe fe lf ⊢
  rw [Array.toList_push] at pe
  have el1:ElemsOf (intKind P w) e1.toList:=(ElemsOf.push el hk hx).perm pe
  have n1:e1.size = ks.length + 1:=by have:=pe.length_eq; simp at this; omega
  have me1:∀ j,j ∈ ks ++ [k]↔∃ e ∈ e1.toList,(intKind P w).is j e.2 = true:=fun j=>by
   rw [List.mem_append,me j,List.mem_singleton]
   constructor
   ·rintro (⟨y,hy,q⟩ | rfl)
    ·exact ⟨y,pe.mem_iff.mpr (List.mem_append_left _ hy),q⟩
    ·exact ⟨_,pe.mem_iff.mpr (List.mem_append_right _ (List.mem_singleton.mpr rfl)),hk⟩
   ·rintro ⟨y,hy,q⟩
    rcases List.mem_append.mp (pe.mem_iff.mp hy) with hy | hy
    ·exact .inl ⟨y,hy,q⟩
    ·rw [List.mem_singleton.mp hy] at q
     exact .inr ((intKind P w).inj x j k q hk)
  refine wpAny_bind (gw _ ?_)
  have fin:∀ h',Heap.SameBut a s.heap h'→SetI P w h' a (ks ++ [k])→Q true { s with heap:=h' }:=fun h' b z=>h h' true b (by rw [h1w kout]; exact z)
  split
  ·refine wpAny_bind ?_
   rw [hashByValue_scannable 8 hx]
   refine wpAny_pure ?_
   refine d1i ?_ ho ex d el1 me1 (by omega) ?_ (by rw [List.length_append]; simpa using n1) ?_ ?_
   ·intro b z q hq
    cases b
    ·exact wpAny_pure hq
    ·exact wpAny_rule hq
   ·split
    ·exact fe
    ·exact SetTable.fits_plain_off fe
   ·intro z
    split
    ·exact lf z
    ·exact lf z
   ·intro h' b z
    exact wpAny_pure (fin h' b z)
  ·refine wpAny_bind (wpAny_pure ?_)
   simp only [if_true]
   refine d1i ?_ ho ex d el1 me1 (by omega) fe (by rw [List.length_append]; simpa using n1) lf ?_
   ·intro b z q hq
    cases b
    ·exact wpAny_pure hq
    ·exact wpAny_rule hq
   ·intro h' b z
    exact wpAny_pure (fin h' b z)
end
end L2
set_option maxHeartbeats 3200000
namespace L2
open PySem PySem.Spec PyProof.Rows
def setO (w:World):Obj:={ cls:=.type "set",dict:=none,data:=.set #[] 0 (.fresh 0 0 (!byT w)) }
section
variable {P:Program} {w:World} {A:Around} {E:Value→Shared→Prop} {s:Shared}
theorem p1r (a:Value) {q:Value→Shared→Prop} (h:q (.ref s.heap.objs.size) { s with heap:=s.heap.push (setO w) }) :
  codeAny (model P w) A (.call (.builtin "set.__new__") ⟨[.type "set",a],[]⟩) (wants q E) s:=by
 refine codeAny_of_tree (show wpAny _ A.in1 (do checkBuiltinCall "set.__new__" ⟨[.type "set",a],[]⟩; again (.builtin "set.__new__" ⟨[.type "set",a],[]⟩)) _ _ s from ?_)
 refine wpAny_bind (wpAny_of_eq (PySem.F.newCall_set_1 a) (wpAny_pure ⟨plainId_quiet PySem.F.plain_set_new _,codeAny_builtin PySem.F.entry_set_new ?_⟩))
 rw [Around.under_plainId PySem.F.plain_set_new _]; unfold Builtin.«set.__new__» Builtin.Frozenset.newClass
 have su:=sub_set_self
 obtain ⟨hp,g,d,tk,os⟩:=s
 dsimp only
 wp_walk
 refine wpAny_askSetting (wpAny_pure ?_)
 dsimp only; simp only [newObj]
 exact wpAny_bind (wpAny_alloc (wpAny_pure (wpAny_pure h)))
theorem e1g (h:Heap):SetI P w (h.push (setO w)) h.objs.size [] :=
 ⟨setO w,#[],0,_,Heap.get?_push_size _ rfl,⟨rfl,rfl,rfl⟩,rfl,fun e he=>by simp at he,fun k=>by simp,by decide,by rfl,rfl,fun z=>⟨by simp [SetTable.fresh,z],by simp [Ris,SetTable.fresh]⟩⟩
variable {R:Result→Shared→Prop} {I:Addr} {fp wr:List Addr} {G:Array GenState→Array GenState→Prop} {n:Nat} {p:Nat→Value→Prop} {St:Nat→Shared→Prop}
theorem p1i (W:WalksS P w A.in1 I fp wr G n p St) (S:Addr) (hf:S ∉ fp) (f:Nat→Int) (hv:∀ i v,p i v→∃ t,v = .int (f i) t) (hb:n + 1 < scanBound) :
  ∀ (k i:Nat) (z:Shared),n - i = k→i ≤ n→St i z→SetI P w z.heap S (firstMet f i) →
   (∀ z',Moved (S :: wr) G z z'→SetI P w z'.heap S (firstMet f n)→R (.ok (.ret .none)) z')→codeAny (model P w) A (.builtin "set.update.loop" ⟨[.ref S,.ref I],[]⟩) R z:=by
 have hw:S ∉ wr:=fun q=>hf (W.sub _ q)
 have sb:∀ b ∈ wr,b ∈ S :: wr:=fun b q=>List.mem_cons_of_mem _ q
 intro k
 induction k with
 | zero =>
  intro i z hk hi st hS hR
  obtain rfl:i = n:=by omega
  refine codeAny_builtin PyProof.Rows.F.entry_set_update_loop ?_
  rw [Around.under_plainId PyProof.Rows.F.plain_set_update_loop _]
  refine (show wpAny _ A.in1 (pyNext (.ref I) >>= _) _ _ z from wpAny_bind (W.done z _ _ st fun z' m=>?_))
  exact (show wpAny _ A.in1 (ret Value.none) _ _ z' from wpAny_pure (hR z' (m.mono sb) (hS.kept fun o e=>m.heap S _ hw e)))
 | succ k ih =>
  intro i z hk hi st hS hR
  have lt:i < n:=by omega
  refine codeAny_builtin PyProof.Rows.F.entry_set_update_loop ?_
  rw [Around.under_plainId PyProof.Rows.F.plain_set_update_loop _]
  refine (show wpAny _ A.in1 (pyNext (.ref I) >>= _) _ _ z from wpAny_bind (W.item i z _ _ lt st fun v z' hp st' m=>?_))
  obtain ⟨t,rfl⟩:=hv i v hp
  have hS':SetI P w z'.heap S (firstMet f i):=hS.kept fun o e=>m.heap S _ hw e
  refine (show wpAny _ A.in1 (holding [Value.int (f i) t] (setAdd S (.int (f i) t)) >>= _) _ _ z' from wpAny_bind (wpAny_holding ?_))
  unfold setAdd
  refine wpAny_holding (wpAny_bind ((intKind P w).pyHash (k:=f i) (intKind_is _ _ _ _) ?_))
  have rm:(firstMet f i).length + 1 < scanBound:=by have:=firstMet_length_le f i; omega
  refine q1d (s:={ z' with toks:=z'.toks + 1 }) (intKind_is _ _ _ _) rfl hS' rm fun h' b hs hS2=>?_
  rw [← firstMet_succ] at hS2
  refine wpAny_pure ⟨plainId_quiet PyProof.Rows.F.plain_set_update_loop _,ih (i + 1) _ (by omega) lt (W.frame _ z' _ _ st' (Nat.le_succ _) fun b hb o e=>?_) hS2 fun z2 m2 hS3=>?_⟩
  ·rw [hs.2 b (fun q:b = S=>hf (q ▸ hb))]; exact e
  ·refine hR z2 (Moved.trans W.gtrans ((m.mono sb).then_heap (Nat.le_succ _) fun b o hb e=>?_) m2) hS3
   rw [hs.2 b (fun q:b = S=>hb (by rw [q]; exact List.mem_cons_self))]; exact e
end
section
variable {P:Program} {w:World} {A:Around} {E:Value→Shared→Prop} {s:Shared}
theorem p1l {l:Addr} {its:Array Value} {ns:List Int} {Q:Value→Shared→Prop} (hh:A.handled = none) (hl:s.heap.IsList l its) (hi:IntsAre its.toList ns) (hb:its.size + 1 < scanBound)
  (h:∀ (h':Heap) (tk:Nat),SetI P w h' s.heap.objs.size (firstMet (fun i=>ns.getD i 0) its.size)→(∀ b o,s.heap.get? b = some o→h'.get? b = some o)→Q (.ref s.heap.objs.size) { s with heap:=h',toks:=tk }) :
  wpAny (model P w) A (call (.type "set") [.ref l]) Q E s:=by
 obtain ⟨c,tl,mro⟩:=PySem.F.called_set.mro
 have md:=PySem.F.called_set.made
 have sb:=PySem.F.called_set.sub
 refine wpAny_call (codeAny_of_tree (show wpAny _ _ (callAny (.type "set") _) _ _ _ from ?_))
 refine wpAny_pure ⟨Code.quiet_builtin _ (by decide +kernel),codeAny_builtin PySem.F.entry_type_call ?_⟩
 rw [Around.under_plain (weight_type_call_type "set" [.ref l] []) rfl]
 have n1:=PySem.F.called_set.notType
 have n2:=PySem.F.called_set.canCreate
 have n3:=PySem.F.typeCall_set_1 (.ref l)
 repeat (any_goals (first | assumption | wp_step))
 refine codeAny_mono (p1r (.ref l) (E:=E) (q:=fun ob z=>ob = .ref s.heap.objs.size∧z = { s with heap:=s.heap.push (setO w) }) ⟨rfl,rfl⟩) fun r z hr=>?_
 cases r with
 | error e=>exact hr
 | ok fl =>
  cases fl with
  | ret ob =>
   obtain ⟨rfl,rfl⟩:=hr
   have gS:(s.heap.push (setO w)).get? s.heap.objs.size = some (setO w):=Heap.get?_push_size _ rfl
   have tS:Shared.TypeIs { s with heap:=s.heap.push (setO w) } (.ref s.heap.objs.size) "set" := ⟨_,gS,rfl⟩
   have i1:=PySem.F.called_set.init.lookup
   have i2:=PySem.F.called_set.init.bind (.ref s.heap.objs.size)
   repeat (any_goals (first | assumption | wp_step))
   refine codeAny_mono (codeAny_call_builtin (R:=wants (fun r z=>r = .none∧∃ h' tk,z = { s with heap:=h',toks:=tk }∧SetI P w h' s.heap.objs.size (firstMet (fun i=>ns.getD i 0) its.size)∧(∀ b o,s.heap.get? b = some o→h'.get? b = some o)) E) PySem.F.called_set.init.plain PySem.F.entry_set_init (check_set_init_1 tS ?_)) fun r2 z2 hr2=>?_
   ·obtain ⟨⟨oc,od,oda,osl⟩,ol,hc,nl,hd⟩:=hl
    simp only at hc hd; subst hc; subst hd
    have ol':(s.heap.push (setO w)).get? l = some { cls:=.type "list",dict:=od,data:=.seq its nl,slots:=osl }:=Heap.get?_push_of_some _ ol
    have s1:=PySem.F.sub_list_set
    have s2:=PySem.F.sub_list_frozenset
    have ne:(Value.type "list" == Value.type "dict") = false:=by decide
    have l1:(s.heap.push (setO w)).IsList l its:=⟨_,ol',rfl,nl,rfl⟩
    unfold Builtin.«set.__init__» noKeywords Builtin.Frozenset.updateFrom
    generalize hp:pyIter = pI
    wp_walk
    subst hp
    refine wpAny_pyIter_list l1 (wpAny_bind (wpAny_runValue ?_))
    have ll:l < s.heap.objs.size:=Heap.lt_size ol
    have h3:A.in1.in1.in1.handled = none:=by simp [hh]
    have nI:l ≠ (s.heap.push (setO w)).objs.size:=by rw [Heap.size_push]; exact Nat.ne_of_lt (Nat.lt_succ_of_lt ll)
    have nf:s.heap.objs.size ∉ [(s.heap.push (setO w)).objs.size,l]:=by
     rw [Heap.size_push]; simp only [List.mem_cons,List.not_mem_nil,or_false,not_or]
     exact ⟨Nat.ne_of_lt (Nat.lt_succ_self _),Nat.ne_of_gt ll⟩
    have hv:∀ (i:Nat) (v:Value),its[i]? = some v→∃ t,v = .int ((fun i=>ns.getD i 0) i) t:=fun i v q=>IntsAre.int_at hi i v (by rw [Array.getElem?_toList]; exact q)
    refine p1i ((Walks.list h3 _ l nI its).toS) s.heap.objs.size nf (fun i=>ns.getD i 0) hv hb (its.size - 0) 0 _ (by omega) (Nat.zero_le _) ⟨⟨_,Heap.get?_push_size _ rfl,rfl,rfl⟩,(l1.push _)⟩ ?st ?fin
    case st=>exact (e1g s.heap).kept fun o e=>Heap.get?_push_of_some _ e
    case fin =>
     intro z' m hS
     obtain ⟨h',g',d',tk',os'⟩:=z'
     obtain rfl:g' = s.gens:=m.gens
     obtain rfl:d' = s.drawn:=m.drawn
     obtain rfl:os' = s.os:=m.os
     refine (show wpAny _ _ _ _ _ _ from wpAny_pure ?_)
     refine (show wpAny _ _ (ret Value.none) _ _ _ from wpAny_pure ⟨rfl,h',tk',rfl,hS,fun b o e=>?_⟩)
     have lb:=Heap.lt_size e
     refine m.heap b o ?_ (Heap.get?_push_of_some _ (Heap.get?_push_of_some _ e))
     rw [Heap.size_push]; simp only [List.mem_cons,List.not_mem_nil,or_false,not_or]
     exact ⟨Nat.ne_of_lt lb,Nat.ne_of_lt (Nat.lt_succ_of_lt lb)⟩
   ·cases r2 with
    | error e=>exact hr2
    | ok f2 =>
     cases f2 with
     | ret r =>
      obtain ⟨rfl,h',tk,rfl,hS,hk⟩:=hr2
      repeat (any_goals (first | assumption | wp_step))
      exact h _ _ hS hk
     | _=>exact hr2.elim
  | _=>exact hr.elim
end
end L2
set_option maxHeartbeats 1000000
namespace L2
open PySem PySem.Spec PyProof.Rows
theorem d0m:Slot "set_iterator" "__next__" "set_iterator.__next__" :=
 .of (owner := "set_iterator") (n := "__next__") (by rw [typeLookup_type,builtinLookup_eq_fast]; kernel_rfl) (by decide +kernel) (by decide +kernel) (by decide +kernel) (by first | exact .inl (by decide +kernel) | exact .inr (by decide +kernel)) (by rw [isSubtype_type]; kernel_rfl)
theorem k0c:entryFor table "set_iterator.__next__" = some Builtin.«set_iterator.__next__»:=entryFor_of_tree (by kernel_rfl)
theorem k0y:Slot "set_iterator" "__iter__" "set_iterator.__iter__" :=
 .of (owner := "set_iterator") (n := "__iter__") (by rw [typeLookup_type,builtinLookup_eq_fast]; kernel_rfl) (by decide +kernel) (by decide +kernel) (by decide +kernel) (by first | exact .inl (by decide +kernel) | exact .inr (by decide +kernel)) (by rw [isSubtype_type]; kernel_rfl)
theorem s0t:entryFor table "set.__iter__" = some Builtin.«frozenset.__iter__»:=entryFor_alias (id' := "frozenset.__iter__") (by kernel_rfl) rfl (by decide +kernel) (by kernel_rfl)
theorem k0u {α:Type}:∀ (l:List α) (i:Nat) (h:i < l.length),(l[i] :: l.eraseIdx i).Perm l
 | a :: l,0,_=>.refl _
 | a :: l,i + 1,h=>(List.Perm.swap _ _ _).trans (List.Perm.cons a (k0u l i (by simpa using h)))
theorem a1j {α:Type} (f:Nat→Nat):∀ (n k:Nat) (l:List α) (o:Array α),l.length = n→List.Perm (pickOrder.go f n k l o).toList (o.toList ++ l)
 | 0,k,l,o,h=>by
  obtain rfl:l = []:=List.eq_nil_of_length_eq_zero h
  unfold pickOrder.go; simp
 | n + 1,k,l,o,h=>by
  unfold pickOrder.go
  have lt:f k % l.length < l.length:=Nat.mod_lt _ (by omega)
  rw [List.getElem?_eq_getElem lt]
  dsimp only
  refine (a1j f n (k + 1) _ _ (by rw [List.length_eraseIdx_of_lt lt]; omega)).trans ?_
  rw [Array.toList_push,List.append_assoc]
  exact List.Perm.append_left _ (k0u l _ lt)
theorem a1i {α:Type} (f:Nat→Nat) (xs:Array α):List.Perm (pickOrder f xs).toList xs.toList:=by
 have:=a1j f xs.size 0 xs.toList #[] (by simp)
 simpa [pickOrder] using this
theorem o0d:∀ {ks ms:List Int},ks.Nodup→(∀ k ∈ ks,k ∈ ms)→ms.length = ks.length→ms.Perm ks
 | [],ms,_,_,h=>by rw [List.eq_nil_of_length_eq_zero h]
 | k :: ks,ms,hn,hm,h=>by
  obtain ⟨h1,h2⟩:=List.nodup_cons.mp hn
  have hk:=hm k (.head _)
  have p:=List.perm_cons_erase hk
  refine p.trans (List.Perm.cons k (o0d h2 (fun j hj=>?_) ?_))
  ·have ne:j ≠ k:=fun e=>h1 (by rw [← e]; exact hj)
   exact (List.mem_erase_of_ne ne).mpr (hm j (.tail _ hj))
  ·rw [List.length_erase_of_mem hk,h]; simp
section
variable {P:Program} {w:World} {A:Around} {E:Value→Shared→Prop} {s:Shared}
theorem y0t {src:Source} {n:Nat} {Q:Nat→Shared→Prop} (hn:n ≠ 0) (h:∀ i d,i < n→Q i { s with drawn:=d }):wpAny (model P w) A (choose src n) Q E s:=by
 intro Γ p hΓ
 unfold choose
 simp only [Sem.wp]
 exact ⟨hn,h _ _ (Nat.mod_lt _ (Nat.pos_of_ne_zero hn))⟩
theorem v0l {α:Type}:∀ (n:Nat) (xs:List α) {s:Shared} {Q:List α→Shared→Prop},xs.length = n→(∀ ys d,ys.Perm xs→Q ys { s with drawn:=d })→wpAny (model P w) A (drawOrder n xs) Q E s
 | 0,xs,s,Q,hl,h=>by
  obtain rfl:xs = []:=List.eq_nil_of_length_eq_zero hl
  unfold drawOrder
  exact wpAny_pure (h [] s.drawn (.refl _))
 | n + 1,x :: xs,s,Q,hl,h=>by
  unfold drawOrder
  refine wpAny_bind (y0t (by simp) fun i d hi=>?_)
  rw [List.getElem?_eq_getElem hi]
  refine wpAny_bind (v0l n _ (by rw [List.length_eraseIdx_of_lt hi,hl]; rfl) fun ys d' hp=>?_)
  exact wpAny_pure (h _ d' ((List.Perm.cons _ hp).trans (k0u _ i hi)))
theorem g1y {s:Shared} {Q:Value→Shared→Prop} {R:Value→Shared→Prop} {α:Type} {q:α→Shared→Prop} (hh:A.handled = none) (h:∀ x h',(∀ b o,s.heap.get? b = some o→h'.get? b = some o)→({ s with heap:=h' }:Shared).TypeIs x "StopIteration" → R x { s with heap:=h' }) :
  wpAny (model P w) A (newExc (.type "StopIteration") [] >>= fun x=>(raiseNew x:Sem α)) q R s:=by
 have ho:∃ n,n ≤ 10∧(ownMembersOf (Value.type "StopIteration") []).size = n:=by
  first
  | exact ⟨_,by decide,rfl⟩
  | exact ⟨(ownMembersOf (Value.type "StopIteration") []).size,by decide +kernel,rfl⟩
 obtain ⟨no,hno,eno⟩:=ho
 refine wpAny_bind (wpAny_bind (wpAny_newObj_type (wpAny_bind (wpAny_of_eq rfl (wpAny_newObj_type ?_ (by first | trivial | (unfold sizeOk; trivial) | (simp [sizeOk,sizeLine_eq,eno]; omega) | (simp only [sizeOk,Array.size_append,eno,sizeLine_eq]; simp; omega))))) (by show 0 ≤ sizeLine; decide)))
 refine wpAny_bind (wpAny_handled ?_)
 rw [hh]
 refine wpAny_bind (wpAny_pure (wpAny_throw (h _ _ (fun b o q=>Heap.get?_push_of_some _ (Heap.get?_push_of_some _ q)) ?_)))
 exact ⟨_,Heap.get?_push_size _ rfl,rfl⟩
def itO (f:Value) (i:Nat) (S:Addr) (n ep:Nat):Obj:={ cls:=.type "set_iterator",data:=.fields #[f,rawInt (i:Nat),.ref S,rawInt (n:Nat),rawInt (ep:Nat)] }
variable {I S:Addr} {o:Obj} {es:Array (Int × Value)} {ep:Nat} {t:SetTable}
theorem w0m {f i:Nat} {r:Option (Value × Nat)} {Q:Option Value→Shared→Prop} (hh:A.handled = none) (hI:s.heap.get? I = some (itO (rawInt (f:Nat)) i S es.size ep)) (hS:s.heap.get? S = some o) (hd:o.data = .set es ep t) (hf:t.fits es.size = true)
  (hn:∀ (A:Around) (E:Value→Shared→Prop) (q:Option (Value × Nat)→Shared→Prop),q r s→wpAny (model P w) A (setNext S f i ep) q E s)
  (hq:∀ x k h',r = some (x,k)→h'.get? I = some (itO (rawInt (k:Nat)) (i + 1) S es.size ep)→(∀ b o,b ≠ I→s.heap.get? b = some o→h'.get? b = some o)→Q (some x) { s with heap:=h' })
  (he:∀ h',r = none→(∀ b o,b ≠ I→s.heap.get? b = some o→h'.get? b = some o)→Q none { s with heap:=h' }):wpAny (model P w) A (pyNext (.ref I)) Q E s:=by
 have hT:s.TypeIs (.ref I) "set_iterator" := by
  first
  | exact ⟨_,hI,rfl⟩
  | exact ⟨_,_,hI,rfl⟩
 refine wpAny_bind (wpAny_attempt (wpAny_callSpecial?_slot hT d0m (wpAny_call_entry d0m hT k0c (wpAny_bind (wpAny_pure (wpAny_bind (wpAny_fieldsOf hI rfl ?_)))))))
 show wpAny _ _ (setEntries S >>= _) _ _ _
 refine wpAny_bind (wpAny_setEntries_of hS hd hf ?_)
 show wpAny _ _ (ite (((es.size:Int) != (es.size:Int)) = true) _ _) _ _ _
 rw [if_neg (by simp)]
 show wpAny _ _ (setNext S f i ep >>= _) _ _ _
 refine wpAny_bind (hn _ _ _ ?_)
 cases r with
 | some p =>
  obtain ⟨x,k⟩:=p
  refine wpAny_bind (wpAny_setField_rec hI (by show 0 < 5; decide) fun h1 g1 sb1=>?_)
  refine wpAny_bind (wpAny_setField_rec g1 (by show 1 < 5; decide) fun h2 g2 sb2=>?_)
  exact wpAny_pure ⟨_,rfl,wpAny_pure (hq x k h2 rfl g2 fun b o hb q=>(sb2.2 b hb).trans ((sb1.2 b hb).trans q))⟩
 | none =>
  refine wpAny_bind (wpAny_setField_rec hI (by show 2 < 5; decide) fun h1 g1 sb1=>?_)
  refine g1y (Q:=fun _ _=>True) (by exact hh) fun x h' hk hx=>?_
  refine wpAny_bind (wpAny_isInstance (T := "StopIteration") hx isSubtype_stop (wpAny_pure (he h' rfl fun b o hb q=>hk b o ((sb1.2 b hb).trans q))))
theorem o0i {T:Addr} {i:Nat} {ps:List Nat} {Q:Option Value→Shared→Prop} (hh:A.handled = none) (hI:s.heap.get? I = some (itO (.ref T) i S es.size ep)) (hT2:s.heap.get? T = some { cls:=.type "tuple",data:=.seq (ps.map fun p=>rawInt (p:Nat)).toArray }) (hS:s.heap.get? S = some o) (hd:o.data = .set es ep t) (hf:t.fits es.size = true)
  (hq:∀ p e h',ps[i]? = some p→es[p]? = some e→h'.get? I = some (itO (.ref T) (i + 1) S es.size ep)→(∀ b o,b ≠ I→s.heap.get? b = some o→h'.get? b = some o)→Q (some e.2) { s with heap:=h' }) (hp:∀ p ∈ ps,p < es.size)
  (he:∀ h',ps[i]? = none→(∀ b o,b ≠ I→s.heap.get? b = some o→h'.get? b = some o)→Q none { s with heap:=h' }):wpAny (model P w) A (pyNext (.ref I)) Q E s:=by
 have hT:s.TypeIs (.ref I) "set_iterator" := by
  first
  | exact ⟨_,hI,rfl⟩
  | exact ⟨_,_,hI,rfl⟩
 refine wpAny_bind (wpAny_attempt (wpAny_callSpecial?_slot hT d0m (wpAny_call_entry d0m hT k0c (wpAny_bind (wpAny_pure (wpAny_bind (wpAny_fieldsOf hI rfl ?_)))))))
 show wpAny _ _ (setEntries S >>= _) _ _ _
 refine wpAny_bind (wpAny_setEntries_of hS hd hf ?_)
 show wpAny _ _ (ite (((es.size:Int) != (es.size:Int)) = true) _ _) _ _ _
 rw [if_neg (by simp)]
 show wpAny _ _ (seqItems? (.ref T) >>= _) _ _ _
 refine wpAny_bind (wpAny_seqItems hT2 rfl ?_)
 dsimp only
 rw [List.getElem?_toArray,Int.toNat_natCast,List.getElem?_map]
 cases hx:ps[i]? with
 | some p =>
  have lp:=hp p (List.mem_of_getElem? hx)
  have ge:es[p]? = some es[p]:=Array.getElem?_eq_getElem lp
  show wpAny _ _ (setNextDrawn S p ep >>= _) _ _ _
  refine wpAny_bind ?_
  unfold setNextDrawn
  refine wpAny_bind (wpAny_setState_of hS hd hf ?_)
  show wpAny _ _ (ite ((ep != ep) = true) _ _) _ _ _
  rw [if_neg (by simp)]
  show wpAny _ _ (match es[p]? with | some (_,x)=>pure x | _=>_) _ _ _
  rw [ge]
  refine wpAny_pure ?_
  refine wpAny_bind (wpAny_setField_rec hI (by show 1 < 5; decide) fun h1 g1 sb1=>?_)
  exact wpAny_pure ⟨_,rfl,wpAny_pure (hq p es[p] h1 hx ge g1 fun b o hb q=>(sb1.2 b hb).trans q)⟩
 | none =>
  show wpAny _ _ (setField (.ref I) 0 (rawInt 0) >>= _) _ _ _
  refine wpAny_bind (wpAny_setField_rec hI (by show 0 < 5; decide) fun h1 g1 sb1=>?_)
  refine wpAny_bind (wpAny_setField_rec g1 (by show 2 < 5; decide) fun h2 g2 sb2=>?_)
  refine g1y (Q:=fun _ _=>True) (by exact hh) fun x h' hk hx'=>?_
  exact wpAny_bind (wpAny_isInstance (T := "StopIteration") hx' isSubtype_stop (wpAny_pure (he h' hx fun b o hb q=>hk b o ((sb2.2 b hb).trans ((sb1.2 b hb).trans q)))))
theorem i1p {f i:Nat} {Q:Option (Value × Nat)→Shared→Prop} (hb:byT w = true) (hS:s.heap.get? S = some o) (hd:o.data = .set es ep t) (hf:t.fits es.size = true)
  (h:Q (((pickOrder (w.params.setOrder S ep) es)[i]?).map fun e=>(e.2,f)) s):wpAny (model P w) A (setNext S f i ep) Q E s:=by
 unfold byT at hb
 unfold setNext setsByText
 refine wpAny_bind (wpAny_setState_of hS hd hf ?_)
 refine wpAny_bind (wpAny_bind (wpAny_askSetting (wpAny_pure ?_)))
 show wpAny _ _ (ite (w.params.followText "set-order" = true) _ _) _ _ _
 rw [if_pos hb]
 show wpAny _ _ (ite ((ep != ep) = true) _ _) _ _ _
 rw [if_neg (by simp)]
 unfold setWalk setsByText
 refine wpAny_bind (wpAny_bind (wpAny_setState_of hS hd hf ?_))
 refine wpAny_bind (wpAny_bind (wpAny_askSetting (wpAny_pure ?_)))
 show wpAny _ _ (ite (w.params.followText "set-order" = true) _ _) _ _ _
 rw [if_pos hb]
 exact wpAny_bind (wpAny_askSetting (wpAny_pure (wpAny_pure h)))
theorem i1q {f i:Nat} {Q:Option (Value × Nat)→Shared→Prop} (hb:byT w = false) (hp:(!t.plain && decide (es.size > 1)) = false) (hl:t.led = true) (hS:s.heap.get? S = some o) (hd:o.data = .set es ep t) (hf:t.fits es.size = true)
  (h:Q (match es[SetTable.below t.place f]?,t.place[SetTable.below t.place f]? with | some (_,x),some j=>some (x,j + 1) | _,_=>none) s):wpAny (model P w) A (setNext S f i ep) Q E s:=by
 unfold byT at hb
 unfold setNext setsByText
 refine wpAny_bind (wpAny_setState_of hS hd hf ?_)
 refine wpAny_bind (wpAny_bind (wpAny_askSetting (wpAny_pure ?_)))
 show wpAny _ _ (ite (w.params.followText "set-order" = true) _ _) _ _ _
 rw [if_neg (by rw [hb]; simp)]
 show wpAny _ _ (ite ((!t.plain && decide (es.size > 1)) = true) _ _) _ _ _
 rw [if_neg (by rw [hp]; simp)]
 show wpAny _ _ (ite ((!t.led && !es.isEmpty) = true) _ (pure ()) >>= _) _ _ _
 rw [if_neg (by rw [hl]; simp)]
 exact wpAny_bind (wpAny_pure (wpAny_pure h))
end
theorem q0h:entryFor table "set_iterator.__iter__" = some Builtin.«dict_keyiterator.__iter__»:=entryFor_alias (id' := "dict_keyiterator.__iter__") (by kernel_rfl) rfl (by decide +kernel) (by kernel_rfl)
theorem c1e {α:Type} {es:Array α}:∀ (ps:List Nat),(∀ p ∈ ps,p < es.size)→(ps.filterMap fun p=>es[p]?).length = ps.length
 | [],_=>rfl
 | p :: ps,h=>by
  rw [List.filterMap_cons,Array.getElem?_eq_getElem (h p (.head _))]
  simp [c1e ps fun q hq=>h q (.tail _ hq)]
theorem o1c {α:Type} {es:Array α}:∀ (ps:List Nat),(∀ p ∈ ps,p < es.size)→∀ i:Nat,(ps.filterMap fun p=>es[p]?)[i]? = (ps[i]?).bind fun p=>es[p]?
 | [],_,i=>by simp
 | p :: ps,h,i=>by
  rw [List.filterMap_cons,Array.getElem?_eq_getElem (h p (.head _))]
  cases i with
  | zero=>simp [h p (.head _)]
  | succ i=>simpa using o1c ps (fun q hq=>h q (.tail _ hq)) i
section
variable {P:Program} {w:World} {A:Around} {E:Value→Shared→Prop} {s:Shared} {I S:Addr} {o:Obj} {es:Array (Int × Value)} {ep:Nat} {t:SetTable}
theorem z0t {f:Value} {i n:Nat} {Q:Value→Shared→Prop} (hI:s.heap.get? I = some (itO f i S n ep)) (h:Q (.ref I) s):wpAny (model P w) A (pyIter (.ref I)) Q E s:=by
 have hT:s.TypeIs (.ref I) "set_iterator" := by
  first
  | exact ⟨_,hI,rfl⟩
  | exact ⟨_,_,hI,rfl⟩
 refine wpAny_pyIter_slot hT k0y (wpAny_call_entry k0y hT q0h ?_)
 exact (show wpAny _ _ (ret (.ref I)) _ _ s from wpAny_pure ⟨_,rfl, "set_iterator",_,hT,d0m.lookup,h⟩)
theorem v0n (hh:A.handled = none) (hne:S ≠ I) (hd:o.data = .set es ep t) (hf:t.fits es.size = true) (vs:List Value) (nx:Nat→Nat)
  (hs:∀ i (s:Shared),i ≤ vs.length→s.heap.get? S = some o→∀ (A:Around) (E:Value→Shared→Prop) (q:Option (Value × Nat)→Shared→Prop),q ((vs[i]?).map fun x=>(x,nx (i + 1))) s→wpAny (model P w) A (setNext S (nx i) i ep) q E s) :
  Walks P w A I [I,S] [I] vs.length (fun i v=>vs[i]? = some v) (fun i h=>h.get? I = some (itO (rawInt (nx i:Nat)) i S es.size ep)∧h.get? S = some o) where
 sub:=fun b hb=>by simp at hb; simp [hb]
 frame:=fun _ _ _ st hk=>⟨hk I (by simp) _ st.1,hk S (by simp) _ st.2⟩
 item:=fun i s Q E hi st hQ=>by
  have gv:vs[i]? = some vs[i]:=List.getElem?_eq_getElem hi
  refine w0m hh st.1 st.2 hd hf (hs i s (by omega) st.2) (fun x k h' e g kp=>?_) (fun h' e=>?_)
  ·rw [gv] at e
   simp only [Option.map_some,Option.some.injEq,Prod.mk.injEq] at e
   obtain ⟨rfl,rfl⟩:=e
   exact hQ _ h' s.toks gv ⟨g,kp S _ hne st.2⟩ fun b o hb q=>kp b o (fun z=>hb (by simp [z])) q
  ·rw [gv] at e; cases e
 done:=fun s Q E st hQ=>by
  have gn:vs[vs.length]? = none:=by simp
  refine w0m hh st.1 st.2 hd hf (hs vs.length s (Nat.le_refl _) st.2) (fun x k h' e g kp=>?_) (fun h' e kp=>?_)
  ·rw [gn] at e; cases e
  ·exact hQ h' s.toks fun b o hb q=>kp b o (fun z=>hb (by simp [z])) q
 self:=fun _ _ _ _ st hQ=>z0t st.1 hQ
theorem x0g {T:Addr} (hh:A.handled = none) (hne:S ≠ I) (hn2:T ≠ I) (hd:o.data = .set es ep t) (hf:t.fits es.size = true) (ps:List Nat) (hp:∀ p ∈ ps,p < es.size) (hl:ps.length = es.size) :
  Walks P w A I [I,S,T] [I] (ps.filterMap fun p=>es[p]?).length (fun i v=>(((ps.filterMap fun p=>es[p]?).map (·.2))[i]? = some v)) (fun i h=>h.get? I = some (itO (.ref T) i S es.size ep)∧h.get? S = some o∧h.get? T = some { cls:=.type "tuple",data:=.seq (ps.map fun p=>rawInt (p:Nat)).toArray }) where
 sub:=fun b hb=>by simp at hb; simp [hb]
 frame:=fun _ _ _ st hk=>⟨hk I (by simp) _ st.1,hk S (by simp) _ st.2.1,hk T (by simp) _ st.2.2⟩
 item:=fun i s Q E hi st hQ=>by
  have fm:=o1c ps hp
  refine o0i hh st.1 st.2.2 st.2.1 hd hf (fun p e h' e1 e2 g kp=>?_) hp (fun h' e=>?_)
  ·refine hQ _ h' s.toks ?_ ⟨g,kp S _ hne st.2.1,kp T _ hn2 st.2.2⟩ fun b o hb q=>kp b o (fun z=>hb (by simp [z])) q
   rw [List.getElem?_map,fm,e1]
   simp [e2]
  ·have:ps.length ≤ i:=List.getElem?_eq_none_iff.mp e
   rw [c1e ps hp] at hi
   omega
 done:=fun s Q E st hQ=>by
  refine o0i hh st.1 st.2.2 st.2.1 hd hf (fun p e h' e1 e2 g kp=>?_) hp (fun h' e kp=>?_)
  ·rw [c1e ps hp] at e1
   simp at e1
  ·exact hQ h' s.toks fun b o hb q=>kp b o (fun z=>hb (by simp [z])) q
 self:=fun _ _ _ _ st hQ=>z0t st.1 hQ
end
def nxS (t:SetTable):Nat→Nat
 | 0=>0
 | k + 1=>t.place.getD k 0 + 1
section
variable {P:Program} {w:World} {A:Around} {E:Value→Shared→Prop} {s:Shared} {I S:Addr} {o:Obj} {es:Array (Int × Value)} {ep:Nat} {t:SetTable}
theorem u0p:∀ {l:List (Int × Value)},ElemsOf (intKind P w) l→∃ ms,IntsAre (l.map (·.2)) ms∧∀ k,k ∈ ms↔∃ e ∈ l,(intKind P w).is k e.2 = true
 | [],_=>⟨[],.nil,fun k=>by simp⟩
 | e :: l,h=>by
  obtain ⟨ms,h1,h2⟩:=u0p h.tail
  obtain ⟨⟨k,hk,_⟩,_⟩:=h.head
  obtain ⟨tk,ev⟩:=Value.isInt_shape hk
  refine ⟨k :: ms,by rw [List.map_cons,ev]; exact .cons k tk h1,fun j=>?_⟩
  rw [List.mem_cons,h2 j]
  constructor
  ·rintro (rfl | ⟨y,hy,q⟩)
   ·exact ⟨e,.head _,hk⟩
   ·exact ⟨y,.tail _ hy,q⟩
  ·rintro ⟨y,hy,q⟩
   rcases List.mem_cons.mp hy with rfl | hy
   ·exact .inl ((intKind P w).inj _ j k q hk)
   ·exact .inr ⟨y,hy,q⟩
theorem n1q {ks:List Int} {Q:Value→Shared→Prop} (hh:A.handled = none) (hS:SetI P w s.heap S ks) (hk:ks.Nodup)
  (h:∀ h' d I fp vs ms St,(∀ b o,s.heap.get? b = some o→h'.get? b = some o)→IntsAre vs ms→ms.Perm ks→Walks P w A I fp [I] vs.length (fun i v=>vs[i]? = some v) St→St 0 h'→(∀ b ∈ fp,b = S ∨ s.heap.objs.size ≤ b)→s.heap.objs.size ≤ I→Q (.ref I) { s with heap:=h',drawn:=d }) :
  wpAny (model P w) A (pyIter (.ref S)) Q E s:=by
 obtain ⟨o,es,ep,t,ho,ex,d,el,me,bd,fi,le,ld⟩:=hS
 obtain ⟨⟨oc,od,oda,osl⟩,ho,ex,d⟩:∃ o:Obj,s.heap.get? S = some o∧o.ExactSet∧o.data = .set es ep t:=⟨o,ho,ex,d⟩
 have hT:s.TypeIs (.ref S) "set" := ⟨_,ho,ex.1⟩
 have hlt:S < s.heap.objs.size:=Heap.lt_size ho
 obtain ⟨ms,m1,m2⟩:=u0p el
 have mp:∀ {l:List (Int × Value)},l.Perm es.toList→∃ ms',IntsAre (l.map (·.2)) ms'∧ms'.Perm ks:=fun {l} q=>by
  obtain ⟨ms',a1,a2⟩:=u0p (el.perm q)
  have hl:ms'.length = ks.length:=by
   have:=IntsAre.length a1
   rw [List.length_map,q.length_eq,Array.length_toList] at this
   omega
  refine ⟨ms',a1,o0d hk (fun k kk=>?_) hl⟩
  obtain ⟨e,he,z⟩:=(me k).mp kk
  exact (a2 k).mpr ⟨e,q.mem_iff.mpr he,z⟩
 refine wpAny_pyIter_slot hT PySem.F.slot_set_iter (wpAny_call_entry PySem.F.slot_set_iter hT s0t ?_)
 unfold Builtin.«frozenset.__iter__» Builtin.Frozenset.slot0
 refine wpAny_bind (wpAny_bind (wpAny_pure (wpAny_pure ?_)))
 unfold Builtin.Frozenset.sizeOf
 refine wpAny_bind (wpAny_bind (wpAny_setEntries_of ho d fi (wpAny_pure ?_)))
 unfold setDrawn setsByText
 refine wpAny_bind (wpAny_bind (wpAny_setState_of ho d fi (wpAny_bind (wpAny_bind (wpAny_askSetting (wpAny_pure (wpAny_pure ?_)))))))
 show wpAny _ _ (ite ((!byT w && (!t.plain && decide (es.size > 1))) = true) (drawOrder es.size (List.range es.size) >>= _) _) _ _ _
 have hz:es.size ≤ sizeLine:=fits_of_scanBound bd
 have fin:∀ (f:Value) (h1:Heap) (dr:Drawn) (fp:List Addr) (vs:List Value) (ms:List Int) (St:Nat→Heap→Prop),(∀ b o,s.heap.get? b = some o→h1.get? b = some o)→s.heap.objs.size ≤ h1.objs.size→IntsAre vs ms→ms.Perm ks →
   Walks P w A h1.objs.size fp [h1.objs.size] vs.length (fun i v=>vs[i]? = some v) St→St 0 (h1.push (itO f 0 S es.size ep))→(∀ b ∈ fp,b = S ∨ s.heap.objs.size ≤ b) →
   wpAny (model P w) A.in1 (do let e ← setEpoch S; let x ← newFields "set_iterator" [f,rawInt 0,Value.ref S,rawInt (es.size:Nat),rawInt (e:Nat)]; ret x) (fun fin s'=>∃ v,fin = Fin.done (Flow.ret v)∧∃ T' r,s'.TypeIs v T'∧typeLookup (Value.type T') (Str.ofString "__next__") = pure (some r)∧Q v s') E { s with heap:=h1,drawn:=dr }:=by
  intro f h1 dr fp vs ms St k1 k2 a1 a2 W st hb
  refine wpAny_bind (wpAny_setEpoch_of (s:={ s with heap:=h1,drawn:=dr }) (k1 _ _ ho) d fi ?_)
  unfold newFields
  refine wpAny_bind (wpAny_newObj_type (wpAny_pure ⟨_,rfl, "set_iterator",_,⟨_,Heap.get?_push_size _ rfl,rfl⟩,d0m.lookup,?_⟩) (by show 5 ≤ sizeLine + 2; decide))
  exact h _ dr _ fp vs ms St (fun b o q=>Heap.get?_push_of_some _ (k1 b o q)) a1 a2 W st hb k2
 by_cases hdr:(!byT w && (!t.plain && decide (es.size > 1))) = true
 ·rw [if_pos hdr]
  refine wpAny_bind (v0l _ _ (by simp) fun ps dr hp=>?_)
  have lp:∀ p ∈ ps,p < es.size:=fun p q=>List.mem_range.mp (hp.mem_iff.mp q)
  have ll:ps.length = es.size:=by rw [hp.length_eq]; simp
  refine wpAny_bind (wpAny_newTuple ?_ (by rw [List.length_map,ll]; exact hz))
  have pp:(ps.filterMap fun p=>es[p]?).Perm es.toList:=(hp.filterMap _).trans (by rw [filterMap_getElem?_range])
  obtain ⟨ms',a1,a2⟩:=mp pp
  have nT:s.heap.objs.size ≠ (s.heap.push { cls:=.type "tuple",data:=.seq (ps.map fun i=>rawInt (i:Nat)).toArray }).objs.size:=by rw [Heap.size_push]; exact Nat.ne_of_lt (Nat.lt_succ_self _)
  have nS:S ≠ (s.heap.push { cls:=.type "tuple",data:=.seq (ps.map fun i=>rawInt (i:Nat)).toArray }).objs.size:=by rw [Heap.size_push]; exact Nat.ne_of_lt (Nat.lt_succ_of_lt hlt)
  have W:=x0g (P:=P) (w:=w) (A:=A) hh nS nT d fi ps lp ll
  have el2:(ps.filterMap fun p=>es[p]?).length = ((ps.filterMap fun p=>es[p]?).map (·.2)).length:=by rw [List.length_map]
  rw [el2] at W
  refine fin (.ref s.heap.objs.size) _ dr [_,S,s.heap.objs.size] ((ps.filterMap fun p=>es[p]?).map (·.2)) ms' _ (fun b o q=>Heap.get?_push_of_some _ q) (by rw [Heap.size_push]; exact Nat.le_succ _) a1 a2 W ⟨Heap.get?_push_size _ rfl,Heap.get?_push_of_some _ (Heap.get?_push_of_some _ ho),Heap.get?_push_of_some _ (Heap.get?_push_size _ rfl)⟩ fun b hb=>?_
  rcases List.mem_cons.mp hb with rfl | hb
  ·exact .inr (by rw [Heap.size_push]; exact Nat.le_succ _)
  ·rcases List.mem_cons.mp hb with rfl | hb
   ·exact .inl rfl
   ·rw [List.mem_singleton.mp hb]; exact .inr (Nat.le_refl _)
 ·rw [if_neg hdr]
  refine wpAny_bind (wpAny_pure ?_)
  have nS:S ≠ s.heap.objs.size:=Nat.ne_of_lt hlt
  have hfp:∀ b ∈ [s.heap.objs.size,S],b = S ∨ s.heap.objs.size ≤ b:=fun b hb=>by
   rcases List.mem_cons.mp hb with rfl | hb
   ·exact .inr (Nat.le_refl _)
   ·exact .inl (List.mem_singleton.mp hb)
  cases hb:byT w with
  | true =>
   have pp:=a1i (w.params.setOrder S ep) es
   obtain ⟨ms',a1,a2⟩:=mp pp
   refine fin (rawInt 0) s.heap s.drawn [s.heap.objs.size,S] _ ms' _ (fun b o q=>q) (Nat.le_refl _) a1 a2 (v0n hh nS d fi _ (fun _=>0) fun i z hi hz' A' E' q hq=>i1p hb hz' d fi ?_) ⟨Heap.get?_push_size _ rfl,Heap.get?_push_of_some _ ho⟩ hfp
   rw [List.getElem?_map,Array.getElem?_toList,Option.map_map] at hq
   exact hq
  | false =>
   obtain ⟨l1,l2⟩:=ld hb
   rw [hb] at hdr
   have hpl:(!t.plain && decide (es.size > 1)) = false:=by
    cases z:(!t.plain && decide (es.size > 1)) with
    | false=>rfl
    | true=>rw [z] at hdr; exact absurd rfl hdr
   have sz:t.place.size = es.size:=by
    simp only [SetTable.fits,Bool.and_eq_true,beq_iff_eq] at fi
    exact fi.1
   obtain ⟨ms',a1,a2⟩:=mp (l:=es.toList) (.refl _)
   refine fin (rawInt 0) s.heap s.drawn [s.heap.objs.size,S] _ ms' _ (fun b o q=>q) (Nat.le_refl _) a1 a2 (v0n hh nS d fi _ (nxS t) fun i z hi hz' A' E' q hq=>i1q hb hpl l1 hz' d fi ?_) ⟨Heap.get?_push_size _ rfl,Heap.get?_push_of_some _ ho⟩ hfp
   rw [List.length_map,Array.length_toList] at hi
   have hbl:SetTable.below t.place (nxS t i) = i:=by
    cases i with
    | zero=>exact y0m l2
    | succ k =>
     have lk:k < t.place.size:=by omega
     have:=y0n l2 lk
     simpa [nxS,Array.getD,lk] using this
   rw [hbl]
   rw [List.getElem?_map,Array.getElem?_toList] at hq
   by_cases hi':i < es.size
   ·have g1:es[i]? = some es[i]:=Array.getElem?_eq_getElem hi'
    have g2:t.place[i]? = some t.place[i]:=Array.getElem?_eq_getElem (by omega)
    rw [g1] at hq ⊢
    rw [g2]
    have e3:t.place.getD i 0 = t.place[i]:=by simp [Array.getD,show i < t.place.size by omega]
    simp only [Option.map_some,nxS,e3] at hq
    exact hq
   ·have g1:es[i]? = none:=Array.getElem?_eq_none (by omega)
    rw [g1] at hq ⊢
    exact hq
end
section
variable {P:Program} {w:World} {A:Around} {E:Value→Shared→Prop} {s:Shared} {S:Addr}
theorem f1k {Q:Bool→Shared→Prop} (hT:s.TypeIs (.ref S) "set") (h:Q false s):wpAny (model P w) A (Builtin.List.listLengthHint (.ref S)) Q E s:=by
 unfold Builtin.List.listLengthHint
 refine wpAny_bind (wpAny_specialOf hT PySem.F.slot_set_len.lookup ?_)
 generalize hid:("set.__len__" : String) = id0
 wp_delta
 rw [show splitId id0 = some ("set", "__len__") from by subst hid; decide +kernel]
 subst hid
 refine wpAny_bind (wpAny_isInstance (T := "set") (b:=true) hT (by rw [isSubtype_type]; kernel_rfl) ?_)
 refine wpAny_ite_split (fun z=>absurd z (by decide)) (fun _=>wpAny_ite_split (fun _=>wpAny_bind (wpAny_typeOf hT (wpAny_pure h))) (fun z=>absurd (by decide +kernel) z))
theorem p1v {ks:List Int} {R:Result→Shared→Prop} (hh:A.handled = none) (hS:SetI P w s.heap S ks) (hk:ks.Nodup) (hz:ks.length < 4096) (L:Addr) (hL:L ≠ S) (res:Value) (c:Nat) (gL:s.heap.get? L = some { cls:=.type "list",data:=.seq #[] c })
  (hR:∀ h' tk dr acc c' ms,(∀ b o,b ≠ L→s.heap.get? b = some o→h'.get? b = some o)→h'.get? L = some { cls:=.type "list",dict:=none,data:=.seq acc c',slots:=#[] }→IntsAre acc.toList ms→ms.Perm ks→R (.ok (.ret res)) { s with heap:=h',toks:=tk,drawn:=dr }) :
  wpAny (model P w) A.in1 (Builtin.List.listExtendWith (.ref L) (.ref S) res)
   (fun fin s'=>match fin with | .done f=>R (.ok f) s' | .again c'=>c'.quiet = true∧codeAny (model P w) A c' R s') (fun e s'=>R (.error e) s') s:=by
 have hT:s.TypeIs (.ref S) "set" := by
  obtain ⟨o,_,_,_,ho,ex,_⟩:=hS
  exact ⟨_,ho,ex.1⟩
 have lL:=Heap.lt_size gL
 unfold Builtin.List.listExtendWith
 refine wpAny_bind (wpAny_typeOf (T := "set") hT ?_)
 have h1:Builtin.List.listSameRef (.ref L) (.ref S) = false:=by simp [Builtin.List.listSameRef,hL]
 have h2:(Value.type "set" == Value.type "list") = false:=by decide
 have h3:(Value.type "set" == Value.type "tuple") = false:=by decide
 simp only [h1,h2,h3,Bool.or_false,Bool.false_eq_true,if_false]
 refine wpAny_bind (n1q (A:=A.in1) hh hS hk fun h' dr I fp vs ms St kp a1 a2 W st hb hI=>?_)
 have nf:L ∉ fp:=fun q=>by
  rcases hb L q with e | e
  ·exact hL e
  ·exact absurd lL (Nat.not_lt.mpr e)
 have vl:vs.length ≤ sizeLine:=by
  have:=IntsAre.length a1
  have:=a2.length_eq
  exact fits_of_scanBound (show vs.length < scanBound by unfold scanBound; omega)
 have key:∀ (h:Heap) (c1:Nat),St 0 h→(∀ b o,b ≠ L→s.heap.get? b = some o→h.get? b = some o)→h.get? L = some { cls:=.type "list",data:=.seq #[] c1 } →
   codeAny (model P w) A (.builtin "list.extend.loop" ⟨[.ref L,.ref I,res],[]⟩) R { s with heap:=h,drawn:=dr }:=by
  intro h c1 st' hk' gL'
  refine codeAny_extend_loopS W.toS vl L nf res vs.length 0 _ #[] c1 rfl (Nat.zero_le _) st' gL' (ItemsOf.nil _) fun z acc c2 hm gz ha=>?_
  rw [Moved.eq_with hm]
  refine hR z.heap z.toks dr acc c2 ms (fun b o hb' e=>hm.heap b o (fun q=>?_) (hk' b o hb' e)) gz ?_ a2
  ·rcases List.mem_cons.mp q with e' | q
   ·exact hb' e'
   ·have:=Heap.lt_size e
    rw [List.mem_singleton.mp q] at this
    exact absurd this (Nat.not_lt.mpr hI)
  ·have:acc.toList = vs:=by
    refine List.ext_getElem? fun j=>?_
    rw [Array.getElem?_toList]
    by_cases hj:j < acc.size
    ·have g:acc[j]? = some acc[j]:=Array.getElem?_eq_getElem hj
     rw [g]; exact (ha.2 j _ g).symm
    ·have l2:=ha.1
     rw [Array.getElem?_eq_none (by omega),List.getElem?_eq_none (by omega)]
   rw [this]; exact a1
 have g1:=kp _ _ gL
 refine wpAny_bind (wpAny_holding (f1k (s:={ s with heap:=h',drawn:=dr }) (by obtain ⟨o,ho,ec⟩:=hT; exact ⟨o,kp _ _ ho,ec⟩) ?_))
 refine wpAny_ite_split (fun _=>?_) (fun _=>wpAny_pure ⟨plainId_quiet PySem.F.plain_extend_loop _,key _ c st (fun b o _ e=>kp b o e) g1⟩)
 refine wpAny_bind (wpAny_rule (wpAny_bind ?_))
 show wpAny _ _ (updateSeq L (·.push .none) >>= fun _=>updateSeq L (·.pop)) _ _ _
 refine wpAny_bind (wpAny_updateSeq g1 rfl ?_)
 have g2:=Heap.get?_update_self (Obj.mapSeq (·.push Value.none)) g1 rfl
 refine wpAny_updateSeq (hz:=by seq_fits) g2 rfl ?_
 have g3:=Heap.get?_update_self (Obj.mapSeq (·.pop)) g2 rfl
 refine wpAny_pure ⟨plainId_quiet PySem.F.plain_extend_loop _,key _ _ (W.frame 0 _ _ st fun b hb o e=>?_) (fun b o hb e=>?_) g3⟩
 ·have nb:L ≠ b:=fun z=>nf (z ▸ hb)
  exact (Heap.get?_update_other _ _ nb).trans ((Heap.get?_update_other _ _ nb).trans e)
 ·exact (Heap.get?_update_other _ _ (Ne.symm hb)).trans ((Heap.get?_update_other _ _ (Ne.symm hb)).trans (kp _ _ e))
theorem c1r {ks:List Int} {R:List Value→Shared→Prop} (hh:A.handled = none) (hS:SetI P w s.heap S ks) (hk:ks.Nodup) (hz:ks.length < 4096)
  (h:∀ h' tk dr vs ms,(∀ b o,s.heap.get? b = some o→h'.get? b = some o)→s.heap.objs.size ≤ h'.objs.size→IntsAre vs ms→ms.Perm ks→R vs { s with heap:=h',toks:=tk,drawn:=dr }):wpAny (model P w) A (collect (.ref S)) R E s:=by
 have lS:S < s.heap.objs.size:=by obtain ⟨o,_,_,_,ho,_⟩:=hS; exact Heap.lt_size ho
 unfold collect
 refine wpAny_bind (wpAny_runValue (codeAny_builtin entry_proto_collect' ?_))
 rw [Around.under_plainId PySem.F.plain_proto_collect _]
 refine (show wpAny _ A.in1 (newList [] >>= fun l=>again (.builtin "list.__iadd__" ⟨[l,.ref S],[]⟩)) _ _ s from wpAny_bind (wpAny_newObj_type (wpAny_pure ⟨plainId_quiet PySem.F.plain_list_iadd _,codeAny_builtin entry_list_iadd' ?_⟩)))
 rw [Around.under_plainId PySem.F.plain_list_iadd _]
 have gL:(s.heap.push { cls:=.type "list",data:=.seq ([]:List Value).toArray }).get? s.heap.objs.size = some { cls:=.type "list",data:=.seq #[] }:=Heap.get?_push_size _ rfl
 show wpAny _ A.in1 (Builtin.List.listExtendWith (.ref s.heap.objs.size) (.ref S) (.ref s.heap.objs.size)) _ _ _
 have key:=p1v (A:=A) (s:={ s with heap:=s.heap.push { cls:=.type "list",data:=.seq ([]:List Value).toArray } })
  (R:=fun (q:Result) (z:Shared)=>∃ (h':Heap) (tk:Nat) (dr:Drawn) (acc:Array Value) (c':Nat) (ms:List Int),q = .ok (.ret (.ref s.heap.objs.size))∧z = { s with heap:=h',toks:=tk,drawn:=dr }∧(∀ b o,s.heap.get? b = some o→h'.get? b = some o)∧h'.get? s.heap.objs.size = some { cls:=.type "list",dict:=none,data:=.seq acc c',slots:=#[] }∧IntsAre acc.toList ms∧ms.Perm ks)
  hh (hS.kept fun o e=>Heap.get?_push_of_some _ e) hk hz s.heap.objs.size (Nat.ne_of_gt lS) (.ref s.heap.objs.size) 0 gL
  (fun h' tk dr acc c' ms k1 g a1 a2=>⟨h',tk,dr,acc,c',ms,rfl,rfl,fun b o e=>k1 b o (Nat.ne_of_lt (Heap.lt_size e)) (Heap.get?_push_of_some _ e),g,a1,a2⟩)
 refine wpAny_mono key (fun fin z x=>?_) fun e z x=>?_
 ·cases fin with
  | done f =>
   obtain ⟨h',tk,dr,acc,c',ms,e,rfl,k1,g,a1,a2⟩:=x
   cases e
   exact (show wpAny _ A (load s.heap.objs.size >>= _) _ _ _ from wpAny_bind (wpAny_load g (wpAny_pure (h h' tk dr _ ms k1 (Nat.le_of_lt (Heap.lt_size g)) a1 a2))))
  | again c1 =>
   refine ⟨x.1,codeAny_mono x.2 fun q z2 y=>?_⟩
   obtain ⟨h',tk,dr,acc,c',ms,rfl,rfl,k1,g,a1,a2⟩:=y
   exact (show wpAny _ A (load s.heap.objs.size >>= _) _ _ _ from wpAny_bind (wpAny_load g (wpAny_pure (h h' tk dr _ ms k1 (Nat.le_of_lt (Heap.lt_size g)) a1 a2))))
 ·obtain ⟨_,_,_,_,_,_,e',_⟩:=x
  cases e'
theorem m1c {ks:List Int} {Q:Value→Shared→Prop} (hh:A.handled = none) (hS:SetI P w s.heap S ks) (hk:ks.Nodup) (h64:ks.length < 64)
  (h:∀ h' tk dr D out e ns',(∀ b o,s.heap.get? b = some o→h'.get? b = some o)→s.heap.objs.size ≤ D→h'.get? D = some (seqObj "list" out e)→IntsAre out.toList ns'→ns'.Perm ks→ns'.Pairwise (· ≤ ·)→Q (.ref D) { s with heap:=h',toks:=tk,drawn:=dr }) :
  wpAny (model P w) A (call (.builtin "sorted") [.ref S]) Q E s:=by
 refine Calls.call_function_entry kind_sorted plain_sorted entry_sorted (args_sorted1 _) ?_
 unfold Builtin.«sorted»
 refine wpAny_bind (m:=checkCount "sorted" 1 1 _) (wpAny_pure ?_)
 refine wpAny_bind (c1r (A:=A.in1) hh hS hk (by omega) fun h' tk dr vs ms k1 sz a1 a2=>?_)
 have l1:vs.length < 64:=by
  have:=IntsAre.length a1
  have:=a2.length_eq
  omega
 refine wpAny_bind (wpAny_newList ?_ (fits_of_scanBound (by unfold scanBound; omega)))
 have gD:(h'.push (seqObj "list" vs.toArray 0)).get? h'.objs.size = some (seqObj "list" vs.toArray 0):=Heap.get?_push_size _ rfl
 refine wpAny_bind (wpAny_holding (wpAny_call_entry slot_list_sort ⟨_,gD,rfl⟩ entry_list_sort (list_sort_tree (s:={ s with heap:=h'.push (seqObj "list" vs.toArray 0),toks:=tk,drawn:=dr }) gD a1 l1 fun out ns' b1 b2 b3=>⟨_,rfl,?_⟩) (args_list_sort _)))
 obtain ⟨e,ge⟩:=sortedHeap_at (out:=out) gD
 refine wpAny_pure ⟨_,rfl,h _ tk dr h'.objs.size out e ns' (fun b o q=>?_) sz ge b1 (b2.trans a2) b3⟩
 have lb:=Heap.lt_size (k1 b o q)
 rw [sortedHeap_old (Nat.ne_of_lt lb) (by rw [size_push']; exact Nat.lt_succ_of_lt lb)]
 exact Heap.get?_push_of_some _ (k1 b o q)
end
theorem Inv.drawn {X:Cx} {pins:List (Addr × Obj)} {σ:List (Option V)} {H:Hp} {s:Shared} (I:Inv X pins σ H s) (d:Drawn):Inv X pins σ H { s with drawn:=d } :=
 ⟨I.ok,I.os,I.bare,I.base,I.loc,I.cell,I.free,I.freeC,I.pin,I.hok,I.len⟩
theorem b1d (f:Nat→Int):∀ (n:Nat) (k:Int),k ∈ firstMet f n↔∃ i,i < n∧f i = k
 | 0,k=>by simp [firstMet_zero]
 | n + 1,k=>by
  rw [firstMet_succ,o1i,b1d f n k]
  constructor
  ·rintro (⟨i,h,e⟩ | rfl)
   ·exact ⟨i,by omega,e⟩
   ·exact ⟨n,by omega,rfl⟩
  ·rintro ⟨i,h,e⟩
   by_cases z:i = n
   ·subst z; exact .inr e.symm
   ·exact .inl ⟨i,by omega,e⟩
theorem j0u (f:Nat→Int):∀ n,(firstMet f n).Nodup
 | 0=>by simp [firstMet_zero]
 | n + 1=>by
  rw [firstMet_succ]
  by_cases h:f n ∈ firstMet f n
  ·rw [o1j h]; exact j0u f n
  ·rw [h1w h,List.nodup_append]
   refine ⟨j0u f n,by simp,fun a ha b hb e=>h ?_⟩
   rw [List.mem_singleton.mp hb] at e
   exact e ▸ ha
theorem j1v (ns:List Int) (k:Int):k ∈ firstMet (fun i=>ns.getD i 0) ns.length↔k ∈ ns:=by
 rw [b1d]
 constructor
 ·rintro ⟨i,h,e⟩
  rw [List.getD_eq_getElem?_getD,List.getElem?_eq_getElem h] at e
  rw [← e]; exact List.getElem_mem h
 ·intro h
  obtain ⟨i,hi,e⟩:=List.getElem_of_mem h
  exact ⟨i,hi,by rw [List.getD_eq_getElem?_getD,List.getElem?_eq_getElem hi]; exact e⟩
def v0s (K:PySem.W.Frag) (ta:TA):TE:=fun σ H Q=>ta σ H fun vs H1=>∃ (p:Addr) (ns:List Int),vs = [.ref p]∧SqL K H1 p (ns.map V.int)∧ns.length < 64∧∀ ns':List Int,ns'.Pairwise (· < ·)→(∀ x,x ∈ ns'↔x ∈ ns)→∀ l,H1 l = none→Q (.ref l) (upd H1 l (.lst (ns'.map V.int)))
theorem o0e (K:PySem.W.Frag) {X:Cx} {a:Expr} {ta:TA} {p p2 pos pos2:Pos} (hc:X.calm = true) (hg1:Gl X "sorted") (hm1:X.mg "sorted" = none) (hg:Gl X "set") (hm:X.mg "set" = none) (ha:PA X [a] ta) (hK:X.K = K:=by rfl)
  (ho:starEach [.Call (.Name "set" p2) [a] [] pos2] X.env = [(false,eval (.Call (.Name "set" p2) [a] [] pos2) X.env)]:=by rfl) (hs:starEach [a] X.env = [(false,eval a X.env)]:=by rfl) (hpl:(backTo pos (starEach [] X.env)).any (·.1) = false:=by rfl) :
  PE X (.Call (.Name "sorted" p) [.Call (.Name "set" p2) [a] [] pos2] [] pos) (v0s K ta):=by
 subst hK
 intro pins s σ H Q I h
 refine Call_ (l0g I hg1 hm1 c1y ?_)
 refine PyProof.Rows.callWith_builtin1 ?_ (by rw [ho]; rfl) hpl
 rw [ho]
 show wpAny _ _ (spliced [(false,eval (.Call (.Name "set" p2) [a] [] pos2) X.env)]) _ _ s
 refine Calls.spliced_cons ?_
 refine Call_ (l0g I hg hm o1m (PyProof.Rows.callWith_type1 (thn (ha pos2 pins s σ H _ I h) fun us s1 ⟨vs,H1,I1,r1,q1⟩=>?_) hs rfl))
 obtain ⟨l,ns,rfl,hq,hn,q⟩:=q1
 obtain ⟨u,rfl,ru⟩:=l0j r1
 cases ru
 obtain ⟨its,rv,pl,hz⟩:=I1.list hq
 have hl:its.length = ns.length:=by have:=rv.length; rw [List.length_map] at this; omega
 refine p1l (I1.ok.hd hc) pl.isList (y0d rv) (by rw [List.size_toArray,hl]; show _ < 4096; omega) fun h' tk hS hk=>Calls.spliced_nil ?_
 rw [show its.toArray.size = ns.length by rw [List.size_toArray,hl]] at hS
 have hle:=firstMet_length_le (fun i=>ns.getD i 0) ns.length
 refine m1c (s:={ s1 with heap:=h',toks:=tk }) (by exact I1.ok.hd hc) hS (j0u _ _) (by omega) fun h2 tk2 dr D out e ns' k2 sz ge b1 b2 b3=>?_
 have hlen:ns'.length < 64:=by rw [b2.length_eq]; omega
 have I2:Inv X pins σ H1 { s1 with heap:=h',toks:=tk }:=I1.kept (t':=tk) hk
 have hst:ns'.Pairwise (· < ·):=by
  have nd:ns'.Nodup:=b2.nodup_iff.mpr (j0u _ _)
  exact (List.Pairwise.and b3 nd).imp fun {a b} z=>by have h1:=z.1; have h2:=z.2; omega
 have hm':∀ x,x ∈ ns'↔x ∈ ns:=fun x=>by rw [b2.mem_iff]; exact j1v ns x
 have I3:=(I2.laid (t':=tk2) (o:=.lst (ns'.map V.int)) k2 sz ⟨by rw [List.length_map]; exact Nat.le_of_lt (h0i (n:=ns'.length) (by omega)),out.toList,e,m0b b1,by rw [ge]⟩).drawn dr
 exact ⟨.ref D,_,I3,rfl,q ns' hst hm' D (I2.hok.fresh sz)⟩
section
variable {K:PySem.W.Frag} {ts:TA} {as:AA}
@[irreducible] def l0y (r:R):AE:=fun ρ q=>match view ρ r with
 | some (.lst ds)=>(match g0f ds with | some ns=>ns.length < 64∧(∀ ns':List Int,ns'.Pairwise (· < ·)→(∀ x,x ∈ ns'↔x ∈ ns)→q (.f (ns'.map D.int)) ρ) | none=>False)
 | _=>False
def x0c (as:AA):AE:=fun ρ q=>as ρ fun rs ρ1=>match rs with
 | [r]=>l0y r ρ1 q
 | _=>False
theorem m0d (h:TAok K ts as):TEok K (v0s K ts) (x0c as):=by
 intro F σ ρ H q Q r ha k
 refine h F σ ρ H _ _ r ha fun rs ρ1 vs H1 h1 r1 i1 k1=>?_
 split at h1
 ·obtain ⟨x,rfl,ix⟩:=i1.one
  unfold l0y at h1
  split at h1
  ·rename_i ds e
   split at h1
   ·rename_i ns e'
    obtain ⟨l,us,rfl,sq,rd⟩:=c0s r1 ix e
    rw [n0b e',k0k] at rd
    rw [rd] at sq
    exact ⟨l,ns,rfl,sq,h1.1,fun ns' a1 a2 p hp=>(k.after k1).new r1 (h1.2 ns' a1 a2) (k0k.mpr rfl) hp⟩
   ·exact h1.elim
  ·exact h1.elim
 ·exact h1.elim
theorem n0c {r:R} {ρ:En} {q:Ko} {ns:List Int} (hv:view ρ r = some (.lst (ns.map D.int))) (h64:ns.length < 64) (h1:∀ ns':List Int,ns'.Pairwise (· < ·)→(∀ x,x ∈ ns'↔x ∈ ns)→q (.f (ns'.map D.int)) ρ):l0y r ρ q:=by
 unfold l0y
 simp only [hv,o0n]
 exact ⟨h64,h1⟩
theorem j0o:∀ {xs ys:List Int},xs.Pairwise (· < ·)→ys.Pairwise (· < ·)→(∀ x,x ∈ xs↔x ∈ ys)→xs = ys
 | [],[],_,_,_=>rfl
 | [],y :: ys,_,_,h=>absurd ((h y).mpr (.head _)) (by simp)
 | x :: xs,[],_,_,h=>absurd ((h x).mp (.head _)) (by simp)
 | x :: xs,y :: ys,h1,h2,h=>by
  obtain ⟨a1,b1⟩:=List.pairwise_cons.mp h1
  obtain ⟨a2,b2⟩:=List.pairwise_cons.mp h2
  have e:x = y:=by
   rcases List.mem_cons.mp ((h x).mp (.head _)) with e | e
   ·exact e
   ·rcases List.mem_cons.mp ((h y).mpr (.head _)) with e' | e'
    ·exact e'.symm
    ·have:=a2 x e
     have:=a1 y e'
     omega
  subst e
  congr 1
  refine j0o b1 b2 fun z=>?_
  constructor
  ·intro hz
   rcases List.mem_cons.mp ((h z).mp (.tail _ hz)) with e | e
   ·have:=a1 z hz; omega
   ·exact e
  ·intro hz
   rcases List.mem_cons.mp ((h z).mpr (.tail _ hz)) with e | e
   ·have:=a2 z hz; omega
   ·exact e
end
end L2
namespace L2
open PySem PySem.Spec PyProof.Rows PySem.W
end L2
namespace K75
open PySem PySem.Spec PyProof.Rows L2
def top (i:Nat):Stmt:=PySem.Challenge.pw_fewjoins_k75_texts_of_no_wish.main.body.getD i (.Pass ⟨0,0,0,0⟩)
abbrev d0u:Stmt:=p1z (top 12)
theorem x0p:b0a ["self", "row"] ["self", "row"] (a0l d0u):=⟨rfl,rfl,rfl,by decide +kernel,rfl,by decide +kernel,by decide +kernel⟩
abbrev f0j:Stmt:=top 15
abbrev l0f:List Str:=["row"]
theorem r0a:b0a l0f ["row"] (a0l f0j):=⟨rfl,rfl,rfl,by decide +kernel,rfl,by decide +kernel,by decide +kernel⟩
abbrev l0s:Stmt:=top 16
abbrev a1z:List Str:=["givens", "row", "given"]
theorem j0n:b0a a1z ["givens"] (a0l l0s):=⟨rfl,rfl,rfl,by decide +kernel,rfl,by decide +kernel,by decide +kernel⟩
abbrev l0t:Stmt:=top 17
abbrev b1a:List Str:=["one", "other"]
theorem z0v:b0a b1a ["one", "other"] (a0l l0t):=⟨rfl,rfl,rfl,by decide +kernel,rfl,by decide +kernel,by decide +kernel⟩
abbrev f0f:Stmt:=top 21
abbrev l0d:List Str:=["wish", "many", "rows"]
theorem h0j:b0a l0d ["wish"] (a0l f0f):=⟨rfl,rfl,rfl,by decide +kernel,rfl,by decide +kernel,by decide +kernel⟩
abbrev g0c:Stmt:=top 22
abbrev m0u:List Str:=["row"]
theorem t0k:b0a m0u ["row"] (a0l g0c):=⟨rfl,rfl,rfl,by decide +kernel,rfl,by decide +kernel,by decide +kernel⟩
abbrev f0g:Stmt:=top 23
abbrev r0t:List Str:=["text", "rows", "many", "told", "at", "row", "givens"]
theorem b0k:b0a r0t ["text"] (a0l f0g):=⟨rfl,rfl,rfl,by decide +kernel,rfl,by decide +kernel,by decide +kernel⟩
abbrev g0p:Stmt:=top 24
abbrev r0s:List Str:=["text"]
theorem q0y:b0a r0s ["text"] (a0l g0p):=⟨rfl,rfl,rfl,by decide +kernel,rfl,by decide +kernel,by decide +kernel⟩
abbrev f0h:Stmt:=top 25
abbrev r0u:List Str:=["word", "row", "numbers"]
theorem f0o:b0a r0u ["word", "row"] (a0l f0h):=⟨rfl,rfl,rfl,by decide +kernel,rfl,by decide +kernel,by decide +kernel⟩
abbrev c0m:Stmt:=top 26
abbrev k0s:List Str:=["rows", "told"]
theorem g0b:b0a k0s ["rows", "told"] (a0l c0m):=⟨rfl,rfl,rfl,by decide +kernel,rfl,by decide +kernel,by decide +kernel⟩
abbrev f0p:Stmt:=top 27
abbrev p0y:List Str:=["many", "numbers"]
theorem p0k:b0a p0y ["many", "numbers"] (a0l f0p):=⟨rfl,rfl,rfl,by decide +kernel,rfl,by decide +kernel,by decide +kernel⟩
abbrev c0n:Stmt:=top 28
abbrev g0e:List Str:=["word", "row", "first", "others", "numbers"]
theorem d0a:b0a g0e ["word", "row"] (a0l c0n):=⟨rfl,rfl,rfl,by decide +kernel,rfl,by decide +kernel,by decide +kernel⟩
abbrev g0q:Stmt:=top 29
abbrev r0v:List Str:=["word", "number"]
theorem k0z:b0a r0v ["word"] (a0l g0q):=⟨rfl,rfl,rfl,by decide +kernel,rfl,by decide +kernel,by decide +kernel⟩
abbrev i0e:Stmt:=top 31
abbrev u0h:List Str:=["_law_script"]
theorem t0l:b0a u0h ["_law_script"] (a0l i0e):=⟨rfl,rfl,rfl,by decide +kernel,rfl,by decide +kernel,by decide +kernel⟩
abbrev i0f:Stmt:=top 32
abbrev u0i:List Str:=["_law_tape_here", "_law_many", "_law_found", "_law_spot", "_law_cells", "_law_cell", "_law_seed"]
theorem d0h:b0a u0i ["_law_tape_here", "_law_many"] (a0l i0f):=⟨rfl,rfl,rfl,by decide +kernel,rfl,by decide +kernel,by decide +kernel⟩
abbrev g0r:Stmt:=top 33
abbrev r0w:List Str:=["_law_found"]
theorem q0z:b0a r0w ["_law_found"] (a0l g0r):=⟨rfl,rfl,rfl,by decide +kernel,rfl,by decide +kernel,by decide +kernel⟩
abbrev d0v:Stmt:=top 34
abbrev l0n:List Str:=["_law_tape_here", "_law_many", "_law_most", "_law_rows", "_law_turn", "_law_way", "_law_row", "_law_at"]
theorem b0d:b0a l0n ["_law_tape_here", "_law_many", "_law_most"] (a0l d0v):=⟨rfl,rfl,rfl,by decide +kernel,rfl,by decide +kernel,by decide +kernel⟩
abbrev i0d:Stmt:=top 35
abbrev u0g:List Str:=["_law_tape_here", "_law_many"]
theorem m0i:b0a u0g ["_law_tape_here"] (a0l i0d):=⟨rfl,rfl,rfl,by decide +kernel,rfl,by decide +kernel,by decide +kernel⟩
abbrev c0v:Stmt:=top 36
abbrev h0c:List Str:=["_law_wish_here", "_law_many", "_law_rows", "_law_found", "_law_row"]
theorem c0l:b0a h0c ["_law_wish_here"] (a0l c0v):=⟨rfl,rfl,rfl,by decide +kernel,rfl,by decide +kernel,by decide +kernel⟩
abbrev g0t:Stmt:=top 37
abbrev r0y:List Str:=["_law_error", "_law_place", "_law_kinds"]
theorem e0l:b0a r0y ["_law_error", "_law_place"] (a0l g0t):=⟨rfl,rfl,rfl,by decide +kernel,rfl,by decide +kernel,by decide +kernel⟩
abbrev g0s:Stmt:=top 38
abbrev r0x:List Str:=["_law_some"]
theorem l0a:b0a r0x [] (a0l g0s):=⟨rfl,rfl,rfl,by decide +kernel,rfl,by decide +kernel,by decide +kernel⟩
abbrev i0c:Stmt:=top 39
abbrev u0f:List Str:=["_law_tape_here", "_law_words", "_law_some", "_law_way"]
theorem g0o:b0a u0f ["_law_tape_here", "_law_words"] (a0l i0c):=⟨rfl,rfl,rfl,by decide +kernel,rfl,by decide +kernel,by decide +kernel⟩
abbrev e0g:Stmt:=top 40
abbrev m0v:List Str:=["_law_tape_here", "_law_row", "_law_words", "_law_at", "_law_way", "_law_sign"]
theorem c0d:b0a m0v ["_law_tape_here", "_law_row"] (a0l e0g):=⟨rfl,rfl,rfl,by decide +kernel,rfl,by decide +kernel,by decide +kernel⟩
abbrev i0g:Stmt:=top 41
abbrev u0j:List Str:=["_law_tape_here", "_law_text", "_law_rows", "_law_at", "_law_way", "_law_row"]
theorem f0e:b0a u0j ["_law_tape_here", "_law_text"] (a0l i0g):=⟨rfl,rfl,rfl,by decide +kernel,rfl,by decide +kernel,by decide +kernel⟩
abbrev e0m:Stmt:=top 42
abbrev j0s:List Str:=["_law_word_here"]
theorem p0j:b0a j0s ["_law_word_here"] (a0l e0m):=⟨rfl,rfl,rfl,by decide +kernel,rfl,by decide +kernel,by decide +kernel⟩
abbrev d0w:Stmt:=top 43
abbrev i0u:List Str:=["_law_row", "_law_word_here", "_law_words", "_law_numbers_here"]
theorem f0v:b0a i0u ["_law_row", "_law_word_here"] (a0l d0w):=⟨rfl,rfl,rfl,by decide +kernel,rfl,by decide +kernel,by decide +kernel⟩
abbrev h0k:Stmt:=top 44
abbrev o0h:List Str:=["_law_text", "_law_lines", "_law_numbers_here", "_law_many", "_law_found", "_law_at"]
theorem e0b:b0a o0h ["_law_text"] (a0l h0k):=⟨rfl,rfl,rfl,by decide +kernel,rfl,by decide +kernel,by decide +kernel⟩
abbrev f0i:Stmt:=top 45
abbrev l0e:List Str:=["_law_text", "_law_due_here", "_law_found", "_law_kept", "e"]
theorem d0n:b0a l0e ["_law_text", "_law_due_here"] (a0l f0i):=⟨rfl,rfl,rfl,by decide +kernel,rfl,by decide +kernel,by decide +kernel⟩
abbrev e1h:Stmt:=top 46
abbrev n1a:List Str:=["_law_script", "_law_tape_here", "_law_wish_here", "_law_text", "_law_turn", "_law_due_here", "_law_long"]
theorem l0b:b0a n1a ["_law_script"] (a0l e1h):=⟨rfl,rfl,rfl,by decide +kernel,rfl,by decide +kernel,by decide +kernel⟩
section
variable {P:Program} {w:World} {K:PySem.W.Frag} {mg:Str→Option Value} {base:Heap}
theorem t0x (D:DefN K mg "_law_tape" i0e ["_law_script"]) (B:BI mg):OkN P w K mg base 1 "_law_tape" ["_law_script"] (spA K l1i):=by
 refine OkN.imp (sp:=z0n K) ?_ i1k
 refine D.ok t0l (fun vs H Q E h=>?_) (fun f cdv A outer s H vs Q E hr h=>?_)
 ·obtain ⟨a,ns,rfl,_⟩:=h
  rfl
 ·obtain ⟨a,ns,rfl,hS,k⟩:=h
  refine ⟨_,(a0m (b0c (j1j (p0r a0s (c0h (d0g K) (pv 0) d0j (d0i a0j)) (p0r a0s a0j (p0r a0s a0j j1h))) rfl rfl (by simp) (by decide)))),?_⟩
  intro t ht
  have s0:Same H (upd H t (.dK [])):=(Same.refl H).new ht
  refine ⟨_,rfl,63,rfl,a,_,rfl,s0.seq hS,fun l hl=>?_⟩
  have ntl:t ≠ l:=b0h b0g hl
  refine ⟨by rw [a0o ntl,b0g],[(Sum.inr ("cells" : Str),V.ref l),(Sum.inr ("spot" : Str),V.int 0),(Sum.inr ("left" : Str),V.int 0)],rfl,(by show 3 ≤ 15; decide),?_⟩
  rw [z0e]
  have fin:=k t l ht (s0.free hl) ntl
  have eq:upd (upd (upd H t (.dK [])) l (.lst (cutV (ns.map V.int) none (some 63)))) t (.dK (c0u l 0 0)) = upd (upd H l (.lst ((ns.take 63).map V.int))) t (.dK (c0u l 0 0)):=by
   rw [p1y]
   funext b
   unfold upd
   by_cases h1:b = t
   ·rw [if_pos h1,if_pos h1]
   ·rw [if_neg h1,if_neg h1,if_neg h1]
  rw [eq]
  exact fin
theorem t0y (D:DefN K mg "_law_draw" i0f ["_law_tape_here", "_law_many"]) (B:BI mg):OkN P w K mg base 1 "_law_draw" ["_law_tape_here", "_law_many"] (spA K t0e):=by
 refine OkN.imp (sp:=z0o K) ?_ k1v
 refine D.ok d0h (fun vs H Q E h=>?_) (fun f cdv A outer s H vs Q E hr h=>?_)
 ·obtain ⟨t,c,m,sp,lf,ns,n,rfl,_⟩:=h
  rfl
 ·obtain ⟨t,c,m,sp,lf,ns,n,rfl,hT,hC,h1,h2,h3,hn,hm,k⟩:=h
  have hu:=d0r hr
  have hm0:=hm.1
  have gl:DGet H t (kV (Sum.inr "left")) (some (.int lf)):=by rw [← z0f (c:=c) (sp:=sp)]; exact DGet.k hT
  have gs:DGet H t (kV (Sum.inr "spot")) (some (.int sp)):=by rw [← z0d (c:=c) (lf:=lf)]; exact DGet.k hT
  have gc:DGet H t (kV (Sum.inr "cells")) (some (.ref c)):=by rw [← n0w (sp:=sp) (lf:=lf)]; exact DGet.k hT
  refine ⟨_,(a0f (d0q (a0x x0s (m0p hu (pv 0) a0s (fun _ _=>rfl)) a0j (b0e _))
   (a0f (a0t (i:=2) d0h.nd rfl (by first | exact Or.inl rfl | exact Or.inr rfl) (a0z m0s (m0p hu (pv 0) a0s (fun _ _=>rfl)) (pv 1)))
   (a0f (t0q hu (pv 0) a0s (a0z p0u (m0p hu (pv 0) a0s (fun _ _=>rfl)) (pv 1)) rfl)
   (a0m (b0c (pv 2)))))
   b0m)
   (a0f (a0t (i:=3) d0h.nd rfl (by first | exact Or.inl rfl | exact Or.inr rfl) (m0p hu (pv 0) a0s (fun _ _=>rfl)))
   (a0f (t0q hu (pv 0) a0s (a0z d0y (pv 3) a0j) rfl)
   (a0f (a0t (i:=4) d0h.nd rfl (by first | exact Or.inl rfl | exact Or.inr rfl) (m0p hu (pv 0) a0s (fun _ _=>rfl)))
   (a0f (a0t (i:=5) d0h.nd rfl (by first | exact Or.inl rfl | exact Or.inr rfl) a0j)
   (a0f (d0q (a0x x0s (a0r (b0p K) rfl B.len_ c0z (a0c (pv 4) a0e)) a0j (b0e _))
   (a0m (a0t (i:=5) d0h.nd rfl (by first | exact Or.inl rfl | exact Or.inr rfl) (e0c (b0q K) (pv 4) (a0z m0s (pv 3) (a0r (b0p K) rfl B.len_ c0z (a0c (pv 4) a0e))) (fun _ _=>rfl))))
   b0m)
   (a0f (d0q (PW.pt (w0f (a0x m1x (pv 5) (a0z a1p a0j a0j) (b0e _)) (p0p (a0x e1u (pv 3) (a0r (b0p K) rfl B.len_ c0z (a0c (pv 4) a0e)) (b0e _)))))
   (a0f (t0q hu (pv 0) a0s (a0z p0u (a0z m0q (pv 5) (a0z a1p a0j a0j)) (pv 1)) rfl)
   (a0m (b0c (a0z m0s (a0z m0q (pv 5) (a0z a1p a0j a0j)) (pv 1)))))
   b0m)
   (a0f (a0t (i:=6) d0h.nd rfl (by first | exact Or.inl rfl | exact Or.inr rfl) (a0z m0s (a0z r0g (a0z d0y (a0z d0y (a0z d0y (a0z m0s (pv 5) a0j) (a0z r0g (a0z r0g a0j (pv 3)) (pv 3))) (a0z r0g a0j (pv 3))) a0j) a0j) a0j))
   (a0m (b0c (a0z m0s (a0z p0u (a0z m0s (a0z r0g (pv 6) (a0z d0y (pv 6) a0j)) a0j) a0j) (pv 1)))))))))))),?_⟩
  refine ⟨_,rfl,t,_,rfl,gl,_,_,rfl,rfl,_,rfl,ite2 (fun hl=>?_) fun hl=>?_⟩
  ·refine ⟨_,rfl,t,_,rfl,gl,_,rfl,_,_,rfl,rfl,hm0,?_⟩
   refine ⟨_,rfl,t,_,rfl,gl,_,rfl,_,_,rfl,rfl,hm,_,rfl,t,_,rfl,DPut.k (k:=Sum.inr "left") hT (h0i (by show 3 ≤ 1000; decide)),_,rfl,?_⟩
   rw [p0q]
   exact drawn (Q:=fun z H=>Q (.int z) H) hm0 fun r hr=>k r _ _ hr h1 (by omega) (Int.ediv_nonneg h3 (Int.le_of_lt hm0))
  ·refine ⟨_,rfl,t,_,rfl,gs,?_⟩
   refine ⟨_,rfl,_,_,rfl,rfl,_,rfl,t,_,rfl,DPut.k (k:=Sum.inr "spot") hT (h0i (by show 3 ≤ 1000; decide)),?_⟩
   rw [e1m]
   have hT1:(upd H t (.dK (c0u c (sp + 1) lf))) t = some (.dK (c0u c (sp + 1) lf)):=b0g
   have hC1:SqL K (upd H t (.dK (c0u c (sp + 1) lf))) c (ns.map V.int):=Grow.seq (Grow.refl.upd _) hT hC
   have gr1:Grow t H (upd H t (.dK (c0u c (sp + 1) lf))):=Grow.refl.upd _
   have gc1:DGet (upd H t (.dK (c0u c (sp + 1) lf))) t (kV (Sum.inr "cells")) (some (.ref c)):=by rw [← n0w (sp:=sp + 1) (lf:=lf)]; exact DGet.k hT1
   have kk:∀ (r:Nat) (lf':Int),(r:Int) < m→0 ≤ lf'→Q (.int (r:Nat)) (upd (upd H t (.dK (c0u c (sp + 1) lf))) t (.dK (c0u c (sp + 1) lf'))):=fun r lf' hr hl=>by rw [i1d]; exact k r _ _ hr (by omega) (by omega) hl
   have kl:∀ (r:Nat),(r:Int) < m→Q (.int (r:Nat)) (upd H t (.dK (c0u c (sp + 1) lf))):=fun r hr=>k r _ _ hr (by omega) (by omega) h3
   generalize upd H t (.dK (c0u c (sp + 1) lf)) = H1 at hT1 hC1 gr1 gc1 kk kl ⊢
   refine ⟨_,rfl,t,_,rfl,gc1,?_⟩
   have p18:(10:Int) ^ (18:Int).toNat = 1000000000000000000:=by decide
   have fits:CPow 10 18:=⟨by decide,by decide,by decide⟩
   have pos1:(0:Int) < 2147483629:=by decide
   have pos2:(0:Int) < 2147483647:=by decide
   have spOk:-(2 ^ 64) < sp∧sp < 2 ^ 64:=by omega
   refine ⟨_,rfl,c,_,rfl,.inl hC1,_,_,rfl,rfl,_,rfl,ite2 (fun hl=>?_) fun hl=>?_⟩
   ·have hl':0 < ns.length:=by
     have:=of_decide_eq_true hl
     rw [List.length_map] at this
     omega
    have el:((ns.map V.int).length:Int) = ns.length:=by rw [List.length_map]
    have hb0:0 ≤ sp % ((ns.map V.int).length:Int):=Int.emod_nonneg _ (by omega)
    have hb1:sp % ((ns.map V.int).length:Int) < ((ns.map V.int).length:Int):=Int.emod_lt_of_pos _ (by omega)
    obtain ⟨j,hj⟩:=Int.eq_ofNat_of_zero_le hb0
    have hj':j < ns.length:=by rw [hj] at hb1; omega
    refine ⟨_,rfl,_,rfl,_,rfl,c,_,rfl,.inl hC1,_,_,rfl,rfl,(by show (0:Int) < ((ns.map V.int).length:Int); omega),.inl ⟨c,_,_,V.int ns[j],rfl,rfl,hC1,?_,?_⟩⟩
    ·rw [hj]
     exact d1g (by simp [hj'])
    ·generalize ns[j] = z
     refine ⟨_,rfl,_,_,rfl,rfl,fits,_,_,rfl,rfl,_,rfl,ite2 (fun hz=>?_) fun hz=>?_⟩
     ·refine ⟨_,rfl,_,rfl,c,_,rfl,.inl hC1,_,_,rfl,rfl,_,rfl,ite2 (fun hs=>?_) fun hs=>?_⟩
      ·refine ⟨_,rfl,_,_,rfl,rfl,fits,_,_,rfl,rfl,_,rfl,_,_,rfl,rfl,hm,_,rfl,t,_,rfl,DPut.k (k:=Sum.inr "left") hT1 (h0i (by show 3 ≤ 1000; decide)),?_⟩
       rw [p0q]
       refine ⟨_,rfl,_,_,rfl,rfl,fits,_,_,rfl,rfl,_,rfl,_,_,rfl,rfl,hm0,?_⟩
       refine drawn (Q:=fun z H=>Q (.int z) H) hm0 fun r hr=>kk r _ hr (Int.ediv_nonneg ?_ (Int.le_of_lt hm0))
       have hz':=of_decide_eq_true hz
       rw [p18] at hz' ⊢
       omega
      ·refine ⟨_,rfl,_,_,rfl,rfl,pos1,_,rfl,_,_,rfl,rfl,.inl ⟨by decide,by decide⟩,_,rfl,_,_,rfl,rfl,.inr spOk,_,_,rfl,rfl,_,rfl,_,_,rfl,rfl,.inl ⟨by decide,by decide⟩,_,_,rfl,rfl,_,_,rfl,rfl,_,_,rfl,rfl,.inr ⟨by decide,by decide⟩,_,_,rfl,rfl,pos2,?_⟩
       refine ⟨_,rfl,_,rfl,_,_,rfl,rfl,_,_,rfl,rfl,.inl w0a,_,_,rfl,rfl,pos1,_,_,rfl,rfl,dv64,_,rfl,_,_,rfl,rfl,hm0,?_⟩
       exact drawn (Q:=fun z H=>Q (.int z) H) hm0 fun r hr=>kl r hr
     ·refine ⟨_,rfl,_,_,rfl,rfl,pos1,_,rfl,_,_,rfl,rfl,.inl ⟨by decide,by decide⟩,_,rfl,_,_,rfl,rfl,.inr spOk,_,_,rfl,rfl,_,rfl,_,_,rfl,rfl,.inl ⟨by decide,by decide⟩,_,_,rfl,rfl,_,_,rfl,rfl,_,_,rfl,rfl,.inr ⟨by decide,by decide⟩,_,_,rfl,rfl,pos2,?_⟩
      refine ⟨_,rfl,_,rfl,_,_,rfl,rfl,_,_,rfl,rfl,.inl w0a,_,_,rfl,rfl,pos1,_,_,rfl,rfl,dv64,_,rfl,_,_,rfl,rfl,hm0,?_⟩
      exact drawn (Q:=fun z H=>Q (.int z) H) hm0 fun r hr=>kl r hr
   ·refine ⟨_,rfl,_,_,rfl,rfl,fits,_,_,rfl,rfl,_,rfl,ite2 (fun hz=>?_) fun hz=>?_⟩
    ·refine ⟨_,rfl,_,rfl,c,_,rfl,.inl hC1,_,_,rfl,rfl,_,rfl,ite2 (fun hs=>?_) fun hs=>?_⟩
     ·refine ⟨_,rfl,_,_,rfl,rfl,fits,_,_,rfl,rfl,_,rfl,_,_,rfl,rfl,hm,_,rfl,t,_,rfl,DPut.k (k:=Sum.inr "left") hT1 (h0i (by show 3 ≤ 1000; decide)),?_⟩
      rw [p0q]
      refine ⟨_,rfl,_,_,rfl,rfl,fits,_,_,rfl,rfl,_,rfl,_,_,rfl,rfl,hm0,?_⟩
      refine drawn (Q:=fun z H=>Q (.int z) H) hm0 fun r hr=>kk r _ hr (Int.ediv_nonneg ?_ (Int.le_of_lt hm0))
      have hz':=of_decide_eq_true hz
      rw [p18] at hz' ⊢
      omega
     ·refine ⟨_,rfl,_,_,rfl,rfl,pos1,_,rfl,_,_,rfl,rfl,.inl ⟨by decide,by decide⟩,_,rfl,_,_,rfl,rfl,.inr spOk,_,_,rfl,rfl,_,rfl,_,_,rfl,rfl,.inl ⟨by decide,by decide⟩,_,_,rfl,rfl,_,_,rfl,rfl,_,_,rfl,rfl,.inr ⟨by decide,by decide⟩,_,_,rfl,rfl,pos2,?_⟩
      refine ⟨_,rfl,_,rfl,_,_,rfl,rfl,_,_,rfl,rfl,.inl w0a,_,_,rfl,rfl,pos1,_,_,rfl,rfl,dv64,_,rfl,_,_,rfl,rfl,hm0,?_⟩
      exact drawn (Q:=fun z H=>Q (.int z) H) hm0 fun r hr=>kl r hr
    ·refine ⟨_,rfl,_,_,rfl,rfl,pos1,_,rfl,_,_,rfl,rfl,.inl ⟨by decide,by decide⟩,_,rfl,_,_,rfl,rfl,.inr spOk,_,_,rfl,rfl,_,rfl,_,_,rfl,rfl,.inl ⟨by decide,by decide⟩,_,_,rfl,rfl,_,_,rfl,rfl,_,_,rfl,rfl,.inr ⟨by decide,by decide⟩,_,_,rfl,rfl,pos2,?_⟩
     refine ⟨_,rfl,_,rfl,_,_,rfl,rfl,_,_,rfl,rfl,.inl w0a,_,_,rfl,rfl,pos1,_,_,rfl,rfl,dv64,_,rfl,_,_,rfl,rfl,hm0,?_⟩
     exact drawn (Q:=fun z H=>Q (.int z) H) hm0 fun r hr=>kl r hr
end
def SNum:ASp:=fun ss q=>∃ w:Str,ss = [.vl (.str w)]∧w.length ≤ 1000000∧q (.d (numD w)) [.vl (.str w)]
def b0w (word row:Str):List Nat:=match Txt.split row (Str.ofString " ") with
 | []=>[]
 | a :: os=>if a = word∧os.all (fun o=>(numW o).isSome) = true then os.filterMap numW else []
def y0o:ASp:=fun ss q=>∃ word row:Str,ss = [.vl (.str word),.vl (.str row)]∧row.length ≤ 15990∧((∃ r,r = R.f (a0y (b0w word row))∧q r [.vl (.str word),.vl (.str row)]))
def x0d:ASp:=fun ss q=>∃ t:Str,ss = [.vl (.str t)]∧t.length ≤ 1000000∧q (.f ((Txt.split t (Str.ofString "\n")).map D.str)) [.vl (.str t)]
theorem lg {k:Nat} (h:k < 1000):(k:Int).natAbs.log2 < 1920:=by
 rw [Int.natAbs_natCast]
 by_cases h0:k = 0
 ·subst h0; decide
 ·have:=(Nat.log2_lt h0).mpr (show k < 2 ^ 10 by omega)
  omega
theorem u0b:∀ {os:List Str},os.all (fun o=>(numW o).isSome) = true→os.map numD = a0y (os.filterMap numW)
 | [],_=>rfl
 | o :: os,h=>by
  rw [List.all_cons,Bool.and_eq_true] at h
  cases e:numW o with
  | none=>rw [e] at h; cases h.1
  | some n =>
   rw [List.map_cons,List.filterMap_cons,e,u0b h.2]
   unfold numD
   rw [e]
   rfl
def risB:List Nat→Bool
 | []=>true
 | [_]=>true
 | a :: b :: r=>decide (a < b) && risB (b :: r)
def isG (m:Nat) (xs:List Nat):Bool:=!xs.isEmpty && (risB xs && decide (xs.getLast?.getD 0 < m))
theorem g0u:∀ {xs:List Nat},risB xs = true↔xs.Pairwise (· < ·)
 | []=>by simp [risB]
 | [a]=>by simp [risB]
 | a :: b :: r=>by
  rw [risB,Bool.and_eq_true,g0u,decide_eq_true_eq,List.pairwise_cons (a:=a)]
  constructor
  ·rintro ⟨h1,h2⟩
   refine ⟨fun x hx=>?_,h2⟩
   rcases List.mem_cons.mp hx with rfl | hx
   ·exact h1
   ·have:=(List.pairwise_cons.mp h2).1 x hx
    omega
  ·rintro ⟨h1,h2⟩
   exact ⟨h1 b (.head _),h2⟩
theorem o0l {m:Nat} {xs:List Nat} (h:isG m xs = true):xs ≠ []∧xs.Pairwise (· < ·)∧∀ x ∈ xs,x < m:=by
 unfold isG at h
 rw [Bool.and_eq_true,Bool.and_eq_true,g0u,decide_eq_true_eq] at h
 obtain ⟨h0,h1,h2⟩:=h
 have hne:xs ≠ []:=fun z=>by rw [z] at h0; cases h0
 refine ⟨hne,h1,fun x hx=>?_⟩
 have hl:xs.getLast?.getD 0 = xs.getLast hne:=by rw [List.getLast?_eq_some_getLast hne]; rfl
 rw [hl] at h2
 have key:∀ (xs:List Nat) (hn:xs ≠ []),xs.Pairwise (· < ·)→∀ x ∈ xs,x ≤ xs.getLast hn:=by
  intro xs
  induction xs with
  | nil=>intro hn; exact absurd rfl hn
  | cons a r ih =>
   intro hn hp x hx
   obtain ⟨p1,p2⟩:=List.pairwise_cons.mp hp
   cases r with
   | nil=>rw [List.mem_singleton.mp hx]; exact Nat.le_refl _
   | cons b r =>
    rw [List.getLast_cons (by simp)]
    rcases List.mem_cons.mp hx with rfl | hx
    ·have:=p1 b (.head _)
     have:=ih (by simp) p2 b (.head _)
     omega
    ·exact ih (by simp) p2 x hx
 have:=key xs hne h1 x hx
 omega
theorem n1r {m:Nat} {xs:List Nat} (hn:xs ≠ []) (hp:xs.Pairwise (· < ·)) (hl:∀ x ∈ xs,x < m):isG m xs = true:=by
 unfold isG
 rw [g0u.mpr hp,Bool.true_and,Bool.and_eq_true,decide_eq_true_eq]
 refine ⟨by cases xs <;> simp_all,?_⟩
 rw [List.getLast?_eq_some_getLast hn]
 exact hl _ (List.getLast_mem hn)
def n0r (word:Str) (t:Str):Option Nat:=match Txt.split t (Str.ofString "\n") with
 | []=>none
 | r :: _=>if (b0w word r).length = 1∧1 ≤ (b0w word r).getD 0 0∧(b0w word r).getD 0 0 ≤ 12 then some ((b0w word r).getD 0 0) else none
def h0e (m:Nat) (S:List Nat) (row:Str):Option (List Nat):=if S.length = 24 ∨ isG m (b0w (Str.ofString "row") row) = false then none else some (S ++ [c0t (b0w (Str.ofString "row") row)])
def runW (m:Nat) (S:List Nat):List Str→Nat→Sum Nat (List Nat)
 | [],_=>.inr S
 | r :: rs,k=>match h0e m S r with
  | none=>.inl k
  | some S'=>runW m S' rs (k + 1)
def f0w (t:Str):Sum Nat (Nat × List Nat):=match n0r (Str.ofString "wish") t with
 | none=>.inl 0
 | some m=>match runW m [] (Txt.split t (Str.ofString "\n")).tail 1 with
  | .inl k=>.inl k
  | .inr S=>if S = [] then .inl (Txt.split t (Str.ofString "\n")).length else .inr (m,S)
def i0z (m:Nat) (rows:List Nat):D:=.tup [nD m,.tup (a0y rows)]
def Few (t:Str):Prop:=∀ row ∈ Txt.split t (Str.ofString "\n"),(b0w (Str.ofString "row") row).length < 60
def g1k:ASp:=fun ss q=>∃ (word row:Str) (m:Nat),ss = [.vl (.str word),.vl (.str row)]∧row.length ≤ 15990∧b0w word row = [m]∧1 ≤ m∧m ≤ 12∧q (.d (nD m)) [.vl (.str word),.vl (.str row)]
def d1p:ASp:=fun ss q=>∃ (word row:Str),ss = [.vl (.str word),.vl (.str row)]∧row.length ≤ 15990∧¬ ((b0w word row).length = 1∧1 ≤ (b0w word row).getD 0 0∧(b0w word row).getD 0 0 ≤ 12)∧q (.d (nD 0)) [.vl (.str word),.vl (.str row)]
def d1m:ASp:=fun ss q=>∃ (s0:Sv) (rows:List D) (s1:Sv) (os:List D),ss = [s0,s1]∧u0q s0 rows∧u0q s1 os∧os ≠ []∧q (.d .non) [s0,s1]
def v0g:ASp:=fun ss q=>∃ (s0:Sv) (rows:List D) (s1:Sv),ss = [s0,s1]∧u0q s0 rows∧u0q s1 []∧rows.length < 20000∧q (.d (nD rows.length)) [s0,s1]
def x0e:ASp:=fun ss q=>∃ (xs:List Nat) (s0:Sv),ss = [s0]∧u0q s0 (a0y xs)∧(∀ x ∈ xs,x < 60)∧q (.d (nD (c0t xs))) [s0]
def g1l:ASp:=fun ss q=>∃ (m:Nat) (xs:List Nat) (s1:Sv),ss = [nv m,s1]∧u0q s1 (a0y xs)∧xs.length < 60∧q (.d (.bl (isG m xs))) [nv m,s1]
def x0f:ASp:=fun ss q=>∃ (t:Str) (m:Nat) (rows:List Nat),ss = [.vl (.str t)]∧t.length ≤ 15990∧Few t∧f0w t = .inr (m,rows)∧q (.d (i0z m rows)) [.vl (.str t)]
def v0h:ASp:=fun ss q=>∃ (t:Str) (k:Nat),ss = [.vl (.str t)]∧t.length ≤ 15990∧Few t∧f0w t = .inl k∧q (.d (nD k)) [.vl (.str t)]
theorem q0t {α:Type} {xs:List α} {k:Nat} {x:α} (h:xs[k]? = some x):xs.take (k + 1) = xs.take k ++ [x]:=by rw [List.take_succ,h]; rfl
theorem d1y {i j:Nat} {d1 d2:D} {ρ:En} {k:En→Prop} (h:k (pt (pt ρ i (.vl d1)) j (.vl d2))):k1i 2 (b1z (s0n i) (b1z (s0n j) gaNil)) (.tup [d1,d2]) ρ k:=h
theorem s0i (xs:List Nat):(xs.map fun x=>((x:Nat):Int)).map D.int = a0y xs:=by rw [List.map_map]; rfl
theorem k0h {xs:List Nat}:(xs.map fun x=>((x:Nat):Int)).Pairwise (· < ·)↔xs.Pairwise (· < ·):=by
 rw [List.pairwise_map]
 constructor <;> intro h <;> exact h.imp fun {a b} z=>by omega
theorem depth_nats (xs:List Nat):(D.lst (a0y xs)).depth ≤ 60:=by
 have h:depths (a0y xs) = 0:=by
  unfold a0y
  induction xs with
  | nil=>rfl
  | cons x xs ih=>simp [depths,D.depth,ih]
 simp [D.depth,h]
theorem eqDs_ints:∀ {xs ys:List Int},eqDs (xs.map D.int) (ys.map D.int) = true→xs = ys
 | [],[],_=>rfl
 | [],y :: ys,h=>by simp [eqDs] at h
 | x :: xs,[],h=>by simp [eqDs] at h
 | x :: xs,y :: ys,h=>by
  simp only [List.map_cons,eqDs,Bool.and_eq_true] at h
  have h1:x = y:=by simpa [eqD] using h.1
  rw [h1,eqDs_ints h.2]
theorem l0h {xs ys:List Int} (h:eqD (.lst (xs.map D.int)) (.lst (ys.map D.int)) = true):xs = ys:=eqDs_ints (by simpa [eqD] using h)
theorem d1e (xs:List Nat) (hn:xs ≠ []):atI (a0y xs) (-1) = some (nD (xs.getLast?.getD 0)):=by
 have hl:0 < xs.length:=List.length_pos_iff.mpr hn
 unfold atI ixN
 rw [if_neg (by decide),b0j,if_pos (by omega)]
 rw [List.getLast?_eq_getElem?]
 have e:((-1:Int) + (xs.length:Int)).toNat = xs.length - 1:=by omega
 simp only [a0y,e,Option.bind_some]
 rw [List.getElem?_map,List.getElem?_eq_getElem (by omega)]
 rfl
section
variable {P:Program} {w:World} {K:PySem.W.Frag} {mg:Str→Option Value} {base:Heap}
theorem j0h {C_NoText C_JoinError f_NoText:Addr} (i_n:y0p K C_NoText f_NoText "row" "NoText.__init__" d0u ["self", "row"]) (b:y0q K C_JoinError) (B:BI mg) (m:mg "JoinError" = some (.ref C_JoinError)) :
  ∃ fd,n0s K fd ["self", "row"] []∧FnOk P w K mg base CX0 1 f_NoText fd ["self", "row"] (spIP C_NoText "row"):=by
 obtain ⟨fd,F,hb⟩:=i_n.fn
 refine ⟨fd,.all hb,F.ok (k:=0) x0p (fun vs H Q E h=>by obtain ⟨e,n,rfl,_⟩:=h; rfl) (fun cdv A outer s H vs Q E hr h=>?_)⟩
 obtain ⟨e,n,rfl,hn,he,hq⟩:=h
 refine ⟨_,a0f (h0n (e1r (C:=C_NoText) b (y0g i_n.xi.cl) m (a0c (pv 0) (a0c (r0e (m0n a0s (m0n (h1i (pv 1)) (m0n a0s h1h)))) a0e)))) (a0m (j1g i_n.xi (pv 1) (pv 0))),?_⟩
 refine ⟨.ref e,rfl,j3 (by decide +kernel) (by decide +kernel) hn rfl fun t=>⟨e,none,_,rfl,he,.int n,rfl,e,rfl,he,hq⟩⟩
theorem r0m (dn:DefN K mg "number_of" g0q ["word"]) (B:BI mg) (c_MOST_FIGURES:∃ u,mg "MOST_FIGURES" = some u∧RelV (.int 3) u):OkN P w K mg base 1 "number_of" ["word"] (spA K SNum):=by
 refine dn.aok2 (k:=0) k0z (fun j=>j == 0) [.un] SNum rfl (fun f cdv A outer s H E hr=>have hu:=d0r hr; ⟨_,(a0f (d0q (PW.pt (h0f (a0x x0s (a0r e0p rfl B.len_ c0z (a0c (pv 0) a0e)) (a1m c_MOST_FIGURES rfl) (b0e _)) (h0f (e0v (i0r (t0s K PySem.F.plainAttrs_str PySem.F.slot_str_isascii PySem.F.type_str_isascii f1a (pv 0)))) (h0m (e0v (i0r (t0s K PySem.F.plainAttrs_str PySem.F.slot_str_isdigit PySem.F.type_str_isdigit e1z (pv 0))))))))
  (a0m (b0c h0b))
  b0m)
  (a0f (a0t (i:=1) k0z.nd rfl (by first | exact Or.inl rfl | exact Or.inr rfl) (c0o s0x rfl B.int_ w0y (a0c (pv 0) a0e)))
  (a0m (b0c (w0i (a0x (d0b K hr.units) (c0o e0o rfl B.str_ o0x (a0c (pv 1) a0e)) (pv 0) (b0e _)) (pv 1) h0b))))),(a0h (b0v (c0r (a0n (a0i d0d (b0n h0x (a0a a0b a0d)) a0g)) (c0r (c0c (h0g (z0a a0b))) (c0c (h0g (y0y a0b)))))
  (a0u e0q)
  a0v)
  (a0h (a0p (b0n s0v (a0a a0b a0d)) rfl)
  (a0u (g1u (a0n (a0i d0c (b0n h0w (a0a a0b a0d)) a0b)) a0b e0q))))⟩) ?_
 rintro ss q ⟨w,rfl,hz,hq⟩
 refine ⟨rfl,rfl,?_⟩
 refine ⟨hz,?_⟩
 by_cases h3:3 < w.length
 ·show if decide ((3:Int) < (w.length:Int)) = true then _ else _
  rw [if_pos (by simp; omega)]
  have e:numD w = .non:=by
   unfold numD
   rw [h0p fun n hn z=>by have:=(i0q n hn).1; rw [z] at this; omega]
  rw [e] at hq
  exact hq
 ·show if decide ((3:Int) < (w.length:Int)) = true then _ else _
  rw [if_neg (by simp; omega)]
  show if (!(w.cps.all fun c=>decide (c < 128))) = true then _ else _
  cases ha:w.cps.all fun c=>decide (c < 128) with
  | false =>
   have e:numD w = .non:=by
    unfold numD
    rw [h0p fun n hn z=>by have:=(i0q n hn).2.1; rw [z,ha] at this; cases this]
   rw [e] at hq
   exact hq
  | true =>
   show if (!(decide (w.length > 0) && w.cps.all Unicode.isDigit)) = true then _ else _
   cases hd:(decide (w.length > 0) && w.cps.all Unicode.isDigit) with
   | false =>
    have e:numD w = .non:=by
     unfold numD
     rw [h0p fun n hn z=>by have:=(i0q n hn).2.2.1; rw [z,hd] at this; cases this]
    rw [e] at hq
    exact hq
   | true =>
    obtain ⟨n,hn,en⟩:=figs (by omega) ha hd
    refine ⟨(n:Int),by omega,en,?_⟩
    refine ⟨lg (by omega),?_⟩
    refine b0f (d:=.str (tnI n)) (e:=.str w) (b:=tnI n == w) rfl rfl (by simp [D.depth]) (by simp [eqD]) ?_
    cases hb:tnI n == w with
    | true =>
     have e:numD w = .int (n:Nat):=by
      rw [← (by simpa using hb:tnI n = w)]
      unfold numD; rw [u0e hn]
     rw [e] at hq
     exact hq
    | false =>
     have e:numD w = .non:=by
      unfold numD
      rw [h0p fun m hm z=>by
       have h1:=(i0q m hm).2.2.2
       rw [z,en] at h1
       have h2:n = m:=by have:=Option.some.inj h1; omega
       subst h2
       rw [z] at hb
       simp at hb]
     rw [e] at hq
     exact hq
theorem k0q (dn:DefN K mg "numbers_behind" c0n ["word", "row"]) (B:BI mg) (g_number_of:OkN P w K mg base 1 "number_of" ["word"] (spA K SNum)):OkN P w K mg base 2 "numbers_behind" ["word", "row"] (spA K y0o):=by
 refine dn.aok2 (k:=1) d0a (fun j=>j == 0 || j == 1) [.un,.un,.un] y0o rfl (fun f cdv A outer s H E hr=>have hu:=d0r hr; ⟨_,(a0f (a1f (c0w K PySem.F.plainAttrs_str PySem.F.slot_str_split PySem.F.type_str_split i0h (pv 1) (a0c a0s a0e)) (e1p K rfl (b0s (i:=2) d0a.nd rfl (by first | exact Or.inl rfl | exact Or.inr rfl)) (b0s (i:=3) d0a.nd rfl (by first | exact Or.inl rfl | exact Or.inr rfl))))
  (a0f (a1e (i:=4) ["other"] [] d0a.nd rfl (by first | exact Or.inl rfl | exact Or.inr rfl) rfl (Blk.of (a0l c0n) g0e) (h0o K (pv 3)) (fun _ _ _ _ nd=>(b0s (i:=0) nd rfl (by first | exact Or.inl rfl | exact Or.inr rfl))) (fun _ _ _ _=>k0l) (fun _ _ _ _=>(b0l g_number_of (hr.mono (by decide)) (a0c (pv 0) a0e))))
  (a0m (b0c (w0i (PW.pt (w0f (a0x (d0b K hr.units) (pv 2) (pv 0) (b0e _)) (p0p (a0x (a1q K hr.units) h0b (pv 4) rfl)))) (pv 4) (c0f a0e)))))),(a0h (z0p (f0z a0b (a0a a0q a0d)) rfl rfl (by decide))
  (a0h (v0x (e0x (f0n a0b) (b0i rfl) i0a (a0k (a0a a0b a0d))) rfl)
  (a0u (g1u (p0f (a0n (a0i d0c a0b a0b)) (a0n (a0i (a1r true) e0q a0b))) a0b (b0r a0d)))))⟩) ?_
 rintro ss q ⟨word,row,rfl,hz,r,rfl,hq⟩
 refine ⟨rfl,rfl,?_⟩
 refine g0h (by decide) (by omega) ?_
 have hl:=f0d row (Str.ofString " ")
 have hp:=e0a row (Str.ofString " ")
 have hn:b0w word row = (match Txt.split row (Str.ofString " ") with
  | []=>[]
  | a :: os=>if a = word∧os.all (fun o=>(numW o).isSome) = true then os.filterMap numW else []):=rfl
 cases es:Txt.split row (Str.ofString " ") with
 | nil=>exact absurd es (b0y _ _)
 | cons a os =>
 rw [es] at hl hp hn
 dsimp only at hn
 simp only [List.length_cons] at hl
 refine ⟨os.map D.str,.str a,rfl,by rw [List.length_map]; omega,?_⟩
 refine ⟨rfl,by rw [List.length_map]; omega,g0k D.str numD (by first | rfl | trivial) (fun o acc M ho hM=>⟨rfl,o,rfl,by have:=hp o (.tail _ ho); omega,hM⟩) ?_⟩
 refine b0f (d:=.str a) (e:=.str word) (b:=a == word) rfl rfl (by simp [D.depth]) (by simp [eqD]) ?_
 cases hb:a == word with
 | false =>
  rw [if_neg (fun z=>by rw [z.1] at hb; simp at hb)] at hn
  rw [hn] at hq
  exact ⟨by decide,hq⟩
 | true =>
  have ha:a = word:=by simpa using hb
  refine u0u (ds:=os.map numD) rfl (fun e he=>?_) ?_
  ·obtain ⟨o,_,rfl⟩:=List.mem_map.mp he
   unfold numD; split <;> simp [D.depth]
  ·have ev:((os.map numD).any i0v) = !(os.all fun o=>(numW o).isSome):=by
    rw [List.any_map,List.not_all_eq_any_not]
    congr 1
    funext o
    show i0v (numD o) = _
    unfold numD
    cases numW o <;> rfl
   rw [ev]
   cases h2:os.all fun o=>(numW o).isSome with
   | false =>
    rw [if_neg (fun z=>by rw [h2] at z; cases z.2)] at hn
    rw [hn] at hq
    exact ⟨by decide,hq⟩
   | true =>
    rw [if_pos ⟨ha,h2⟩] at hn
    have el:os.map numD = a0y (os.filterMap numW):=u0b h2
    rw [hn,← el] at hq
    exact hq
theorem r0j (dn:DefN K mg "text_rows" g0p ["text"]) (B:BI mg):OkN P w K mg base 1 "text_rows" ["text"] (spA K x0d):=by
 refine dn.aok2 (k:=0) q0y (fun j=>j == 0) [] x0d rfl (fun f cdv A outer s H E hr=>have hu:=d0r hr; ⟨_,(a0f (d0q (e0v (i0r (a0r (h0y K) rfl B.isinstance_ a0w (a0c (pv 0) (a0c (x0r rfl B.str_ o0x) a0e)))))
  (a0m l0w)
  b0m)
  (a0m (b0c (c0w K PySem.F.plainAttrs_str PySem.F.slot_str_split PySem.F.type_str_split i0h (pv 0) (a0c a0s a0e))))),(a0h (b0v (c0c (h0g (b0n k0f (a0a a0b (a0a q0r a0d)))))
  g0a
  a0v)
  (a0u (f0z a0b (a0a a0q a0d))))⟩) ?_
 rintro ss q ⟨t,rfl,hz,hq⟩
 refine ⟨rfl,rfl,?_⟩
 refine f0l (d:=.str t) (b:=true) rfl s0d ?_
 exact g0h (by decide) hz hq
theorem a1v (dn:DefN K mg "joined" l0t ["one", "other"]) (B:BI mg):OkN P w K mg base 1 "joined" ["one", "other"] (spA K v0i):=by
 refine dn.aok2 (k:=0) z0v (fun j=>j == 0 || j == 1) [] v0i rfl (fun f cdv A outer s H E hr=>have hu:=d0r hr; ⟨_,(a0m (b0c (a0z h1j (pv 0) (pv 1)))),(a0u (a0i b0o a0b a0b))⟩) ?_
 rintro ss q ⟨x,y,rfl,hq⟩
 refine ⟨rfl,rfl,?_⟩
 show q (.d (.int (Builtin.bitXor x y))) [nv x,nv y]
 rw [y0r]; exact hq
theorem a1u (dn:DefN K mg "row_of" l0s ["givens"]) (B:BI mg) (g_joined:OkN P w K mg base 1 "joined" ["one", "other"] (spA K v0i)):OkN P w K mg base 2 "row_of" ["givens"] (spA K x0e):=by
 refine dn.aok2 (k:=1) j0n (fun j=>j == 0) [.un,.un] x0e rfl (fun f cdv A outer s H E hr=>have hu:=d0r hr; ⟨_,(a0f (a0t (i:=1) j0n.nd rfl (by first | exact Or.inl rfl | exact Or.inr rfl) a0j)
  (a0f (o0b PassesOwn.never rfl (h0o K (pv 0)) (b0s (i:=2) j0n.nd rfl (by first | exact Or.inl rfl | exact Or.inr rfl))
  (a0m (a0t (i:=1) j0n.nd rfl (by first | exact Or.inl rfl | exact Or.inr rfl) (b0l g_joined (hr.mono (by decide)) (a0c (pv 1) (a0c (a0z m0r a0j (pv 2)) a0e))))))
  (a0m (b0c (pv 1))))),(a0h (a0p a0g rfl)
  (a0h (j0a (pin:=(fun j=>j == 0)) (f0n a0b) (b0i rfl)
  (a0p (a0k (a0a a0b (a0a (a0i g0v a0g a0b) a0d))) rfl))
  (a0u a0b)))⟩) ?_
 rintro ss q ⟨xs,s0,rfl,hs,hx,hq⟩
 rcases hs with rfl | rfl
 ·refine ⟨rfl,rfl,rfl,?_⟩
  refine q0f nD (fun k ρ=>∃ s2,ρ = [.ow (a0y xs),nv (c0t (xs.take k)),s2]) (fun k ρ ⟨_,e⟩=>e ▸ rfl) ?_ ?_ ⟨.un,rfl⟩
  ·rintro k x _ M hk ⟨s2,rfl⟩ hM
   have hx':=hx x (List.mem_of_getElem? hk)
   refine ⟨⟨by omega,by omega,by decide⟩,rfl,c0t (xs.take k),1 <<< x,by rw [← u0a (j0b x)]; rfl,hM _ ⟨nv x,?_⟩⟩
   rw [q0t hk,k0j]; rfl
  ·rintro _ ⟨s2,rfl⟩
   rw [List.take_length]; exact hq
 ·refine ⟨rfl,rfl,?_⟩
  refine q0f nD (fun k ρ=>∃ s2,ρ = [.vl (.lst (a0y xs)),nv (c0t (xs.take k)),s2]) (fun _ _ _=>trivial) ?_ ?_ ⟨.un,rfl⟩
  ·rintro k x _ M hk ⟨s2,rfl⟩ hM
   have hx':=hx x (List.mem_of_getElem? hk)
   refine ⟨⟨by omega,by omega,by decide⟩,rfl,c0t (xs.take k),1 <<< x,by rw [← u0a (j0b x)]; rfl,hM _ ⟨nv x,?_⟩⟩
   rw [q0t hk,k0j]; rfl
  ·rintro _ ⟨s2,rfl⟩
   rw [List.take_length]; exact hq
theorem r0l (dn:DefN K mg "read_many" f0h ["word", "row"]) (B:BI mg) (g_numbers_behind:OkN P w K mg base 2 "numbers_behind" ["word", "row"] (spA K y0o)) (c_MOST_GIVENS:∃ u,mg "MOST_GIVENS" = some u∧RelV (.int 12) u):OkN P w K mg base 3 "read_many" ["word", "row"] (spA K g1k):=by
 refine dn.aok2 (k:=2) f0o (fun j=>j == 0 || j == 1) [.un] g1k rfl (fun f cdv A outer s H E hr=>have hu:=d0r hr; ⟨_,(a0f (a0t (i:=2) f0o.nd rfl (by first | exact Or.inl rfl | exact Or.inr rfl) (b0l g_numbers_behind (hr.mono (by decide)) (a0c (pv 0) (a0c (pv 1) a0e))))
  (a0f (d0q (PW.pt (h0f (a0x (j0q K hr.units) (a0r (b0p K) rfl B.len_ c0z (a0c (pv 2) a0e)) a0j (b0e _)) (h0m (e0v (l0v r0h r0h a0j (e0c (b0q K) (pv 2) a0j (fun _ _=>rfl)) (a1m c_MOST_GIVENS rfl))))))
  (a0m l0w)
  b0m)
  (a0m (b0c (e0c (b0q K) (pv 2) a0j (fun _ _=>rfl)))))),(a0h (a0p (a0k (a0a a0b (a0a a0b a0d))) rfl)
  (a0h (b0v (c0r (a0n (a0i j0r (b0n c0k (a0a a0b a0d)) a0g)) (c0c (a0n (j0j d0d d0d a0g (a0i c0g a0b a0g) a0g))))
  g0a
  a0v)
  (a0u (a0i c0g a0b a0g))))⟩) ?_
 rintro ss q ⟨word,row,m,rfl,hz,hn,h1,h2,hq⟩
 refine ⟨rfl,rfl,?_⟩
 refine ⟨rfl,word,row,rfl,hz,_,rfl,?_⟩
 rw [hn]
 refine b0f (neg:=true) (d:=.int 1) (e:=.int 1) (b:=true) rfl rfl (by simp [D.depth]) rfl ?_
 refine i0i (xs:=[m]) (i:=0) rfl (by simp) ?_
 show if decide ((1:Int) ≤ (m:Int)) = true then _ else _
 rw [if_pos (by simp; omega)]
 show if (!decide ((m:Int) ≤ 12)) = true then _ else _
 rw [if_neg (by simp; omega)]
 exact i0i (xs:=[m]) (i:=0) rfl (by simp) hq
theorem i0n {C_NoText C_JoinError f_NoText:Addr} (m_NoText:mg "NoText" = some (.ref C_NoText)) (m_JoinError:mg "JoinError" = some (.ref C_JoinError)) (in_NoText:y0p K C_NoText f_NoText "row" "NoText.__init__" d0u ["self", "row"]) (bs_JoinError:y0q K C_JoinError) (dn:DefN K mg "read_many" f0h ["word", "row"]) (B:BI mg) (g_numbers_behind:OkN P w K mg base 2 "numbers_behind" ["word", "row"] (spA K y0o)) (c_MOST_GIVENS:∃ u,mg "MOST_GIVENS" = some u∧RelV (.int 12) u):OkX P w K mg base 3 "read_many" ["word", "row"] C_NoText (some "row") (spA K d1p):=by
 obtain ⟨fd_NoText,bi_NoText,fi_NoText⟩:=j0h (P:=P) (w:=w) (base:=base) in_NoText bs_JoinError B m_JoinError
 refine dn.aokX (k:=2) f0o (fun j=>j == 0 || j == 1) [.un] d1p C_NoText (some "row") rfl (fun f cdv A outer s H E hr=>have hu:=d0r hr; ⟨_,(b0z (o0a (a0t (i:=2) f0o.nd rfl (by first | exact Or.inl rfl | exact Or.inr rfl) (b0l g_numbers_behind (hr.mono (by decide)) (a0c (pv 0) (a0c (pv 1) a0e)))))
  (b0z (a1d (PW.pt (h0f (a0x (j0q K hr.units) (a0r (b0p K) rfl B.len_ c0z (a0c (pv 2) a0e)) a0j (b0e _)) (h0m (e0v (l0v r0h r0h a0j (e0c (b0q K) (pv 2) a0j (fun _ _=>rfl)) (a1m c_MOST_GIVENS rfl))))))
  (b0z (k0m tie1 rfl m_NoText in_NoText.xi fi_NoText (hr.mono (by decide)) bi_NoText a0j)
  f0r)
  f0r)
  n0z)),(a0h (a0p (a0k (a0a a0b (a0a a0b a0d))) rfl)
  (a0h (b0v (c0r (a0n (a0i j0r (b0n c0k (a0a a0b a0d)) a0g)) (c0c (a0n (j0j d0d d0d a0g (a0i c0g a0b a0g) a0g))))
  (a0h (k0i a0g)
  a0v)
  a0v)
  g0a))⟩) ?_
 rintro ss q ⟨word,row,rfl,hz,hn,hq⟩
 refine ⟨rfl,rfl,?_⟩
 refine ⟨rfl,word,row,rfl,hz,_,rfl,?_⟩
 by_cases h1:(b0w word row).length = 1
 ·obtain ⟨m,em⟩:∃ m,b0w word row = [m]:=by
   match b0w word row,h1 with
   | [m],_=>exact ⟨m,rfl⟩
  rw [em] at hn ⊢
  have hm:¬ (1 ≤ m∧m ≤ 12):=fun z=>hn ⟨rfl,z⟩
  refine b0f (neg:=true) (d:=.int 1) (e:=.int 1) (b:=true) rfl rfl (by simp [D.depth]) rfl ?_
  refine i0i (xs:=[m]) (i:=0) rfl (by simp) ?_
  show if decide ((1:Int) ≤ (m:Int)) = true then _ else _
  by_cases a1:1 ≤ m
  ·rw [if_pos (by simp; omega)]
   show if (!decide ((m:Int) ≤ 12)) = true then _ else _
   rw [if_pos (by simp; omega)]
   exact ⟨⟨by decide,by decide⟩,⟨_,rfl⟩,hq⟩
  ·rw [if_neg (by simp; omega)]
   exact ⟨⟨by decide,by decide⟩,⟨_,rfl⟩,hq⟩
 ·refine b0f (neg:=true) (d:=.int (((a0y (b0w word row)).length:Nat):Int)) (e:=.int 1) (b:=false) rfl rfl (by simp [D.depth]) (by simp [eqD,b0j]; omega) ?_
  exact ⟨⟨by decide,by decide⟩,⟨_,rfl⟩,hq⟩
theorem k0p (dn:DefN K mg "refuse_unended" c0m ["rows", "told"]) (B:BI mg):OkN P w K mg base 1 "refuse_unended" ["rows", "told"] (spA K d1m):=by
 refine dn.aok2 (k:=0) g0b (fun j=>j == 0 || j == 1) [] d1m rfl (fun f cdv A outer s H E hr=>have hu:=d0r hr; ⟨_,(a0m (d0q (e0v (m0m K (pv 1) (fun _=>rfl)))
  (a0m l0w)
  b0m)),(b0v (c0c (p0e a0b))
  g0a
  a0v)⟩) ?_
 rintro ss q ⟨s0,rows,s1,os,rfl,h0,h1,hn,hq⟩
 rcases h0 with rfl | rfl <;> rcases h1 with rfl | rfl <;>
 ·refine ⟨rfl,rfl,?_⟩
  cases os with
  | nil=>exact absurd rfl hn
  | cons d ds=>exact hq
theorem f0x {C_NoText C_JoinError f_NoText:Addr} (m_NoText:mg "NoText" = some (.ref C_NoText)) (m_JoinError:mg "JoinError" = some (.ref C_JoinError)) (in_NoText:y0p K C_NoText f_NoText "row" "NoText.__init__" d0u ["self", "row"]) (bs_JoinError:y0q K C_JoinError) (dn:DefN K mg "refuse_unended" c0m ["rows", "told"]) (B:BI mg):OkX P w K mg base 3 "refuse_unended" ["rows", "told"] C_NoText (some "row") (spA K v0g):=by
 obtain ⟨fd_NoText,bi_NoText,fi_NoText⟩:=j0h (P:=P) (w:=w) (base:=base) in_NoText bs_JoinError B m_JoinError
 refine dn.aokX (k:=2) g0b (fun j=>j == 0 || j == 1) [] v0g C_NoText (some "row") rfl (fun f cdv A outer s H E hr=>have hu:=d0r hr; ⟨_,(b0z (a1d (e0v (m0m K (pv 1) (fun _=>rfl)))
  (b0z (k0m tie1 rfl m_NoText in_NoText.xi fi_NoText (hr.mono (by decide)) bi_NoText (a0r (b0p K) rfl B.len_ c0z (a0c (pv 0) a0e)))
  f0r)
  f0r)
  f0r),(a0h (b0v (c0c (p0e a0b))
  (a0h (k0i (b0n c0k (a0a a0b a0d)))
  a0v)
  a0v)
  a0v)⟩) ?_
 rintro ss q ⟨s0,rows,s1,rfl,h0,h1,hn,hq⟩
 rcases h0 with rfl | rfl <;> rcases h1 with rfl | rfl <;>
 ·refine ⟨rfl,rfl,?_⟩
  exact ⟨⟨by omega,by omega⟩,⟨_,rfl⟩,hq⟩
theorem p0w (dn:DefN K mg "are_givens" f0p ["many", "numbers"]) (B:BI mg):OkN P w K mg base 1 "are_givens" ["many", "numbers"] (spA K g1l):=by
 refine dn.aok2 (k:=0) p0k (fun j=>j == 0 || j == 1) [] g1l rfl (fun f cdv A outer s H E hr=>have hu:=d0r hr; ⟨_,(a0m (b0c (i0t (c0o (y0k K) rfl B.bool_ c1z (a0c (pv 1) a0e)) (i0t (k0n (d0b K hr.units) (pv 1) (o0e K rfl rfl B.sorted_ rfl B.set_ (a0c (pv 1) a0e)) (b0e _)) (o0f (k0n e1u (e0c (b0q K) (pv 1) (m1q g1s a0j) (fun _ _=>rfl)) (pv 0) (b0e _))))))),(a0u (e0f (b0n y0j (a0a a0b a0d)) (e0f (a0i d0c a0b (m0d (a0a a0b a0d))) (a0i d0d (a0i c0g a0b (y0x a0g)) a0b))))⟩) ?_
 rintro ss q ⟨m,xs,s1,rfl,hs,hl,hq⟩
 rcases hs with rfl | rfl <;>
 ·refine ⟨rfl,rfl,?_⟩
  refine c1c (ds:=a0y xs) rfl ?_
  cases xs with
  | nil=>exact hq
  | cons x xr =>
   show if true = true then _ else _
   rw [if_pos rfl]
   have hv:=s0i (x :: xr)
   refine n0c (ns:=(x :: xr).map fun y=>((y:Nat):Int)) (by rw [hv]; rfl) (by rw [List.length_map]; omega) fun ns' hp hm=>?_
   have hb:eqD (.lst (a0y (x :: xr))) (.lst (ns'.map D.int)) = risB (x :: xr):=by
    cases hr:risB (x :: xr) with
    | true =>
     have e:ns' = (x :: xr).map fun y=>((y:Nat):Int):=j0o hp (k0h.mpr (g0u.mp hr)) hm
     rw [e,hv]; exact e0z _
    | false =>
     rw [Bool.eq_false_iff]
     intro z
     have e:=l0h (xs:=(x :: xr).map fun y=>((y:Nat):Int)) (ys:=ns') (by rw [hv]; exact z)
     rw [← e] at hp
     rw [g0u.mpr (k0h.mp hp)] at hr
     cases hr
   refine b0f (d:=.lst (a0y (x :: xr))) (e:=.lst (ns'.map D.int)) (b:=risB (x :: xr)) rfl rfl (depth_nats _) hb ?_
   unfold isG at hq
   simp only [List.isEmpty_cons,Bool.not_false,Bool.true_and] at hq
   cases hr:risB (x :: xr) with
   | false=>rw [hr] at hq; exact hq
   | true =>
    rw [hr,Bool.true_and] at hq
    show if true = true then _ else _
    rw [if_pos rfl]
    refine g0i (i:=-1) (ds:=a0y (x :: xr)) (d:=nD ((x :: xr).getLast?.getD 0)) rfl (d1e _ (by simp)) ?_
    show q (.d (.bl (decide (((((x :: xr).getLast?.getD 0:Nat)):Int) < ((m:Nat):Int))))) _
    rw [show decide (((((x :: xr).getLast?.getD 0:Nat)):Int) < ((m:Nat):Int)) = decide ((x :: xr).getLast?.getD 0 < m) by rw [decide_eq_decide]; omega]
    exact hq
end
section
variable {c:En→Prop} {g:AG} {b:AS} {e:AEnds}
theorem q0e {m:Nat} (J:List Nat→En→Prop) (hc:∀ S ρ,J S ρ→c ρ):∀ (rs:List Str) (k:Nat) (S S':List Nat) (ρ:En),runW m S rs k = .inr S' →
  (∀ (k:Nat) (row:Str) (S S2:List Nat) (ρ:En) (N:En→Prop),row ∈ rs→h0e m S row = some S2→J S ρ→(∀ ρ',J S2 ρ'→N ρ')→g (.tup [.int (k:Nat),.str row]) ρ fun ρ1=>b { nx:=N,ct:=N,bk:=e.nx,rt:=e.rt } ρ1) →
  (∀ ρ,J S' ρ→e.nx ρ)→J S ρ→forA c g b e (k0b k (rs.map D.str)) ρ
 | [],k,S,S',ρ,h,_,hd,hj=>by
  simp only [runW,Sum.inr.injEq] at h
  subst h
  exact ⟨hc _ _ hj,hd _ hj⟩
 | r :: rs,k,S,S',ρ,h,hs,hd,hj=>by
  unfold runW at h
  split at h
  ·cases h
  ·rename_i S2 e2
   refine ⟨hc _ _ hj,hs k r S S2 ρ _ (.head _) e2 hj fun ρ' hj'=>?_⟩
   exact q0e J hc rs (k + 1) S2 S' ρ' h (fun k row S S2 ρ N hm=>hs k row S S2 ρ N (.tail _ hm)) hd hj'
theorem w0w {m:Nat} (J:List Nat→En→Prop) (hc:∀ S ρ,J S ρ→c ρ) (k':Nat):∀ (rs:List Str) (k:Nat) (S:List Nat) (ρ:En),runW m S rs k = .inl k' →
  (∀ (k:Nat) (row:Str) (S S2:List Nat) (ρ:En) (N:En→Prop),row ∈ rs→h0e m S row = some S2→J S ρ→(∀ ρ',J S2 ρ'→N ρ')→g (.tup [.int (k:Nat),.str row]) ρ fun ρ1=>b { nx:=N,ct:=N,bk:=e.nx,rt:=e.rt } ρ1) →
  (∀ (row:Str) (S:List Nat) (ρ:En) (N:En→Prop),row ∈ rs→h0e m S row = none→J S ρ→g (.tup [.int (k':Nat),.str row]) ρ fun ρ1=>b { nx:=N,ct:=N,bk:=e.nx,rt:=e.rt } ρ1)→J S ρ→forA c g b e (k0b k (rs.map D.str)) ρ
 | [],k,S,ρ,h,_,_,hj=>by simp only [runW] at h; cases h
 | r :: rs,k,S,ρ,h,hs,hn,hj=>by
  unfold runW at h
  split at h
  ·rename_i e2
   cases h
   exact ⟨hc _ _ hj,hn r S ρ _ (.head _) e2 hj⟩
  ·rename_i S2 e2
   refine ⟨hc _ _ hj,hs k r S S2 ρ _ (.head _) e2 hj fun ρ' hj'=>?_⟩
   exact w0w J hc k' rs (k + 1) S2 ρ' h (fun k row S S2 ρ N hm=>hs k row S S2 ρ N (.tail _ hm)) (fun row S ρ N hm=>hn row S ρ N (.tail _ hm)) hj'
end
theorem z0w {m:Nat}:∀ (rs:List Str) (k:Nat) (S:List Nat) (k':Nat),runW m S rs k = .inl k'→k' < k + rs.length
 | [],k,S,k',h=>by simp only [runW] at h; cases h
 | r :: rs,k,S,k',h=>by
  unfold runW at h
  split at h
  ·cases h; simp
  ·have:=z0w rs (k + 1) _ k' h
   simp only [List.length_cons]; omega
theorem s0j {wd t r0:Str} {rs:List Str} {m:Nat} (es:Txt.split t (Str.ofString "\n") = r0 :: rs) (h:n0r wd t = some m):b0w wd r0 = [m]∧1 ≤ m∧m ≤ 12:=by
 unfold n0r at h
 rw [es] at h
 dsimp only at h
 split at h
 ·rename_i c1
  have hm':=Option.some.inj h
  match hn:b0w wd r0,c1,hm' with
  | [x],c1,h' =>
   simp at h' c1
   subst h'
   exact ⟨rfl,c1⟩
  | [],c1,_=>simp at c1
  | _ :: _ :: _,c1,_=>simp at c1
 ·cases h
theorem b1u {wd t r0:Str} {rs:List Str} (es:Txt.split t (Str.ofString "\n") = r0 :: rs) (h:n0r wd t = none):¬ ((b0w wd r0).length = 1∧1 ≤ (b0w wd r0).getD 0 0∧(b0w wd r0).getD 0 0 ≤ 12):=by
 unfold n0r at h
 rw [es] at h
 dsimp only at h
 split at h
 ·cases h
 ·rename_i c1; exact c1
theorem r0c {t r0:Str} {rs:List Str} {m:Nat} {S:List Nat} (es:Txt.split t (Str.ofString "\n") = r0 :: rs) (h:f0w t = .inr (m,S)):b0w (Str.ofString "wish") r0 = [m]∧1 ≤ m∧m ≤ 12∧runW m [] rs 1 = .inr S∧S ≠ []:=by
 unfold f0w at h
 split at h
 ·cases h
 ·rename_i m' hm
  obtain ⟨a1,a2,a3⟩:=s0j es hm
  rw [es] at h
  dsimp only [List.tail] at h
  split at h
  ·cases h
  ·rename_i S' hS
   split at h
   ·cases h
   ·rename_i hos
    cases h
    exact ⟨a1,a2,a3,hS,hos⟩
theorem a1b {t r0:Str} {rs:List Str} {k:Nat} (es:Txt.split t (Str.ofString "\n") = r0 :: rs) (h:f0w t = .inl k) :
  (k = 0∧¬ ((b0w (Str.ofString "wish") r0).length = 1∧1 ≤ (b0w (Str.ofString "wish") r0).getD 0 0∧(b0w (Str.ofString "wish") r0).getD 0 0 ≤ 12)) ∨
  ∃ m,b0w (Str.ofString "wish") r0 = [m]∧1 ≤ m∧m ≤ 12∧(runW m [] rs 1 = .inl k ∨ (runW m [] rs 1 = .inr []∧k = (r0 :: rs).length)):=by
 unfold f0w at h
 split at h
 ·rename_i hm
  cases h
  exact .inl ⟨rfl,b1u es hm⟩
 ·rename_i m hm
  obtain ⟨a1,a2,a3⟩:=s0j es hm
  rw [es] at h
  dsimp only [List.tail] at h
  split at h
  ·rename_i k' hk
   cases h
   exact .inr ⟨m,a1,a2,a3,.inl hk⟩
  ·rename_i S hS
   split at h
   ·rename_i hos
    cases h
    subst hos
    exact .inr ⟨m,a1,a2,a3,.inr ⟨hS,rfl⟩⟩
   ·cases h
theorem at0 (d:D) (ds:List D):atI (d :: ds) 0 = some d:=by
 unfold atI ixN
 simp
theorem cut1 (d:D) (ds:List D):L2.cutD (d :: ds) (some 1) none = ds:=L2.s0u (d :: ds) 1
theorem d0p {tt:AT} {A B:AS} {e:AEnds} {ρ:En} (h:∀ k:Bool→En→Prop,k false ρ→tt ρ k) (hb:B e ρ):aIfS tt A B e ρ:=by
 unfold aIfS
 exact h _ (by simpa using hb)
theorem c0e {tt:AT} {A B:AS} {e:AEnds} {ρ:En} (h:∀ k:Bool→En→Prop,k true ρ→tt ρ k) (hb:A e ρ):aIfS tt A B e ρ:=by
 unfold aIfS
 exact h _ (by simpa using hb)
theorem j0t (xs:List Nat) (x:Nat):a0y xs ++ [nD x] = a0y (xs ++ [x]):=by simp [a0y,nD]
def JW (t:Str) (m:Nat) (rows:List D) (S:List Nat) (ρ:En):Prop:=S.length ≤ 24∧∃ s4 s5 s6,ρ = [.vl (.str t),.ow rows,nv m,.ow (a0y S),s4,s5,s6]
theorem f0a {m:Nat} {S S2:List Nat} {row:Str} (h:h0e m S row = some S2):S.length ≠ 24∧isG m (b0w (Str.ofString "row") row) = true∧S2 = S ++ [c0t (b0w (Str.ofString "row") row)]:=by
 unfold h0e at h
 split at h
 ·cases h
 ·rename_i c
  cases h
  refine ⟨fun z=>c (.inl z),?_,rfl⟩
  cases z:isG m (b0w (Str.ofString "row") row) with
  | true=>rfl
  | false=>exact absurd (.inr z) c
theorem n0x {m:Nat} {S:List Nat} {row:Str} (h:h0e m S row = none):S.length = 24 ∨ isG m (b0w (Str.ofString "row") row) = false:=by
 unfold h0e at h
 split at h
 ·rename_i c; exact c
 ·cases h
section
variable {P:Program} {w:World} {K:PySem.W.Frag} {mg:Str→Option Value} {base:Heap}
theorem r0k (dn:DefN K mg "read_wish" f0g ["text"]) (B:BI mg) (g_text_rows:OkN P w K mg base 1 "text_rows" ["text"] (spA K x0d)) (g_read_many:OkN P w K mg base 3 "read_many" ["word", "row"] (spA K g1k)) (g_refuse_unended:OkN P w K mg base 1 "refuse_unended" ["rows", "told"] (spA K d1m)) (g_numbers_behind:OkN P w K mg base 2 "numbers_behind" ["word", "row"] (spA K y0o)) (g_row_of:OkN P w K mg base 2 "row_of" ["givens"] (spA K x0e)) (g_are_givens:OkN P w K mg base 1 "are_givens" ["many", "numbers"] (spA K g1l)) (c_MOST_OUTS:∃ u,mg "MOST_OUTS" = some u∧RelV (.int 24) u):OkN P w K mg base 4 "read_wish" ["text"] (spA K x0f):=by
 refine dn.aok2 (k:=3) b0k (fun j=>j == 0) [.un,.un,.un,.un,.un,.un] x0f rfl (fun f cdv A outer s H E hr=>have hu:=d0r hr; ⟨_,(a0f (a0t (i:=1) b0k.nd rfl (by first | exact Or.inl rfl | exact Or.inr rfl) (b0l g_text_rows (hr.mono (by decide)) (a0c (pv 0) a0e)))
  (a0f (a0t (i:=2) b0k.nd rfl (by first | exact Or.inl rfl | exact Or.inr rfl) (b0l g_read_many (hr.mono (by decide)) (a0c a0s (a0c (e0c (b0q K) (pv 1) a0j (fun _ _=>rfl)) a0e))))
  (a0f (a0t (i:=3) b0k.nd rfl (by first | exact Or.inl rfl | exact Or.inr rfl) (c0f a0e))
  (a0f (o0b PassesOwn.never rfl (w0h K rfl B.enumerate_ (a0c (c0h (d0g K) (pv 1) (d0i a0j) d0j) a0e) a0j) (p0t K (n:=2) rfl (f0s (b0s (i:=4) b0k.nd rfl (by first | exact Or.inl rfl | exact Or.inr rfl)) (f0s (b0s (i:=5) b0k.nd rfl (by first | exact Or.inl rfl | exact Or.inr rfl)) p0s)))
  (a0f (a0t (i:=6) b0k.nd rfl (by first | exact Or.inl rfl | exact Or.inr rfl) (b0l g_numbers_behind (hr.mono (by decide)) (a0c a0s (a0c (pv 5) a0e))))
  (a0f (d0q (PW.pt (h0f (a0x (d0b K hr.units) (a0r (b0p K) rfl B.len_ c0z (a0c (pv 3) a0e)) (a1m c_MOST_OUTS rfl) (b0e _)) (h0m (e0v (i0r (b0l g_are_givens (hr.mono (by decide)) (a0c (pv 2) (a0c (pv 6) a0e))))))))
  (a0m l0w)
  b0m)
  (a0m (h0n (c0w K PySem.F.plainAttrs_list PySem.F.slot_list_append PySem.F.type_list_append h0q (pv 3) (a0c (b0l g_row_of (hr.mono (by decide)) (a0c (pv 6) a0e)) a0e)))))))
  (a0f (h0n (b0l g_refuse_unended (hr.mono (by decide)) (a0c (pv 1) (a0c (pv 3) a0e))))
  (a0m (b0c (r0d (a0c (pv 2) (a0c (c0o (j0i K) rfl B.tuple_ k0g (a0c (pv 3) a0e)) a0e)))))))))),(a0h (a0p (a0k (a0a a0b a0d)) rfl)
  (a0h (a0p (a0k (a0a a0q (a0a (a0i c0g a0b a0g) a0d))) rfl)
  (a0h (a0p (b0r a0d) rfl)
  (a0h (j0a (pin:=(fun _=>false)) (n0v (a0a (f0c a0b (b0x a0g) d0t) a0d) a0g) (l0q (d0l (b0i rfl) (d0l (b0i rfl) j0l (fun _ _ _=>h0s)) (fun _ _ _=>h0s)))
  (a0h (a0p (a0k (a0a a0q (a0a a0b a0d))) rfl)
  (a0h (b0v (c0r (a0n (a0i d0c (b0n c0k (a0a a0b a0d)) a0g)) (c0c (h0g (a0k (a0a a0b (a0a a0b a0d))))))
  g0a
  a0v)
  (g0n (m0e a0b (a0a (a0k (a0a a0b a0d)) a0d))))))
  (a0h (g0n (a0k (a0a a0b (a0a a0b a0d))))
  (a0u (m0c (a0a a0b (a0a (b0n k0w (a0a a0b a0d)) a0d)))))))))⟩) ?_
 rintro ss q ⟨t,m,rows,rfl,hz,hf,hr,hq⟩
 refine ⟨rfl,rfl,?_⟩
 refine ⟨rfl,t,rfl,by omega,?_⟩
 have hp:=e0a t (Str.ofString "\n")
 have hsl:=f0d t (Str.ofString "\n")
 cases es:Txt.split t (Str.ofString "\n") with
 | nil=>exact absurd es (b0y _ _)
 | cons r0 rs =>
 rw [es] at hp hsl
 simp only [List.length_cons] at hsl
 have h0l:r0.length ≤ 15990:=by have:=hp r0 (.head _); omega
 obtain ⟨a1,a2,a3,hS,hos⟩:=r0c es hr
 refine g0i (i:=0) (ds:=(r0 :: rs).map D.str) (d:=.str r0) rfl (at0 _ _) ?_
 refine ⟨rfl,Str.ofString "wish",r0,m,rfl,h0l,a1,a2,a3,?_⟩
 refine ⟨by decide,?_⟩
 dsimp only [stS,pt,back,R.frz]
 refine cutS (fun ρ=>JW t m ((r0 :: rs).map D.str) rows ρ) (fun N hN=>?_) (fun ρ' hj=>?_)
 ·refine ⟨rfl,?_⟩
  show forA _ _ _ _ (k0b 1 (L2.cutD (D.str r0 :: rs.map D.str) (some 1) none)) _
  rw [cut1]
  refine q0e (JW t m ((r0 :: rs).map D.str)) (fun _ _ _=>trivial) rs 1 _ rows _ hS (fun k row S S2 ρ N hm e2 hj hN=>?_) hN ⟨by simp,.un,.un,.un,rfl⟩
  ·skip
   obtain ⟨ok,s4,s5,s6,rfl⟩:=hj
   have hl:row.length ≤ 15990:=by have:=hp row (.tail _ hm); omega
   have hfw:=hf row (by rw [es]; exact .tail _ hm)
   refine d1y ?_
   refine ⟨rfl,Str.ofString "row",row,rfl,hl,_,rfl,?_⟩
   dsimp only [stS,pt,back,R.frz]
   obtain ⟨c1,c2,rfl⟩:=f0a e2
   show aIfS _ _ _ _ _
   refine d0p (fun k hk=>?_) ?_
   ·refine b0f (d:=.int (((a0y S).length:Nat):Int)) (e:=.int 24) (b:=false) rfl rfl (by simp [D.depth]) (by simp [eqD,b0j]; omega) ?_
    refine ⟨rfl,m,_,_,rfl,.inl rfl,hfw,?_⟩
    rw [c2]; exact hk
   ·unfold aNext; dsimp only
    obtain ⟨_,_,g3⟩:=o0l c2
    refine ⟨rfl,_,_,rfl,.inl rfl,fun x hx=>by have:=g3 x hx; omega,?_⟩
    refine ⟨by rw [b0j]; omega,?_⟩
    dsimp only [back,pt,R.frz]
    rw [j0t]
    exact hN _ ⟨by rw [List.length_append]; simp only [List.length_cons,List.length_nil]; omega,_,_,_,rfl⟩
 ·obtain ⟨ok,s4,s5,s6,rfl⟩:=hj
  refine ⟨rfl,_,_,_,_,rfl,.inl rfl,.inl rfl,?_,?_⟩
  ·intro z
   apply hos
   have:=congrArg List.length z
   rw [b0j] at this
   exact List.eq_nil_of_length_eq_zero this
  ·first
   | exact hq
   | exact ⟨by simp,hq⟩
theorem i0m {C_NoText C_JoinError f_NoText:Addr} (m_NoText:mg "NoText" = some (.ref C_NoText)) (m_JoinError:mg "JoinError" = some (.ref C_JoinError)) (in_NoText:y0p K C_NoText f_NoText "row" "NoText.__init__" d0u ["self", "row"]) (bs_JoinError:y0q K C_JoinError) (dn:DefN K mg "read_wish" f0g ["text"]) (B:BI mg) (g_text_rows:OkN P w K mg base 1 "text_rows" ["text"] (spA K x0d)) (g_read_many:OkN P w K mg base 3 "read_many" ["word", "row"] (spA K g1k)) (g_numbers_behind:OkN P w K mg base 2 "numbers_behind" ["word", "row"] (spA K y0o)) (g_row_of:OkN P w K mg base 2 "row_of" ["givens"] (spA K x0e)) (g_are_givens:OkN P w K mg base 1 "are_givens" ["many", "numbers"] (spA K g1l)) (x_read_many_NoText:OkX P w K mg base 3 "read_many" ["word", "row"] C_NoText (some "row") (spA K d1p)) (x_refuse_unended_NoText:OkX P w K mg base 3 "refuse_unended" ["rows", "told"] C_NoText (some "row") (spA K v0g)) (c_MOST_OUTS:∃ u,mg "MOST_OUTS" = some u∧RelV (.int 24) u):OkX P w K mg base 4 "read_wish" ["text"] C_NoText (some "row") (spA K v0h):=by
 obtain ⟨fd_NoText,bi_NoText,fi_NoText⟩:=j0h (P:=P) (w:=w) (base:=base) in_NoText bs_JoinError B m_JoinError
 refine dn.aokX (k:=3) b0k (fun j=>j == 0) [.un,.un,.un,.un,.un,.un] v0h C_NoText (some "row") rfl (fun f cdv A outer s H E hr=>have hu:=d0r hr; ⟨_,(b0z (o0a (a0t (i:=1) b0k.nd rfl (by first | exact Or.inl rfl | exact Or.inr rfl) (b0l g_text_rows (hr.mono (by decide)) (a0c (pv 0) a0e))))
  (b0z (m1m (j1c x_read_many_NoText (hr.mono (by decide)) m1u (a0c a0s (a0c (e0c (b0q K) (pv 1) a0j (fun _ _=>rfl)) a0e))) (o0a (a0t (i:=2) b0k.nd rfl (by first | exact Or.inl rfl | exact Or.inr rfl) (b0l g_read_many (hr.mono (by decide)) (a0c a0s (a0c (e0c (b0q K) (pv 1) a0j (fun _ _=>rfl)) a0e))))))
  (b0z (o0a (a0t (i:=3) b0k.nd rfl (by first | exact Or.inl rfl | exact Or.inr rfl) (c0f a0e)))
  (b0z (j1d rfl (w0h K rfl B.enumerate_ (a0c (c0h (d0g K) (pv 1) (d0i a0j) d0j) a0e) a0j) (p0t K (n:=2) rfl (f0s (b0s (i:=4) b0k.nd rfl (by first | exact Or.inl rfl | exact Or.inr rfl)) (f0s (b0s (i:=5) b0k.nd rfl (by first | exact Or.inl rfl | exact Or.inr rfl)) p0s)))
  (b0z (o0a (a0t (i:=6) b0k.nd rfl (by first | exact Or.inl rfl | exact Or.inr rfl) (b0l g_numbers_behind (hr.mono (by decide)) (a0c a0s (a0c (pv 5) a0e)))))
  (b0z (a1d (PW.pt (h0f (a0x (d0b K hr.units) (a0r (b0p K) rfl B.len_ c0z (a0c (pv 3) a0e)) (a1m c_MOST_OUTS rfl) (b0e _)) (h0m (e0v (i0r (b0l g_are_givens (hr.mono (by decide)) (a0c (pv 2) (a0c (pv 6) a0e))))))))
  (b0z (k0m tie2 rfl m_NoText in_NoText.xi fi_NoText (hr.mono (by decide)) bi_NoText (pv 4))
  f0r)
  f0r)
  (b0z (o0a (h0n (c0w K PySem.F.plainAttrs_list PySem.F.slot_list_append PySem.F.type_list_append h0q (pv 3) (a0c (b0l g_row_of (hr.mono (by decide)) (a0c (pv 6) a0e)) a0e))))
  f0r))))
  (b0z (e1o x_refuse_unended_NoText (hr.mono (by decide)) m1u (a0c (pv 1) (a0c (pv 3) a0e)))
  n0z))))),(a0h (a0p (a0k (a0a a0b a0d)) rfl)
  (a0h (g1z (a0u (a0k (a0a a0q (a0a (a0i c0g a0b a0g) a0d)))) (a0p (a0k (a0a a0q (a0a (a0i c0g a0b a0g) a0d))) rfl))
  (a0h (a0p (b0r a0d) rfl)
  (a0h (j0a (pin:=(fun _=>false)) (n0v (a0a (f0c a0b (b0x a0g) d0t) a0d) a0g) (l0q (d0l (b0i rfl) (d0l (b0i rfl) j0l (fun _ _ _=>h0s)) (fun _ _ _=>h0s)))
  (a0h (a0p (a0k (a0a a0q (a0a a0b a0d))) rfl)
  (a0h (b0v (c0r (a0n (a0i d0c (b0n c0k (a0a a0b a0d)) a0g)) (c0c (h0g (a0k (a0a a0b (a0a a0b a0d))))))
  (a0h (k0i a0b)
  a0v)
  a0v)
  (a0h (g0n (m0e a0b (a0a (a0k (a0a a0b a0d)) a0d)))
  a0v))))
  (a0h (a0u (a0k (a0a a0b (a0a a0b a0d))))
  g0a)))))⟩) ?_
 rintro ss q ⟨t,k0,rfl,hz,hf,hr,hq⟩
 refine ⟨rfl,rfl,?_⟩
 refine ⟨rfl,t,rfl,by omega,?_⟩
 have hp:=e0a t (Str.ofString "\n")
 have hsl:=f0d t (Str.ofString "\n")
 cases es:Txt.split t (Str.ofString "\n") with
 | nil=>exact absurd es (b0y _ _)
 | cons r0 rs =>
 rw [es] at hp hsl
 simp only [List.length_cons] at hsl
 have h0l:r0.length ≤ 15990:=by have:=hp r0 (.head _); omega
 rcases a1b es hr with ⟨rfl,hno⟩ | ⟨m,a1,a2,a3,hw⟩
 ·refine .inl ?_
  refine g0i (i:=0) (ds:=(r0 :: rs).map D.str) (d:=.str r0) rfl (at0 _ _) ?_
  exact ⟨rfl,Str.ofString "wish",r0,rfl,h0l,hno,⟨_,rfl⟩,hq⟩
 refine .inr ?_
 refine g0i (i:=0) (ds:=(r0 :: rs).map D.str) (d:=.str r0) rfl (at0 _ _) ?_
 refine ⟨rfl,Str.ofString "wish",r0,m,rfl,h0l,a1,a2,a3,?_⟩
 refine ⟨by decide,?_⟩
 dsimp only [stS,pt,back,R.frz]
 rcases hw with hS | ⟨hS,rfl⟩
 ·have hk0:=z0w _ _ _ _ hS
  refine ⟨rfl,?_⟩
  show forA _ _ _ _ (k0b 1 (L2.cutD (D.str r0 :: rs.map D.str) (some 1) none)) _
  rw [cut1]
  refine w0w (JW t m ((r0 :: rs).map D.str)) (fun _ _ _=>trivial) k0 rs 1 _ _ hS (fun k row S S2 ρ N hm e2 hj hN=>?_) (fun row S ρ N hm e2 hj=>?_) ⟨by simp,.un,.un,.un,rfl⟩
  ·skip
   obtain ⟨ok,s4,s5,s6,rfl⟩:=hj
   have hl:row.length ≤ 15990:=by have:=hp row (.tail _ hm); omega
   have hfw:=hf row (by rw [es]; exact .tail _ hm)
   refine d1y ?_
   refine ⟨rfl,Str.ofString "row",row,rfl,hl,_,rfl,?_⟩
   dsimp only [stS,pt,back,R.frz]
   obtain ⟨c1,c2,rfl⟩:=f0a e2
   show aIfS _ _ _ _ _
   refine d0p (fun k hk=>?_) ?_
   ·refine b0f (d:=.int (((a0y S).length:Nat):Int)) (e:=.int 24) (b:=false) rfl rfl (by simp [D.depth]) (by simp [eqD,b0j]; omega) ?_
    refine ⟨rfl,m,_,_,rfl,.inl rfl,hfw,?_⟩
    rw [c2]; exact hk
   ·unfold aNext; dsimp only
    obtain ⟨_,_,g3⟩:=o0l c2
    refine ⟨rfl,_,_,rfl,.inl rfl,fun x hx=>by have:=g3 x hx; omega,?_⟩
    refine ⟨by rw [b0j]; omega,?_⟩
    dsimp only [back,pt,R.frz]
    rw [j0t]
    exact hN _ ⟨by rw [List.length_append]; simp only [List.length_cons,List.length_nil]; omega,_,_,_,rfl⟩
  ·skip
   obtain ⟨ok,s4,s5,s6,rfl⟩:=hj
   have hl:row.length ≤ 15990:=by have:=hp row (.tail _ hm); omega
   have hfw:=hf row (by rw [es]; exact .tail _ hm)
   refine d1y ?_
   refine ⟨rfl,Str.ofString "row",row,rfl,hl,_,rfl,?_⟩
   dsimp only [stS,pt,back,R.frz]
   show aIfS _ _ _ _ _
   refine c0e (fun k hk=>?_) ?_
   ·by_cases h24:S.length = 24
    ·exact b0f (d:=.int (((a0y S).length:Nat):Int)) (e:=.int 24) (b:=true) rfl rfl (by simp [D.depth]) (by simp [eqD,b0j]; omega) hk
    ·refine b0f (d:=.int (((a0y S).length:Nat):Int)) (e:=.int 24) (b:=false) rfl rfl (by simp [D.depth]) (by simp [eqD,b0j]; omega) ?_
     refine ⟨rfl,m,_,_,rfl,.inl rfl,hfw,?_⟩
     rcases n0x e2 with z | z
     ·exact absurd z h24
     ·rw [z]; exact hk
   ·exact ⟨⟨by omega,by omega⟩,⟨_,rfl⟩,hq⟩
 ·refine cutS (fun ρ=>JW t m ((r0 :: rs).map D.str) [] ρ) (fun N hN=>?_) (fun ρ' hj=>?_)
  ·refine ⟨rfl,?_⟩
   show forA _ _ _ _ (k0b 1 (L2.cutD (D.str r0 :: rs.map D.str) (some 1) none)) _
   rw [cut1]
   refine q0e (JW t m ((r0 :: rs).map D.str)) (fun _ _ _=>trivial) rs 1 _ [] _ hS (fun k row S S2 ρ N hm e2 hj hN=>?_) hN ⟨by simp,.un,.un,.un,rfl⟩
   obtain ⟨ok,s4,s5,s6,rfl⟩:=hj
   have hl:row.length ≤ 15990:=by have:=hp row (.tail _ hm); omega
   have hfw:=hf row (by rw [es]; exact .tail _ hm)
   refine d1y ?_
   refine ⟨rfl,Str.ofString "row",row,rfl,hl,_,rfl,?_⟩
   dsimp only [stS,pt,back,R.frz]
   obtain ⟨c1,c2,rfl⟩:=f0a e2
   show aIfS _ _ _ _ _
   refine d0p (fun k hk=>?_) ?_
   ·refine b0f (d:=.int (((a0y S).length:Nat):Int)) (e:=.int 24) (b:=false) rfl rfl (by simp [D.depth]) (by simp [eqD,b0j]; omega) ?_
    refine ⟨rfl,m,_,_,rfl,.inl rfl,hfw,?_⟩
    rw [c2]; exact hk
   ·unfold aNext; dsimp only
    obtain ⟨_,_,g3⟩:=o0l c2
    refine ⟨rfl,_,_,rfl,.inl rfl,fun x hx=>by have:=g3 x hx; omega,?_⟩
    refine ⟨by rw [b0j]; omega,?_⟩
    dsimp only [back,pt,R.frz]
    rw [j0t]
    exact hN _ ⟨by rw [List.length_append]; simp only [List.length_cons,List.length_nil]; omega,_,_,_,rfl⟩
  ·obtain ⟨ok,s4,s5,s6,rfl⟩:=hj
   refine ⟨rfl,_,_,_,rfl,.inl rfl,.inl rfl,?_,⟨_,rfl⟩,?_⟩
   ·simp only [List.length_map,List.length_cons]; omega
   ·rw [List.length_map]; exact hq
end
section
variable {n:Nat} {js:List Nat} {c:En→Prop} {g:AG} {tc:AT} {te:AE} {q:List D→En→Prop}
theorem c1q {α:Type} (h:α→D) (p:α→Bool) (f:α→D) {xs:List α} {ρ:En} (hc:c ρ) (hs:∀ x acc (N:List D→En→Prop),x ∈ xs→N (if p x = true then acc ++ [f x] else acc) ρ→i1e n js g tc te ρ (h x) acc N)
  (hd:q ((xs.filter p).map f) ρ):i0p n js c g tc te q (xs.map h) [] ρ:=by
 refine k0d (fun k acc ρ'=>ρ' = ρ∧acc = ((xs.take k).filter p).map f) (fun k acc ρ' _ h=>h.1 ▸ hc) ?_ ?_ ρ ⟨rfl,rfl⟩
 ·rintro k d acc _ N hk ⟨rfl,rfl⟩ hN
  rw [List.getElem?_map] at hk
  obtain ⟨x,e1,rfl⟩:=Option.map_eq_some_iff.mp hk
  refine hs x _ N (List.mem_of_getElem? e1) (hN _ _ ⟨rfl,?_⟩)
  rw [List.take_add_one,e1,Option.toList_some,List.filter_append,List.map_append]
  cases hp:p x <;> simp [hp]
 ·rintro acc _ ⟨rfl,rfl⟩
  rw [List.length_map,List.take_length]; exact hd
end
def digs:Str:=Str.ofString "0123456789"
theorem k1x:digs.cps.toList = [48,49,50,51,52,53,54,55,56,57]:=by decide +kernel
theorem o1h {c:Nat}:decide (c ∈ digs.cps.toList) = true↔48 ≤ c∧c ≤ 57:=by
 rw [k1x]; simp; omega
theorem i1i:∀ k < 1000,(tnI k).cps.toList.all (fun c=>decide (c ∈ digs.cps.toList)) = true∧1 ≤ (tnI k).length∧¬ ((tnI k).cps[0]? = some 48∧1 < (tnI k).length):=by decide +kernel
theorem fig3:∀ a < 10,∀ b < 10,∀ c < 10,a ≠ 0→tnI (100 * a + 10 * b + c) = ⟨#[48 + a,48 + b,48 + c]⟩:=by decide +kernel
theorem fig2:∀ b < 10,∀ c < 10,b ≠ 0→tnI (10 * b + c) = ⟨#[48 + b,48 + c]⟩:=by decide +kernel
theorem fig1:∀ c < 10,tnI c = ⟨#[48 + c]⟩:=by decide +kernel
theorem figN {w:Str} (h0:1 ≤ w.length) (hl:w.length ≤ 3) (hd:∀ c ∈ w.cps.toList,48 ≤ c∧c ≤ 57) (hz:¬ (w.cps[0]? = some 48∧1 < w.length)):∃ n,n < 1000∧w = tnI n:=by
 obtain ⟨⟨cs⟩⟩:=w
 have hl':cs.length ≤ 3:=hl
 have h0':1 ≤ cs.length:=h0
 have key:∀ c ∈ cs,∃ a,a < 10∧c = 48 + a:=fun c hc=>by
  have:=hd c hc
  exact ⟨c - 48,by omega,by omega⟩
 match cs,hl',h0',key,hz with
 | [c],_,_,key,_ =>
  obtain ⟨a,h1,rfl⟩:=key c (by simp)
  exact ⟨a,by omega,(fig1 a h1).symm⟩
 | [c,d],_,_,key,hz =>
  obtain ⟨a,h1,rfl⟩:=key c (by simp)
  obtain ⟨b,h2,rfl⟩:=key d (by simp)
  exact ⟨10 * a + b,by omega,(fig2 a h1 b h2 fun z=>hz (by subst z; simp [Str.length])).symm⟩
 | [c,d,e],_,_,key,hz =>
  obtain ⟨a,h1,rfl⟩:=key c (by simp)
  obtain ⟨b,h2,rfl⟩:=key d (by simp)
  obtain ⟨g,h3,rfl⟩:=key e (by simp)
  exact ⟨100 * a + 10 * b + g,by omega,(fig3 a h1 b h2 g h3 fun z=>hz (by subst z; simp [Str.length])).symm⟩
 | [],_,h0,_,_=>simp at h0
 | _ :: _ :: _ :: _ :: _,hl,_,_,_=>simp at hl
def u0c (word row:Str):Option (List Nat):=match Txt.split row (Str.ofString " ") with
 | []=>none
 | a :: os=>if a = word∧os.all (fun o=>(numW o).isSome) = true then some (os.filterMap numW) else none
theorem u0d (word row:Str):b0w word row = (u0c word row).getD []:=by
 unfold b0w u0c
 cases Txt.split row (Str.ofString " ") with
 | nil=>rfl
 | cons a os=>dsimp only; split <;> rfl
section
variable {P:Program} {w:World} {K:PySem.W.Frag} {mg:Str→Option Value} {base:Heap}
theorem p0v (dn:DefN K mg "_law_number" e0m ["_law_word_here"]) (B:BI mg):OkN P w K mg base 1 "_law_number" ["_law_word_here"] (spA K SNum):=by
 refine dn.aok2 (k:=0) p0j (fun j=>j == 0) [] SNum rfl (fun f cdv A outer s H E hr=>have hu:=d0r hr; ⟨_,(a0f (d0q (PW.pt (h0f (e0v (l0v r0h r0h a0j (a0r e0p rfl B.len_ c0z (a0c (pv 0) a0e)) a0j)) (h0m (a0x (j0q K hr.units) (j0d ["_law_sign"] [] rfl (Blk.of (a0l e0m) j0s) (j1i (pv 0)) (fun _ _ _ _ nd=>(b0s (i:=0) nd rfl (by first | exact Or.inl rfl | exact Or.inr rfl))) (fun _ _ _ _=>(t0p (a0x r0f (pv 0) a0s rfl))) (fun _ _ _ _=>(pv 0))) (c0f a0e) (b0e _)))))
  (a0m (b0c h0b))
  b0m)
  (a0f (d0q (PW.pt (w0f (a0x (d0b K hr.units) (m0o (pv 0) a0j (fun _ _=>rfl)) a0s (b0e _)) (p0p (a0x x0s (a0r e0p rfl B.len_ c0z (a0c (pv 0) a0e)) a0j (b0e _)))))
  (a0m (b0c h0b))
  b0m)
  (a0m (b0c (c0o s0x rfl B.int_ w0y (a0c (pv 0) a0e)))))),(a0h (b0v (c0r (c0c (a0n (j0j d0d d0d a0g (b0n h0x (a0a a0b a0d)) a0g))) (a0n (a0i j0r (e0x (z0b a0b) (b0i rfl) (a0n (a0i x0t a0b a0q)) a0b) (b0r a0d))))
  (a0u e0q)
  a0v)
  (a0h (b0v (p0f (a0n (a0i d0c (a0i a1s a0b a0g) a0q)) (a0n (a0i d0d (b0n h0x (a0a a0b a0d)) a0g)))
  (a0u e0q)
  a0v)
  (a0u (b0n s0v (a0a a0b a0d)))))⟩) ?_
 rintro ss q ⟨w,rfl,hz,hq⟩
 refine ⟨rfl,rfl,?_⟩
 have hno:(∀ n,n < 1000→tnI n ≠ w)→q (.d .non) [.vl (.str w)]:=fun h=>by
  have e:numD w = .non:=by unfold numD; rw [h0p h]
  rw [e] at hq; exact hq
 by_cases h1:1 ≤ w.length
 case neg =>
  show aIfS _ _ _ _ _
  refine c0e (fun k hk=>?_) ?_
  ·refine ⟨hz,?_⟩
   show if decide ((1:Int) ≤ (w.length:Int)) = true then _ else _
   rw [if_neg (by simp; omega)]
   exact hk
  ·exact hno fun n hn z=>by have:=(i1i n hn).2.1; rw [z] at this; omega
 by_cases h3:w.length ≤ 3
 case neg =>
  show aIfS _ _ _ _ _
  refine c0e (fun k hk=>?_) ?_
  ·refine ⟨hz,?_⟩
   show if decide ((1:Int) ≤ (w.length:Int)) = true then _ else _
   rw [if_pos (by simp; omega)]
   show if (!decide ((w.length:Int) ≤ 3)) = true then _ else _
   rw [if_pos (by simp; omega)]
   exact hk
  ·exact hno fun n hn z=>by have:=(i0q n hn).1; rw [z] at this; omega
 have comp:∀ k:Bool→En→Prop,k (!((w.cps.toList.filter fun c=>!decide (c ∈ digs.cps.toList)).isEmpty)) [.vl (.str w)]→aOr
    (aNot
     (aB
      (d1k (gI0 fun i j=>D.bl (decide (i ≤ j))) (gI0 fun i j=>D.bl (decide (i ≤ j))) (aC (R.d (D.int 1)))
       (aCB gLenS (d1j (aVar 0) aNil)) (aC (R.d (D.int 3))))))
    (aB
     (aOp (gEq true)
      (p1b [Str.ofString "_law_sign"].length [] (o1x (aVar 0)) (s0n 0)
       (aB (aOp (gInS true) (aVar 0) (aC (R.d (D.str (Str.ofString "0123456789")))))) (aVar 0))
      (aLst aNil))) [.vl (.str w)] k:=fun k hk=>by
  refine ⟨hz,?_⟩
  show if decide ((1:Int) ≤ (w.length:Int)) = true then _ else _
  rw [if_pos (by simp; omega)]
  show if (!decide ((w.length:Int) ≤ 3)) = true then _ else _
  rw [if_neg (by simp; omega)]
  have hcl:w.cps.toList.length = w.length:=by simp [Str.length]
  refine ⟨by rw [q0x,List.length_map]; omega,c1q (fun c=>D.str ⟨#[c]⟩) (fun c=>!decide (c ∈ digs.cps.toList)) (fun c=>D.str ⟨#[c]⟩) trivial (fun c acc M hc hM=>?_) ?_⟩
  ·show if (!(!(Builtin.Str.occurrences digs ⟨#[c]⟩ 0 digs.length 1).isEmpty)) = true then _ else _
   rw [StrLaws.found_one]
   cases hd:decide (c ∈ digs.cps.toList) with
   | true=>rw [hd] at hM; exact hM
   | false=>rw [hd] at hM; exact hM
  ·refine ⟨by decide,?_⟩
   refine b0f (neg:=true) (d:=.lst ((w.cps.toList.filter fun c=>!decide (c ∈ digs.cps.toList)).map fun c=>D.str ⟨#[c]⟩)) (e:=.lst []) (b:=(w.cps.toList.filter fun c=>!decide (c ∈ digs.cps.toList)).isEmpty) rfl rfl ?_ ?_ hk
   ·have:∀ xs:List Nat,(D.lst (xs.map fun c=>D.str ⟨#[c]⟩)).depth ≤ 60:=fun xs=>by
     have h:depths (xs.map fun c=>D.str ⟨#[c]⟩) = 0:=by
      induction xs with
      | nil=>rfl
      | cons x xs ih=>simp [depths,D.depth,ih]
     simp [D.depth,h]
    exact this _
   ·cases (w.cps.toList.filter fun c=>!decide (c ∈ digs.cps.toList)) <;> simp [eqD,eqDs]
 cases hf:(w.cps.toList.filter fun c=>!decide (c ∈ digs.cps.toList)).isEmpty with
 | false =>
  rw [hf] at comp
  show aIfS _ _ _ _ _
  refine c0e (fun k hk=>comp k hk) ?_
  refine hno fun n hn z=>?_
  have h:=(i1i n hn).1
  rw [z] at h
  have h2:(w.cps.toList.filter fun c=>!decide (c ∈ digs.cps.toList)) = []:=by
   rw [List.filter_eq_nil_iff]
   intro c hc
   rw [List.all_eq_true] at h
   rw [h c hc]; simp
  rw [h2] at hf
  cases hf
 | true =>
  rw [hf] at comp
  have hd:∀ c ∈ w.cps.toList,48 ≤ c∧c ≤ 57:=fun c hc=>by
   have h2:=List.isEmpty_iff.mp hf
   rw [List.filter_eq_nil_iff] at h2
   have:=h2 c hc
   simp only [Bool.not_eq_true,Bool.not_eq_false'] at this
   exact o1h.mp this
  show aIfS _ _ _ _ _
  refine d0p (fun k hk=>comp k hk) ?_
  obtain ⟨c0,hc0⟩:∃ c0,w.cps[0]? = some c0:=by
   have:0 < w.cps.size:=h1
   exact ⟨w.cps[0],by simp [this]⟩
  have tst:∀ k:Bool→En→Prop,k (c0 == 48 && decide (1 < w.length)) [.vl (.str w)]→aAnd (aB (aOp (gEq false) (aOp gIxS (aVar 0) (aC (R.d (D.int 0)))) (aC (R.d (D.str (Str.ofString "0"))))))
       (aB (aOp (gI0 fun i j=>D.bl (decide (j < i))) (aCB gLenS (d1j (aVar 0) aNil)) (aC (R.d (D.int 1))))) [.vl (.str w)] k:=fun k hk=>by
   refine ⟨c0,by decide,by decide,by omega,hc0,?_⟩
   refine b0f (d:=.str ⟨#[c0]⟩) (e:=.str (Str.ofString "0")) (b:=c0 == 48) rfl rfl (by simp [D.depth]) ?_ ?_
   ·rw [show Str.ofString "0" = ⟨#[48]⟩ by decide +kernel,eqD,Bool.eq_iff_iff]
    simp
   ·cases hb:c0 == 48 with
    | false=>rw [hb] at hk; exact hk
    | true =>
     rw [hb,Bool.true_and] at hk
     refine ⟨hz,?_⟩
     show k (decide ((1:Int) < (w.length:Int))) _
     rw [show decide ((1:Int) < (w.length:Int)) = decide (1 < w.length) by rw [decide_eq_decide]; omega]
     exact hk
  cases hlz:(c0 == 48 && decide (1 < w.length)) with
  | true =>
   rw [hlz] at tst
   unfold aNext; dsimp only; unfold aSeq
   show aIfS _ _ _ _ _
   refine c0e (fun k hk=>tst k hk) ?_
   refine hno fun n hn z=>?_
   have h:=(i1i n hn).2.2
   rw [z] at h
   rw [Bool.and_eq_true,beq_iff_eq,decide_eq_true_eq] at hlz
   exact h ⟨by rw [hc0,hlz.1],hlz.2⟩
  | false =>
   rw [hlz] at tst
   unfold aNext; dsimp only; unfold aSeq
   show aIfS _ _ _ _ _
   refine d0p (fun k hk=>tst k hk) ?_
   obtain ⟨n,hn,e⟩:=figN h1 h3 hd (fun z=>by
    rw [hc0] at z
    rw [show c0 = 48 from Option.some.inj z.1,decide_eq_true z.2] at hlz
    cases hlz)
   refine ⟨(n:Int),by omega,by rw [e]; exact (i0q n hn).2.2.2,?_⟩
   have e2:numD w = .int (n:Nat):=by rw [e]; unfold numD; rw [u0e hn]
   rw [e2] at hq
   exact hq
end
def rO:Option (List Nat)→R
 | none=>.d .non
 | some xs=>.f (a0y xs)
def d1q:ASp:=fun ss q=>∃ row word:Str,ss = [.vl (.str row),.vl (.str word)]∧row.length ≤ 15990∧q (rO (u0c word row)) [.vl (.str row),.vl (.str word)]
def dueD (t:Str):D:=match f0w t with
 | .inl k=>nD k
 | .inr (m,rows)=>i0z m rows
def l1k:ASp:=fun ss q=>∃ t:Str,ss = [.vl (.str t)]∧t.length ≤ 15990∧Few t∧q (.d (dueD t)) [.vl (.str t)]
theorem g0d (m:Nat) (S:List Nat) (r:Str) (us:List Str) (k:Nat):runW m S (r :: us) k = (match h0e m S r with | none=>.inl k | some S'=>runW m S' us (k + 1)):=rfl
theorem h1z {a n:Nat} (h:a < 2 ^ n):a ^^^ (1 <<< n) = a + 2 ^ n:=by
 have e2:2 ^ n + a = 2 ^ n ||| a:=by
  have:=Nat.two_pow_add_eq_or_of_lt h 1
  rwa [Nat.mul_one] at this
 rw [Nat.one_shiftLeft,Nat.add_comm,e2]
 refine Nat.eq_of_testBit_eq fun i=>?_
 rw [Nat.testBit_xor,Nat.testBit_or,Nat.testBit_two_pow]
 by_cases e:n = i
 ·subst e
  rw [Nat.testBit_lt_two_pow h]; simp
 ·simp [e]
theorem v0t:∀ (n:Nat) (xs:List Nat),xs.length = n→xs.Pairwise (· < ·)→(xs.map fun k=>1 <<< k).sum = c0t xs
 | 0,xs,h,_=>by rw [List.eq_nil_of_length_eq_zero h]; rfl
 | n + 1,xs,hn,h=>by
  have hne:xs ≠ []:=fun z=>by rw [z] at hn; cases hn
  have e:=List.dropLast_concat_getLast hne
  have hl:xs.dropLast.length = n:=by rw [List.length_dropLast]; omega
  generalize xs.dropLast = ys at e hl
  generalize xs.getLast hne = x at e
  subst e
  obtain ⟨h1,_,h3⟩:=List.pairwise_append.mp h
  have lt:c0t ys < 2 ^ x:=p0l fun k hk=>h3 k hk x (List.mem_singleton.mpr rfl)
  rw [List.map_append,List.sum_append,v0t n ys hl h1,k0j,h1z lt]
  simp [Nat.one_shiftLeft]
theorem o0y {xs:List Str} {k:Nat} {x:Str} (h:xs[k]? = some x):atI (xs.map D.str) ((k:Nat):Int) = some (D.str x):=by
 have lt:=(List.getElem?_eq_some_iff.mp h).1
 unfold atI ixN
 rw [if_pos (by omega),if_pos (by rw [List.length_map]; omega)]
 simp [h]
def JD (t:Str) (m:Nat) (rows:List D) (S:List Nat) (ρ:En):Prop:=S.length ≤ 24∧∃ s2 s5,ρ = [.vl (.str t),.ow rows,s2,nv m,.ow (a0y S),s5]
section
variable {c:En→Prop} {g:AG} {b:AS} {e:AEnds}
theorem f1p {m:Nat} (J:List Nat→En→Prop) (rs:List Str) (S0:List Nat) (hc:∀ S ρ,J S ρ→c ρ)
  (hs:∀ (k:Nat) (row:Str) (S S2:List Nat) (ρ:En) (N:En→Prop),rs[k]? = some row→h0e m S row = some S2→J S ρ→(∀ ρ',J S2 ρ'→N ρ')→g (.int (1 + (k:Nat))) ρ fun ρ1=>b { nx:=N,ct:=N,bk:=e.nx,rt:=e.rt } ρ1)
  (hn:∀ (k:Nat) (row:Str) (S:List Nat) (ρ:En) (N:En→Prop),rs[k]? = some row→h0e m S row = none→J S ρ→runW m S0 rs 1 = .inl (k + 1)→g (.int (1 + (k:Nat))) ρ fun ρ1=>b { nx:=N,ct:=N,bk:=e.nx,rt:=e.rt } ρ1)
  (hd:∀ (S':List Nat) (ρ:En),runW m S0 rs 1 = .inr S'→J S' ρ→e.nx ρ) {ρ:En} (h0:J S0 ρ):forA c g b e (rngD 1 rs.length) ρ:=by
 have go:∀ (us:List Str) (k:Nat) (S:List Nat) (ρ:En),rs.drop k = us→runW m S us (k + 1) = runW m S0 rs 1→J S ρ→forA c g b e ((rngD 1 rs.length).drop k) ρ:=by
  intro us
  induction us with
  | nil =>
   intro k S ρ h hr hj
   have hk:rs.length ≤ k:=List.drop_eq_nil_iff.mp h
   rw [List.drop_eq_nil_of_le (by rw [f0q]; exact hk)]
   exact ⟨hc _ _ hj,hd S ρ (by rw [← hr]; rfl) hj⟩
  | cons r us ih =>
   intro k S ρ h hr hj
   have hk:k < rs.length:=by
    rcases Nat.lt_or_ge k rs.length with q | q
    ·exact q
    ·rw [List.drop_eq_nil_of_le q] at h; cases h
   rw [List.drop_eq_getElem_cons hk] at h
   injection h with h1 h2
   have hrow:rs[k]? = some r:=by rw [List.getElem?_eq_getElem hk,h1]
   have hk':k < (rngD 1 rs.length).length:=by rw [f0q]; exact hk
   rw [List.drop_eq_getElem_cons hk']
   have hd':(rngD 1 rs.length)[k] = .int (1 + (k:Nat)):=by
    have:=l0u (lo:=1) (n:=rs.length) (k:=k) (d:=(rngD 1 rs.length)[k]) (List.getElem?_eq_getElem hk')
    exact this.2
   rw [hd']
   refine ⟨hc _ _ hj,?_⟩
   cases e2:h0e m S r with
   | none =>
    rw [g0d,e2] at hr
    exact hn k r S ρ _ hrow e2 hj hr.symm
   | some S2 =>
    rw [g0d,e2] at hr
    exact hs k r S S2 ρ _ hrow e2 hj fun ρ' hj'=>ih (k + 1) S2 ρ' h2 hr hj'
 exact go rs 0 S0 ρ rfl rfl h0
end
theorem v0u:∀ xs:List Nat,(xs.map fun x=>((x:Nat):Int)).sum = ((xs.sum:Nat):Int)
 | []=>rfl
 | x :: xs=>by rw [List.map_cons,List.sum_cons,v0u xs,List.sum_cons]; omega
theorem k1t {t:Str} {rows:List D} {ys:List Nat} {m:Nat} {S:List Nat} {d5:D} (hl:ys.length < 60) (kk:Bool→En→Prop) (hk:kk (!isG m ys) [.vl (.str t),.ow rows,.ow (a0y ys),nv m,.ow (a0y S),.vl d5]) :
  aOr (aB (aOp (gIsN false) (aVar 2) (aC (R.d D.non)))) (aOr (aB (aOp (gEq false) (aVar 2) (aLst aNil))) (aOr (aB (aOp (gEq true) (aVar 2) (x0c (d1j (aVar 2) aNil)))) (aB (aOp (gI0 fun i j=>D.bl (decide (j ≤ i))) (aOp gIx (aVar 2) (aUn gNeg (aC (R.d (D.int 1))))) (aVar 3))))) [.vl (.str t),.ow rows,.ow (a0y ys),nv m,.ow (a0y S),.vl d5] kk:=by
 refine ⟨by decide,?_⟩
 refine b0f (d:=.lst (a0y ys)) (e:=.lst []) (b:=ys.isEmpty) rfl rfl (depth_nats _) (by cases ys <;> simp [eqD,eqDs,a0y]) ?_
 cases ys with
 | nil=>exact hk
 | cons x xr =>
  have hv:=s0i (x :: xr)
  refine n0c (ns:=(x :: xr).map fun y=>((y:Nat):Int)) (by rw [hv]; rfl) (by rw [List.length_map]; omega) fun ns' hp hm=>?_
  have hb:eqD (.lst (a0y (x :: xr))) (.lst (ns'.map D.int)) = risB (x :: xr):=by
   cases hr:risB (x :: xr) with
   | true =>
    have e:ns' = (x :: xr).map fun y=>((y:Nat):Int):=j0o hp (k0h.mpr (g0u.mp hr)) hm
    rw [e,hv]; exact e0z _
   | false =>
    rw [Bool.eq_false_iff]
    intro z
    have e:=l0h (xs:=(x :: xr).map fun y=>((y:Nat):Int)) (ys:=ns') (by rw [hv]; exact z)
    rw [← e] at hp
    rw [g0u.mpr (k0h.mp hp)] at hr
    cases hr
  refine b0f (neg:=true) (d:=.lst (a0y (x :: xr))) (e:=.lst (ns'.map D.int)) (b:=risB (x :: xr)) rfl rfl (depth_nats _) hb ?_
  unfold isG at hk
  simp only [List.isEmpty_cons,Bool.not_false,Bool.true_and] at hk
  cases hr:risB (x :: xr) with
  | false=>rw [hr] at hk; exact hk
  | true =>
   rw [hr,Bool.true_and] at hk
   refine g0i (i:=-1) (ds:=a0y (x :: xr)) (d:=nD ((x :: xr).getLast?.getD 0)) rfl (d1e _ (by simp)) ?_
   show kk (decide (((m:Nat):Int) ≤ ((((x :: xr).getLast?.getD 0:Nat)):Int))) _
   rw [show decide (((m:Nat):Int) ≤ ((((x :: xr).getLast?.getD 0:Nat)):Int)) = !decide ((x :: xr).getLast?.getD 0 < m) by rw [← decide_not,decide_eq_decide]; omega]
   exact hk
section
variable {P:Program} {w:World} {K:PySem.W.Frag} {mg:Str→Option Value} {base:Heap}
theorem n0m (dn:DefN K mg "_law_numbers" d0w ["_law_row", "_law_word_here"]) (B:BI mg) (g_law_number:OkN P w K mg base 1 "_law_number" ["_law_word_here"] (spA K SNum)):OkN P w K mg base 2 "_law_numbers" ["_law_row", "_law_word_here"] (spA K d1q):=by
 refine dn.aok2 (k:=1) f0v (fun j=>j == 0 || j == 1) [.un,.un] d1q rfl (fun f cdv A outer s H E hr=>have hu:=d0r hr; ⟨_,(a0f (a0t (i:=2) f0v.nd rfl (by first | exact Or.inl rfl | exact Or.inr rfl) (c0w K PySem.F.plainAttrs_str PySem.F.slot_str_split PySem.F.type_str_split i0h (pv 0) (a0c a0s a0e)))
  (a0f (a1e (i:=3) ["_law_other"] [] f0v.nd rfl (by first | exact Or.inl rfl | exact Or.inr rfl) rfl (Blk.of (a0l d0w) i0u) (h0o K (c0h (d0g K) (pv 2) (d0i a0j) d0j)) (fun _ _ _ _ nd=>(b0s (i:=0) nd rfl (by first | exact Or.inl rfl | exact Or.inr rfl))) (fun _ _ _ _=>k0l) (fun _ _ _ _=>(b0l g_law_number (hr.mono (by decide)) (a0c (pv 0) a0e))))
  (a0f (d0q (PW.pt (h0f (a0x (j0q K hr.units) (e0c (b0q K) (pv 2) a0j (fun _ _=>rfl)) (pv 1) (b0e _)) (h0m (a0x (e1t K hr.units) h0b (pv 3) rfl))))
  (a0m (b0c h0b))
  b0m)
  (a0m (b0c (pv 3)))))),(a0h (a0p (f0z a0b (a0a a0q a0d)) rfl)
  (a0h (v0x (e0x (f0n (f0c a0b (b0x a0g) d0t)) (b0i rfl) i0a (a0k (a0a a0b a0d))) rfl)
  (a0h (b0v (c0r (a0n (a0i j0r (a0i c0g a0b a0g) a0b)) (a0n (a0i (a1r false) e0q a0b)))
  (a0u e0q)
  a0v)
  (a0u a0b))))⟩) ?_
 rintro ss q ⟨row,word,rfl,hz,hq⟩
 refine ⟨rfl,rfl,?_⟩
 refine g0h (by decide) (by omega) ?_
 have hl:=f0d row (Str.ofString " ")
 have hp:=e0a row (Str.ofString " ")
 have hn:u0c word row = (match Txt.split row (Str.ofString " ") with
  | []=>none
  | a :: os=>if a = word∧os.all (fun o=>(numW o).isSome) = true then some (os.filterMap numW) else none):=rfl
 cases es:Txt.split row (Str.ofString " ") with
 | nil=>exact absurd es (b0y _ _)
 | cons a os =>
 rw [es] at hl hp hn
 dsimp only at hn
 simp only [List.length_cons] at hl
 show (L2.cutD (D.str a :: os.map D.str) (some 1) none).length ≤ _∧i0p _ _ _ _ _ _ _ (L2.cutD (D.str a :: os.map D.str) (some 1) none) [] _
 rw [cut1]
 refine ⟨by rw [List.length_map]; omega,g0k D.str numD trivial (fun o acc M ho hM=>⟨rfl,o,rfl,by have:=hp o (.tail _ ho); omega,hM⟩) ?_⟩
 dsimp only [stS,pt,back,R.frz]
 have ev:((os.map numD).any i0v) = !(os.all fun o=>(numW o).isSome):=by
  rw [List.any_map,List.not_all_eq_any_not]
  congr 1
  funext o
  show i0v (numD o) = _
  unfold numD
  cases numW o <;> rfl
 have hdep:∀ e ∈ os.map numD,e.depth ≤ 60:=fun e he=>by
  obtain ⟨o,_,rfl⟩:=List.mem_map.mp he
  unfold numD; split <;> simp [D.depth]
 cases hb:a == word with
 | false =>
  rw [if_neg (fun z=>by rw [z.1] at hb; simp at hb)] at hn
  rw [hn] at hq
  show aIfS _ _ _ _ _
  refine c0e (fun k hk=>?_) hq
  refine g0i (i:=0) (ds:=(a :: os).map D.str) (d:=.str a) rfl (at0 _ _) ?_
  exact b0f (neg:=true) (d:=.str a) (e:=.str word) (b:=false) rfl rfl (by simp [D.depth]) (by simp only [eqD]; exact hb) hk
 | true =>
  have ha:a = word:=by simpa using hb
  cases h2:os.all fun o=>(numW o).isSome with
  | false =>
   rw [if_neg (fun z=>by rw [h2] at z; cases z.2)] at hn
   rw [hn] at hq
   show aIfS _ _ _ _ _
   refine c0e (fun k hk=>?_) hq
   refine g0i (i:=0) (ds:=(a :: os).map D.str) (d:=.str a) rfl (at0 _ _) ?_
   refine b0f (neg:=true) (d:=.str a) (e:=.str word) (b:=true) rfl rfl (by simp [D.depth]) (by simp only [eqD]; exact hb) ?_
   refine u0u (ds:=os.map numD) rfl hdep ?_
   rw [ev,h2]
   exact hk
  | true =>
   rw [if_pos ⟨ha,h2⟩] at hn
   rw [hn] at hq
   have el:os.map numD = a0y (os.filterMap numW):=u0b h2
   show aIfS _ _ _ _ _
   refine d0p (fun k hk=>?_) ?_
   ·refine g0i (i:=0) (ds:=(a :: os).map D.str) (d:=.str a) rfl (at0 _ _) ?_
    refine b0f (neg:=true) (d:=.str a) (e:=.str word) (b:=true) rfl rfl (by simp [D.depth]) (by simp only [eqD]; exact hb) ?_
    refine u0u (ds:=os.map numD) rfl hdep ?_
    rw [ev,h2]
    exact hk
   ·rw [el]
    exact hq
theorem x0u (dn:DefN K mg "_law_due" h0k ["_law_text"]) (B:BI mg) (g_law_numbers:OkN P w K mg base 2 "_law_numbers" ["_law_row", "_law_word_here"] (spA K d1q)):OkN P w K mg base 3 "_law_due" ["_law_text"] (spA K l1k):=by
 refine dn.aok2 (k:=2) e0b (fun j=>j == 0) [.un,.un,.un,.un,.un] l1k rfl (fun f cdv A outer s H E hr=>have hu:=d0r hr; ⟨_,(a0f (a0t (i:=1) e0b.nd rfl (by first | exact Or.inl rfl | exact Or.inr rfl) (c0w K PySem.F.plainAttrs_str PySem.F.slot_str_split PySem.F.type_str_split i0h (pv 0) (a0c a0s a0e)))
  (a0f (a0t (i:=2) e0b.nd rfl (by first | exact Or.inl rfl | exact Or.inr rfl) (b0l g_law_numbers (hr.mono (by decide)) (a0c (e0c (b0q K) (pv 1) a0j (fun _ _=>rfl)) (a0c a0s a0e))))
  (a0f (d0q (PW.pt (h0f (a0x h1l (pv 2) h0b (b0e _)) (h0f (a0x (j0q K hr.units) (a0r (b0p K) rfl B.len_ c0z (a0c (pv 2) a0e)) a0j (b0e _)) (h0m (e0v (l0v r0h r0h a0j (e0c (b0q K) (pv 2) a0j (fun _ _=>rfl)) a0j))))))
  (a0m (b0c a0j))
  b0m)
  (a0f (a0t (i:=3) e0b.nd rfl (by first | exact Or.inl rfl | exact Or.inr rfl) (e0c (b0q K) (pv 2) a0j (fun _ _=>rfl)))
  (a0f (a0t (i:=4) e0b.nd rfl (by first | exact Or.inl rfl | exact Or.inr rfl) (c0f a0e))
  (a0f (o0b PassesOwn.never rfl (a1k rfl B.range_ (a0c a0j (a0c (a0r (b0p K) rfl B.len_ c0z (a0c (pv 1) a0e)) a0e))) (b0s (i:=5) e0b.nd rfl (by first | exact Or.inl rfl | exact Or.inr rfl))
  (a0f (a0t (i:=2) e0b.nd rfl (by first | exact Or.inl rfl | exact Or.inr rfl) (b0l g_law_numbers (hr.mono (by decide)) (a0c (e0c (b0q K) (pv 1) (pv 5) (fun _ _=>rfl)) (a0c a0s a0e))))
  (a0f (d0q (PW.pt (h0f (a0x h1l (pv 2) h0b (b0e _)) (h0f (a0x (d0b K hr.units) (pv 2) (c0f a0e) (b0e _)) (h0f (a0x (j0q K hr.units) (pv 2) (o0e K rfl rfl B.sorted_ rfl B.set_ (a0c (pv 2) a0e)) (b0e _)) (h0m (a0x m1x (e0c (b0q K) (pv 2) (m1q g1s a0j) (fun _ _=>rfl)) (pv 3) (b0e _)))))))
  (a0m (b0c (pv 5)))
  b0m)
  (a0f (d0q (a0x (d0b K hr.units) (a0r (b0p K) rfl B.len_ c0z (a0c (pv 4) a0e)) a0j (b0e _))
  (a0m (b0c (pv 5)))
  b0m)
  (a0m (h0n (c0w K PySem.F.plainAttrs_list PySem.F.slot_list_append PySem.F.type_list_append h0q (pv 4) (a0c (a0r (c1t K rfl) rfl B.sum_ o1l (a0c (j0d ["_law_given"] [] rfl (Blk.of (a0l h0k) o0h) (h0o K (pv 2)) (fun _ _ _ _ nd=>(b0s (i:=0) nd rfl (by first | exact Or.inl rfl | exact Or.inr rfl))) (fun _ _ _ _=>k0l) (fun _ _ _ _=>(a0z m0r a0j (pv 0)))) a0e)) a0e))))))))
  (a0f (d0q (a0x (d0b K hr.units) (pv 4) (c0f a0e) (b0e _))
  (a0m (b0c (a0r (b0p K) rfl B.len_ c0z (a0c (pv 1) a0e))))
  b0m)
  (a0m (b0c (r0d (a0c (pv 3) (a0c (c0o (j0i K) rfl B.tuple_ k0g (a0c (pv 4) a0e)) a0e)))))))))))),(a0h (a0p (f0z a0b (a0a a0q a0d)) rfl)
  (a0h (a0p (a0k (a0a (a0i c0g a0b a0g) (a0a a0q a0d))) rfl)
  (a0h (b0v (c0r (a0n (a0i a1t a0b e0q)) (c0r (a0n (a0i j0r (b0n c0k (a0a a0b a0d)) a0g)) (c0c (a0n (j0j d0d d0d a0g (a0i c0g a0b a0g) a0g)))))
  (a0u a0g)
  a0v)
  (a0h (a0p (a0i c0g a0b a0g) rfl)
  (a0h (a0p (b0r a0d) rfl)
  (a0h (j0a (pin:=(fun _=>false)) (z0c (a0a a0g (a0a (b0n c0k (a0a a0b a0d)) a0d))) (b0i rfl)
  (a0h (a0p (a0k (a0a (a0i c0g a0b a0b) (a0a a0q a0d))) rfl)
  (a0h (b0v (c0r (a0n (a0i a1t a0b e0q)) (c0r (a0n (a0i d0c a0b (b0r a0d))) (c0r (a0n (a0i j0r a0b (m0d (a0a a0b a0d)))) (a0n (a0i d0d (a0i c0g a0b (y0x a0g)) a0b)))))
  (a0u a0b)
  a0v)
  (a0h (b0v (a0n (a0i d0c (b0n c0k (a0a a0b a0d)) a0g))
  (a0u a0b)
  a0v)
  (g0n (m0e a0b (a0a (b0n f1y (a0a (e0x (f0n a0b) (b0i rfl) i0a (a0i g0v a0g a0b)) a0d)) a0d)))))))
  (a0h (b0v (a0n (a0i d0c a0b (b0r a0d)))
  (a0u (b0n c0k (a0a a0b a0d)))
  a0v)
  (a0u (m0c (a0a a0b (a0a (b0n k0w (a0a a0b a0d)) a0d)))))))))))⟩) ?_
 rintro ss q ⟨t,rfl,hz,hf,hq⟩
 refine ⟨rfl,rfl,?_⟩
 refine g0h (by decide) (by omega) ?_
 have hp:=e0a t (Str.ofString "\n")
 have hsl:=f0d t (Str.ofString "\n")
 cases es:Txt.split t (Str.ofString "\n") with
 | nil=>exact absurd es (b0y _ _)
 | cons r0 rs =>
 rw [es] at hp hsl
 simp only [List.length_cons] at hsl
 have h0l:r0.length ≤ 15990:=by have:=hp r0 (.head _); omega
 refine g0i (i:=0) (ds:=(r0 :: rs).map D.str) (d:=.str r0) rfl (at0 _ _) ?_
 refine ⟨rfl,r0,Str.ofString "wish",rfl,h0l,?_⟩
 have hB:=u0d (Str.ofString "wish") r0
 have hno:¬ ((b0w (Str.ofString "wish") r0).length = 1∧1 ≤ (b0w (Str.ofString "wish") r0).getD 0 0∧(b0w (Str.ofString "wish") r0).getD 0 0 ≤ 12)→q (.d (nD 0)) [.vl (.str t)]:=fun h=>by
  have e:dueD t = nD 0:=by
   unfold dueD f0w n0r
   rw [es]
   dsimp only
   rw [if_neg h]
  rw [e] at hq; exact hq
 cases ho:u0c (Str.ofString "wish") r0 with
 | none =>
  rw [ho] at hB
  refine hno ?_
  rw [hB]
  simp
 | some xs =>
  rw [ho] at hB
  dsimp only [Option.getD] at hB
  rw [hB] at hno
  dsimp only [rO,stS,pt,back,R.frz]
  by_cases h1:xs.length = 1
  case neg =>
   show aIfS _ _ _ _ _
   refine c0e (fun k hk=>?_) (hno fun z=>h1 z.1)
   exact b0f (neg:=true) (d:=.int (((a0y xs).length:Nat):Int)) (e:=.int 1) (b:=false) rfl rfl (by simp [D.depth]) (by simp [eqD,b0j]; omega) hk
  obtain ⟨m,rfl⟩:∃ m,xs = [m]:=by
   match xs,h1 with
   | [m],_=>exact ⟨m,rfl⟩
  have tst:∀ k:Bool→En→Prop,k (!(decide (1 ≤ m) && decide (m ≤ 12))) [.vl (.str t),.ow ((r0 :: rs).map D.str),.ow (a0y [m]),.un,.un,.un]→aOr (aB (aOp (gIsN false) (aVar 2) (aC (R.d D.non))))
         (aOr (aB (aOp (gEq true) (aCB gLen (d1j (aVar 2) aNil)) (aC (R.d (D.int 1)))))
          (aNot
           (aB
            (d1k (gI0 fun i j=>D.bl (decide (i ≤ j))) (gI0 fun i j=>D.bl (decide (i ≤ j)))
             (aC (R.d (D.int 1))) (aOp gIx (aVar 2) (aC (R.d (D.int 0)))) (aC (R.d (D.int 12))))))) [.vl (.str t),.ow ((r0 :: rs).map D.str),.ow (a0y [m]),.un,.un,.un] k:=fun k hk=>by
   refine b0f (neg:=true) (d:=.int 1) (e:=.int 1) (b:=true) rfl rfl (by simp [D.depth]) rfl ?_
   refine i0i (xs:=[m]) (i:=0) rfl (by simp) ?_
   show if decide ((1:Int) ≤ (m:Int)) = true then _ else _
   by_cases hm:1 ≤ m
   ·rw [if_pos (by simp; omega)]
    rw [decide_eq_true hm,Bool.true_and] at hk
    show k (!decide ((m:Int) ≤ 12)) _
    rw [show decide ((m:Int) ≤ 12) = decide (m ≤ 12) by rw [decide_eq_decide]; omega]
    exact hk
   ·rw [if_neg (by simp; omega)]
    rw [decide_eq_false hm,Bool.false_and] at hk
    exact hk
  cases hc:(decide (1 ≤ m) && decide (m ≤ 12)) with
  | false =>
   rw [hc] at tst
   show aIfS _ _ _ _ _
   refine c0e (fun k hk=>tst k hk) (hno fun z=>?_)
   simp at z hc
   omega
  | true =>
   rw [hc] at tst
   rw [Bool.and_eq_true,decide_eq_true_eq,decide_eq_true_eq] at hc
   show aIfS _ _ _ _ _
   refine d0p (fun k hk=>tst k hk) ?_
   unfold aNext; dsimp only
   refine i0i (xs:=[m]) (i:=0) rfl (by simp) ?_
   refine ⟨by decide,?_⟩
   dsimp only [stS,pt,back,R.frz]
   have hrd:n0r (Str.ofString "wish") t = some m:=by
    unfold n0r
    rw [es]
    dsimp only
    rw [hB,if_pos ⟨rfl,by simp; exact hc⟩]
    rfl
   refine cutS (fun ρ=>∃ S',runW m [] rs 1 = .inr S'∧JD t m ((r0 :: rs).map D.str) S' ρ) (fun N hN=>?_) (fun ρ' hj=>?_)
   ·refine ⟨⟨by omega,by rw [List.length_map]; simp; omega⟩,?_⟩
    show forA _ _ _ _ (rngD 1 ((((r0 :: rs).map D.str).length:Int) - 1).toNat) _
    rw [show ((((r0 :: rs).map D.str).length:Int) - 1).toNat = rs.length by simp]
    refine f1p (JD t m ((r0 :: rs).map D.str)) rs [] (fun _ _ _=>trivial) (fun k row S S2 ρ N hm e2 hj hN=>?_) (fun k row S ρ N hm e2 hj hr=>?_) (fun S' ρ hr hj=>hN _ ⟨S',hr,hj⟩) ⟨by simp,_,.un,rfl⟩
    ·obtain ⟨ok,s2,s5,rfl⟩:=hj
     have hl:row.length ≤ 15990:=by have:=hp row (.tail _ (List.mem_of_getElem? hm)); omega
     have hfw:=hf row (by rw [es]; exact .tail _ (List.mem_of_getElem? hm))
     have hat:atI ((r0 :: rs).map D.str) (1 + (k:Nat)) = some (D.str row):=by
      have:=o0y (xs:=r0 :: rs) (k:=k + 1) (x:=row) (by simpa using hm)
      rw [show (1 + ((k:Nat):Int)) = (((k + 1:Nat)):Int) by omega]
      exact this
     have hBr:=u0d (Str.ofString "row") row
     obtain ⟨c1,c2,rfl⟩:=f0a e2
     refine g0i (i:=1 + (k:Nat)) (ds:=(r0 :: rs).map D.str) (d:=.str row) rfl hat ?_
     refine ⟨rfl,row,Str.ofString "row",rfl,hl,?_⟩
     cases ho7:u0c (Str.ofString "row") row with
     | none=>rw [hBr,ho7] at c2; cases c2
     | some ys =>
      rw [ho7] at hBr
      dsimp only [Option.getD] at hBr
      rw [hBr] at c2 hfw hN
      dsimp only [rO,stS,pt,back,R.frz]
      show aIfS _ _ _ _ _
      refine d0p (fun kk hk=>k1t hfw kk (by rw [c2]; exact hk)) ?_
      dsimp only; unfold aSeq
      show aIfS _ _ _ _ _
      refine d0p (fun kk hk=>b0f (d:=.int (((a0y S).length:Nat):Int)) (e:=.int 24) (b:=false) rfl rfl (by simp [D.depth]) (by simp [eqD,b0j]; omega) hk) ?_
      dsimp only
      obtain ⟨_,g2,g3⟩:=o0l c2
      refine ⟨rfl,by rw [b0j]; omega,g0k nD (fun x=>.int ((1 <<< x:Nat):Int)) (by first | rfl | trivial) (fun x acc M hx hM=>?_) ?_⟩
      ·have:=g3 x hx
       refine ⟨⟨by omega,by omega,by decide⟩,?_⟩
       show M (acc ++ [.int ((1:Int) * 2 ^ ((x:Int).toNat))]) _
       rw [j0b]; exact hM
      ·have hs:=v0t _ ys rfl g2
       have hlt:c0t ys < 2 ^ m:=p0l g3
       have hp12:2 ^ m ≤ 4096:=Nat.pow_le_pow_right (n:=2) (by decide) hc.2
       have esum:((ys.map fun x=>1 <<< x).map fun x=>((x:Nat):Int)).sum = ((c0t ys:Nat):Int):=by rw [v0u,hs]
       refine k1j (ns:=(ys.map fun x=>1 <<< x).map fun x=>((x:Nat):Int)) (by rw [List.map_map,List.map_map]; rfl) (fun x hx=>?_) (by rw [esum]; omega) ?_
       ·obtain ⟨y,_,rfl⟩:=List.mem_map.mp hx; omega
       ·rw [esum]
        refine ⟨by rw [b0j]; omega,?_⟩
        dsimp only [back,pt,R.frz]
        rw [show D.int ((c0t ys:Nat):Int) = nD (c0t ys) from rfl,j0t]
        exact hN _ ⟨by rw [List.length_append]; simp only [List.length_cons,List.length_nil]; omega,_,_,rfl⟩
    ·obtain ⟨ok,s2,s5,rfl⟩:=hj
     have hl:row.length ≤ 15990:=by have:=hp row (.tail _ (List.mem_of_getElem? hm)); omega
     have hfw:=hf row (by rw [es]; exact .tail _ (List.mem_of_getElem? hm))
     have hat:atI ((r0 :: rs).map D.str) (1 + (k:Nat)) = some (D.str row):=by
      have:=o0y (xs:=r0 :: rs) (k:=k + 1) (x:=row) (by simpa using hm)
      rw [show (1 + ((k:Nat):Int)) = (((k + 1:Nat)):Int) by omega]
      exact this
     have hBr:=u0d (Str.ofString "row") row
     have ed:dueD t = .int (1 + (k:Nat)):=by
      unfold dueD f0w
      rw [hrd,es]
      dsimp only [List.tail]
      rw [hr]
      dsimp only [nD]
      rw [show (((k + 1:Nat)):Int) = 1 + (k:Nat) by omega]
     rw [ed] at hq
     refine g0i (i:=1 + (k:Nat)) (ds:=(r0 :: rs).map D.str) (d:=.str row) rfl hat ?_
     refine ⟨rfl,row,Str.ofString "row",rfl,hl,?_⟩
     cases ho7:u0c (Str.ofString "row") row with
     | none=>exact hq
     | some ys =>
      rw [ho7] at hBr
      dsimp only [Option.getD] at hBr
      have e3:=n0x e2
      rw [hBr] at hfw e3
      dsimp only [rO,stS,pt,back,R.frz]
      show aIfS _ _ _ _ _
      cases hg:isG m ys with
      | false=>exact c0e (fun kk hk=>k1t hfw kk (by rw [hg]; exact hk)) hq
      | true =>
       refine d0p (fun kk hk=>k1t hfw kk (by rw [hg]; exact hk)) ?_
       dsimp only; unfold aSeq
       show aIfS _ _ _ _ _
       have h24:S.length = 24:=by
        rcases e3 with z | z
        ·exact z
        ·rw [hg] at z; cases z
       exact c0e (fun kk hk=>b0f (d:=.int (((a0y S).length:Nat):Int)) (e:=.int 24) (b:=true) rfl rfl (by simp [D.depth]) (by simp [eqD,b0j]; omega) hk) hq
   ·obtain ⟨S',hS,ok,s2,s5,rfl⟩:=hj
    have tst2:∀ k:Bool→En→Prop,k S'.isEmpty [.vl (.str t),.ow ((r0 :: rs).map D.str),s2,nv m,.ow (a0y S'),s5]→aB (aOp (gEq false) (aVar 4) (aLst aNil)) [.vl (.str t),.ow ((r0 :: rs).map D.str),s2,nv m,.ow (a0y S'),s5] k:=fun k hk=>by
     refine ⟨by decide,?_⟩
     refine b0f (d:=.lst (a0y S')) (e:=.lst []) (b:=S'.isEmpty) rfl rfl (depth_nats _) ?_ hk
     cases S' <;> simp [eqD,eqDs,a0y]
    cases hos:S'.isEmpty with
    | true =>
     have hos':=List.isEmpty_iff.mp hos
     have e:dueD t = nD (r0 :: rs).length:=by
      unfold dueD f0w
      rw [hrd,es]
      dsimp only [List.tail]
      rw [hS]
      dsimp only
      rw [if_pos hos']
     rw [e] at hq
     rw [hos] at tst2
     show aIfS _ _ _ _ _
     refine c0e (fun k hk=>tst2 k hk) ?_
     show q (.d (.int ((((r0 :: rs).map D.str).length:Nat):Int))) _
     rw [List.length_map]
     exact hq
    | false =>
     have e:dueD t = i0z m S':=by
      unfold dueD f0w
      rw [hrd,es]
      dsimp only [List.tail]
      rw [hS]
      dsimp only
      rw [if_neg (fun z=>by rw [z] at hos; cases hos)]
     rw [e] at hq
     rw [hos] at tst2
     show aIfS _ _ _ _ _
     refine d0p (fun k hk=>tst2 k hk) ?_
     first
     | exact hq
     | exact ⟨by simp,hq⟩
end
def wsum (ys:List Str):Nat:=(ys.map fun y=>y.length + 1).sum
theorem d0s (a b:List Str):wsum (a ++ b) = wsum a + wsum b:=by unfold wsum; rw [List.map_append,List.sum_append]
theorem e0j (a:Str) (b:List Str):wsum (a :: b) = a.length + 1 + wsum b:=by unfold wsum; simp
theorem s0b (c:Nat):∀ {ys:List Str},ys ≠ []→(Txt.join ⟨#[c]⟩ ys).length + 1 = wsum ys
 | [],h=>absurd rfl h
 | [x],_=>by rw [d0z]; simp [wsum]
 | x :: y :: r,_=>by
  have ih:=s0b c (ys:=y :: r) (by simp)
  rw [c0x,Str.length_append,Str.length_append,e0j,← ih]
  have:(⟨#[c]⟩:Str).length = 1:=rfl
  omega
theorem b1j (c:Nat) (ys:List Str):(Txt.join ⟨#[c]⟩ ys).length ≤ wsum ys:=by
 cases ys with
 | nil=>simp [Txt.join,Builtin.Str.glued,wsum]; rfl
 | cons y ys=>have:=s0b c (ys:=y :: ys) (by simp); omega
theorem v0w (x:Str) (c:Nat):wsum (Txt.split x ⟨#[c]⟩) = x.length + 1:=by
 have:=s0b c (b0y x ⟨#[c]⟩)
 rw [e0i] at this
 omega
theorem y0s (ys:List Str) (k:Nat):wsum (ys.take k) ≤ wsum ys:=by
 have:=d0s (ys.take k) (ys.drop k)
 rw [List.take_append_drop] at this
 omega
theorem q0n (ys:List Str) (k:Nat):wsum (ys.drop k) ≤ wsum ys:=by
 have:=d0s (ys.take k) (ys.drop k)
 rw [List.take_append_drop] at this
 omega
theorem p0a (ys:List Str) (k:Nat):wsum (ys.take k) + wsum (ys.drop k) = wsum ys:=by
 rw [← d0s,List.take_append_drop]
theorem n0t (ys:List Str) (k:Nat):wsum (ys.drop (k + 1)) ≤ wsum (ys.drop k):=by
 rw [show k + 1 = k + 1 from rfl,← List.drop_drop]
 exact q0n _ 1
def z0s:Str:=Str.ofString " !\"#$&'()*+,-./0123456789:;<=>?@ABCDEFGHIJKLMNOPQRSTUVWXYZ[\\]^_`" ++ Str.ofString "abcdefghijklmnopqrstuvwxyz{|}~\n\t"
theorem q0w:z0s.length = 96:=by decide +kernel
def wds:List Str:=[Str.ofString "net",Str.ofString "wish",Str.ofString "join",Str.ofString "out",Str.ofString "row",Str.ofString "0",Str.ofString "1",Str.ofString "00",Str.ofString "01",Str.ofString "12",Str.ofString "13",Str.ofString "-1",Str.ofString "+1",Str.ofString "1_0",Str.ofString "",Str.ofString "x",Str.ofString "143",Str.ofString "1000"]
theorem i1b:wds.length = 18:=by decide +kernel
theorem p1g:∀ x ∈ wds,x.length ≤ 4:=by decide +kernel
theorem d1t:∀ x ∈ wds,32 ∉ x.cps.toList:=by decide +kernel
def d1n:ASp:=fun ss q=>ss = []∧q (.d (.str z0s)) []
def l1g:ASp:=fun ss q=>∃ (n:Nat) (words:List Str) (s1:Sv),ss = [.tp n,s1]∧n ≤ 100000000000∧u0q s1 (words.map D.str)∧words ≠ []∧words.length ≤ 16000∧(∀ x ∈ words,32 ∉ x.cps.toList)∧∀ (x:Str) (n':Nat),(x ∈ words ∨ x.length ≤ 4)→32 ∉ x.cps.toList→n' ≤ n + 3→q (.d (.str x)) [.tp n',s1]
section
variable {P:Program} {w:World} {K:PySem.W.Frag} {mg:Str→Option Value} {base:Heap}
theorem r0o (dn:DefN K mg "_law_signs" g0s []) (B:BI mg):OkN P w K mg base 1 "_law_signs" [] (spA K d1n):=by
 refine dn.aok2 (k:=0) l0a (fun _=>false) [.un] d1n rfl (fun f cdv A outer s H E hr=>have hu:=d0r hr; ⟨_,(a0f (a0t (i:=0) l0a.nd rfl (by first | exact Or.inl rfl | exact Or.inr rfl) a0s)
  (a0m (b0c (a0z d0o (pv 0) a0s)))),(a0h (a0p a0q rfl)
  (a0u (a0i f0t a0b a0q)))⟩) ?_
 rintro ss q ⟨rfl,hq⟩
 refine ⟨rfl,rfl,?_⟩
 exact ⟨by decide +kernel,hq⟩
theorem t0v (dn:DefN K mg "_law_word" i0c ["_law_tape_here", "_law_words"]) (B:BI mg) (g_law_draw:OkN P w K mg base 1 "_law_draw" ["_law_tape_here", "_law_many"] (spA K t0e)):OkN P w K mg base 2 "_law_word" ["_law_tape_here", "_law_words"] (spA K l1g):=by
 refine dn.aokz (k:=1) g0o (fun j=>j == 0 || j == 1) [.un,.un] l1g rfl (fun f cdv A outer s H E hr=>have hu:=d0r hr; ⟨_,(h1y (l1o (i:=2) g0o.nd rfl (by first | exact Or.inl rfl | exact Or.inr rfl) (l1p (c0q b0b a0s (c0q b0b a0s (c0q b0b a0s (c0q b0b a0s (c0q b0b a0s (c0q b0b a0s (c0q b0b a0s (c0q b0b a0s (c0q b0b a0s (c0q b0b a0s (c0q b0b a0s g1o)))))))))))) (.inl rfl))
  (p0o (a0t (i:=2) g0o.nd rfl (by first | exact Or.inl rfl | exact Or.inr rfl) (a0z (e0d K) (pv 2) (m1l (c0q b0b a0s (c0q b0b a0s (c0q b0b a0s (c0q b0b a0s (c0q b0b a0s (c0q b0b a0s (c0q b0b a0s g1o))))))))))
  (p0o (a0t (i:=3) g0o.nd rfl (by first | exact Or.inl rfl | exact Or.inr rfl) (b0l g_law_draw (hr.mono (by decide)) (a0c (pv 0) (a0c a0j a0e))))
  (p0o (d0q (a0x (d0b K hr.units) (pv 3) a0j (b0e _))
  (a0m (b0c (e0c (b0q K) (pv 1) (b0l g_law_draw (hr.mono (by decide)) (a0c (pv 0) (a0c (a0r (b0p K) rfl B.len_ c0z (a0c (pv 1) a0e)) a0e))) (fun _ _=>rfl))))
  b0m)
  (p0o (d0q (a0x (d0b K hr.units) (pv 3) a0j (b0e _))
  (a0m (b0c (c0o e0o rfl B.str_ o0x (a0c (b0l g_law_draw (hr.mono (by decide)) (a0c (pv 0) (a0c a0j a0e))) a0e))))
  b0m)
  (m1k (b0c (e0c (b0q K) (pv 2) (b0l g_law_draw (hr.mono (by decide)) (a0c (pv 0) (a0c (a0r (b0p K) rfl B.len_ c0z (a0c (pv 2) a0e)) a0e))) (fun _ _=>rfl))))))))),(a0h (a0p (b0r (a0a a0q (a0a a0q (a0a a0q (a0a a0q (a0a a0q (a0a a0q (a0a a0q (a0a a0q (a0a a0q (a0a a0q (a0a a0q a0d)))))))))))) rfl)
  (a0h (a0p (a0i e0e a0b (b0r (a0a a0q (a0a a0q (a0a a0q (a0a a0q (a0a a0q (a0a a0q (a0a a0q a0d))))))))) rfl)
  (a0h (a0p (a0k (a0a a0b (a0a a0g a0d))) rfl)
  (a0h (b0v (a0n (a0i d0c a0b a0g))
  (a0u (a0i c0g a0b (a0k (a0a a0b (a0a (b0n c0k (a0a a0b a0d)) a0d)))))
  a0v)
  (a0h (b0v (a0n (a0i d0c a0b a0g))
  (a0u (b0n h0w (a0a (a0k (a0a a0b (a0a a0g a0d))) a0d)))
  a0v)
  (a0u (a0i c0g a0b (a0k (a0a a0b (a0a (b0n c0k (a0a a0b a0d)) a0d))))))))))⟩) ?_
 rintro ss q ⟨n,words,s1,rfl,hn,hs,hne,hl,hfr,hq⟩
 rcases hs with rfl | rfl <;>
 ·refine ⟨rfl,rfl,?_⟩
  have hpos:0 < words.length:=List.length_pos_iff.mpr hne
  refine ⟨by simp,?_⟩
  refine ⟨by simp,by simp,?_⟩
  refine ⟨rfl,n,3,rfl,by omega,Dv.small (by decide) (by decide),fun r hr=>?_⟩
  dsimp only [stS,pt,back,R.frz]
  rcases (show r = 0 ∨ r = 1 ∨ r = 2 by omega) with rfl | rfl | rfl
  ·show aIfS _ _ _ _ _
   refine c0e (fun k hk=>b0f (d:=.int 0) (e:=.int 0) (b:=true) rfl rfl (by simp [D.depth]) rfl hk) ?_
   refine ⟨rfl,n + 1,_,rfl,by omega,Dv.small (by rw [List.length_map]; omega) (by rw [List.length_map]; omega),fun j hj=>?_⟩
   rw [List.length_map] at hj
   have hj':j < words.length:=by omega
   refine g0i (i:=(j:Nat)) (ds:=words.map D.str) (d:=.str words[j]) rfl (o0y (List.getElem?_eq_getElem hj')) ?_
   exact hq _ _ (.inl (List.getElem_mem hj')) (hfr _ (List.getElem_mem hj')) (by omega)
  ·show aIfS _ _ _ _ _
   refine d0p (fun k hk=>b0f (d:=.int 1) (e:=.int 0) (b:=false) rfl rfl (by simp [D.depth]) rfl hk) ?_
   unfold aNext; dsimp only; unfold aSeq
   show aIfS _ _ _ _ _
   refine c0e (fun k hk=>b0f (d:=.int 1) (e:=.int 1) (b:=true) rfl rfl (by simp [D.depth]) rfl hk) ?_
   refine ⟨rfl,n + 1,_,rfl,by omega,Dv.small (by decide) (by decide),fun j hj=>?_⟩
   refine ⟨lg (by omega),?_⟩
   refine hq (tnI j) _ (.inr ?_) (i0b j (by omega)).2 (by omega)
   have:=(i0q j (by omega)).1
   omega
  ·show aIfS _ _ _ _ _
   refine d0p (fun k hk=>b0f (d:=.int 2) (e:=.int 0) (b:=false) rfl rfl (by simp [D.depth]) rfl hk) ?_
   unfold aNext; dsimp only; unfold aSeq
   show aIfS _ _ _ _ _
   refine d0p (fun k hk=>b0f (d:=.int 2) (e:=.int 1) (b:=false) rfl rfl (by simp [D.depth]) rfl hk) ?_
   refine ⟨rfl,n + 1,18,rfl,by omega,Dv.small (by decide) (by decide),fun j hj=>?_⟩
   have hj':j < wds.length:=by rw [i1b]; omega
   refine g0i (i:=(j:Nat)) (ds:=wds.map D.str) (d:=.str wds[j]) rfl (o0y (List.getElem?_eq_getElem hj')) ?_
   exact hq _ _ (.inr (p1g _ (List.getElem_mem hj'))) (d1t _ (List.getElem_mem hj')) (by omega)
end
def bl (x:Str):Nat:=x.cps.toList.count 32
theorem l0i (a b:Str):bl (a ++ b) = bl a + bl b:=by unfold bl; rw [d0f,List.count_append]
theorem v0e {x:Str} (h:32 ∉ x.cps.toList):bl x = 0:=by unfold bl; exact List.count_eq_zero.mpr h
theorem q1a:bl ⟨#[32]⟩ = 1:=by decide
theorem q1b:bl ⟨#[10]⟩ = 0:=by decide
theorem l0z:∀ {ys:List Str},ys ≠ []→(∀ y ∈ ys,32 ∉ y.cps.toList)→bl (Txt.join ⟨#[32]⟩ ys) + 1 = ys.length
 | [],h,_=>absurd rfl h
 | [x],_,h=>by rw [d0z,v0e (h x (.head _))]; rfl
 | x :: y :: r,_,h=>by
  have ih:=l0z (ys:=y :: r) (by simp) fun z hz=>h z (.tail _ hz)
  rw [c0x,l0i,l0i,v0e (h x (.head _)),q1a,List.length_cons,← ih]; omega
theorem x0b:∀ (ys:List Str),bl (Txt.join ⟨#[10]⟩ ys) = (ys.map bl).sum
 | []=>by decide
 | [x]=>by rw [d0z]; simp
 | x :: y :: r=>by rw [c0x,l0i,l0i,q1b,x0b (y :: r)]; simp
theorem o0k {f:Str→Nat}:∀ {ys:List Str} {y:Str},y ∈ ys→f y ≤ (ys.map f).sum
 | x :: ys,y,h=>by
  rw [List.map_cons,List.sum_cons]
  rcases List.mem_cons.mp h with rfl | h
  ·omega
  ·have:=o0k (f:=f) h; omega
theorem q0p (row:Str):(Txt.split row (Str.ofString " ")).length = bl row + 1:=by
 have h:=l0z (b0y row ⟨#[32]⟩) (StrLaws.split_free row 32)
 rw [e0i] at h
 rw [p0h]; exact h.symm
def LB (B:Nat) (t:Str):Prop:=∀ l ∈ Txt.split t (Str.ofString "\n"),bl l ≤ B
theorem LB.le {B B':Nat} {t:Str} (h:LB B t) (hb:B ≤ B'):LB B' t:=fun l hl=>Nat.le_trans (h l hl) hb
theorem j0x {B:Nat} {t:Str} (h:bl t ≤ B):LB B t:=fun l hl=>by
 have e:=x0b (Txt.split t ⟨#[10]⟩)
 rw [e0i] at e
 rw [k0t] at hl
 have:=o0k (f:=bl) hl
 omega
theorem w0q {c:Nat}:∀ {a b:List Str},a ≠ []→b ≠ []→Txt.join ⟨#[c]⟩ (a ++ b) = Txt.join ⟨#[c]⟩ a ++ ⟨#[c]⟩ ++ Txt.join ⟨#[c]⟩ b
 | [],_,h,_=>absurd rfl h
 | [x],[],_,h=>absurd rfl h
 | [x],y :: r,_,_=>by rw [List.singleton_append,c0x,d0z]
 | x :: z :: a,b,_,hb=>by
  have ih:=w0q (c:=c) (a:=z :: a) (b:=b) (by simp) hb
  rw [List.cons_append,List.cons_append,c0x,← List.cons_append,ih,c0x]
  refine h0h ?_
  simp only [d0f,List.append_assoc]
theorem b1l {c:Nat}:∀ {ys:List Str},ys ≠ []→Txt.join ⟨#[c]⟩ (ys.flatMap fun y=>Txt.split y ⟨#[c]⟩) = Txt.join ⟨#[c]⟩ ys
 | [],h=>absurd rfl h
 | [x],_=>by rw [List.flatMap_cons,List.flatMap_nil,List.append_nil,e0i,d0z]
 | x :: y :: r,_=>by
  have ih:=b1l (c:=c) (ys:=y :: r) (by simp)
  have hn:((y :: r).flatMap fun y=>Txt.split y ⟨#[c]⟩) ≠ []:=by
   rw [List.flatMap_cons]
   exact fun z=>b0y y ⟨#[c]⟩ (List.append_eq_nil_iff.mp z).1
  rw [List.flatMap_cons,w0q (b0y _ _) hn,e0i,ih,c0x]
theorem x0o {c:Nat} {ys:List Str} (h:ys ≠ []):Txt.split (Txt.join ⟨#[c]⟩ ys) ⟨#[c]⟩ = ys.flatMap fun y=>Txt.split y ⟨#[c]⟩:=by
 have hn:(ys.flatMap fun y=>Txt.split y ⟨#[c]⟩) ≠ []:=by
  obtain ⟨y,r,rfl⟩:=List.exists_cons_of_ne_nil h
  rw [List.flatMap_cons]
  exact fun z=>b0y y ⟨#[c]⟩ (List.append_eq_nil_iff.mp z).1
 rw [← b1l h]
 refine l0r hn fun p hp=>?_
 obtain ⟨y,_,hy⟩:=List.mem_flatMap.mp hp
 exact StrLaws.split_free y c p hy
theorem j0g {B:Nat} {ys:List Str} (h:∀ y ∈ ys,LB B y):LB B (Txt.join (Str.ofString "\n") ys):=by
 intro l hl
 cases ys with
 | nil =>
  have:bl l ≤ 0:=j0x (t:=Txt.join (Str.ofString "\n") []) (by decide +kernel) l hl
  omega
 | cons y r =>
  rw [k0t,x0o (by simp)] at hl
  obtain ⟨z,hz,hl⟩:=List.mem_flatMap.mp hl
  exact h z hz l (by rw [k0t]; exact hl)
theorem n1f {B:Nat} {t row:Str} (h:LB B t) (hr:row ∈ Txt.split t (Str.ofString "\n")):LB B row:=j0x (h row hr)
theorem z0m (p s:Str) (c:Nat):∃ i l h r,Txt.split p ⟨#[c]⟩ = i ++ [l]∧Txt.split (p ++ s) ⟨#[c]⟩ = i ++ (l ++ h) :: r:=by
 have e:=List.dropLast_concat_getLast (b0y p ⟨#[c]⟩)
 have fp:=StrLaws.split_free p c
 have jp:=e0i p ⟨#[c]⟩
 generalize (Txt.split p ⟨#[c]⟩).dropLast = i at e
 generalize (Txt.split p ⟨#[c]⟩).getLast (b0y p ⟨#[c]⟩) = l at e
 rw [← e] at fp jp
 have fs:=StrLaws.split_free s c
 have js:=e0i s ⟨#[c]⟩
 cases es:Txt.split s ⟨#[c]⟩ with
 | nil=>exact absurd es (b0y _ _)
 | cons h r =>
  rw [es] at fs js
  refine ⟨i,l,h,r,e.symm,?_⟩
  have fr:∀ x ∈ i ++ (l ++ h) :: r,c ∉ x.cps.toList:=fun x hx=>by
   rcases List.mem_append.mp hx with hx | hx
   ·exact fp x (List.mem_append_left _ hx)
   ·rcases List.mem_cons.mp hx with rfl | hx
    ·rw [d0f]; intro z
     rcases List.mem_append.mp z with z | z
     ·exact fp l (List.mem_append_right _ (.head _)) z
     ·exact fs h (.head _) z
    ·exact fs x (.tail _ hx)
  have jj:Txt.join ⟨#[c]⟩ (i ++ (l ++ h) :: r) = p ++ s:=by
   have tail:Txt.join ⟨#[c]⟩ ((l ++ h) :: r) = l ++ Txt.join ⟨#[c]⟩ (h :: r):=by
    cases r with
    | nil=>rw [d0z,d0z]
    | cons b r=>rw [c0x,c0x]; refine h0h ?_; simp only [d0f,List.append_assoc]
   cases i with
   | nil=>rw [List.nil_append,tail,js]; rw [List.nil_append,d0z] at jp; rw [jp]
   | cons a i =>
    rw [w0q (by simp) (by simp),tail,js]
    rw [w0q (by simp) (by simp),d0z] at jp
    rw [← jp]
    refine h0h ?_; simp only [d0f,List.append_assoc]
  rw [← jj]
  exact l0r (by simp) fr
theorem n1g {B:Nat} {p s:Str} (h:LB B (p ++ s)):LB B p:=by
 intro x hx
 obtain ⟨i,l,hh,r,e1,e2⟩:=z0m p s 10
 unfold LB at h
 rw [k0t] at hx h
 rw [e1] at hx
 rw [e2] at h
 rcases List.mem_append.mp hx with hx | hx
 ·exact h x (List.mem_append_left _ hx)
 ·rw [List.mem_singleton.mp hx]
  have:=h (l ++ hh) (List.mem_append_right _ (.head _))
  rw [l0i] at this
  omega
theorem v0y {z:Str} {b:Nat} (hb:b ≤ z.length):(Txt.slice z none (some ((b:Nat):Int))).cps.toList = z.cps.toList.take b:=by
 have:=slice_closes_to (x:=z) (j:=(b:Nat)) ⟨by omega,by rw [Array.length_toList]; unfold Str.length at hb; omega⟩
 rw [eq_of_beq this]; simp
theorem v0z (z:Str) (b:Nat):(Txt.slice z (some ((b:Nat):Int)) none).cps.toList = z.cps.toList.drop b:=by
 by_cases h:b ≤ z.length
 ·rw [slice_from_eq (b:=(z.length:Nat)) (by omega) (by omega) rfl]
  have hl:z.cps.toList.length = z.length:=by rw [Array.length_toList]; rfl
  simp
  exact List.take_of_length_le (by rw [List.length_drop]; omega)
 ·rw [slice_beyond (by omega)]
  have hl:z.cps.toList.length = z.length:=by rw [Array.length_toList]; rfl
  rw [List.drop_eq_nil_of_le (by omega)]; rfl
theorem f1b {B:Nat} {t:Str} (h:LB B t) {b:Nat} (hb:b ≤ t.length):LB B (Txt.slice t none (some ((b:Nat):Int))):=by
 refine n1g (s:=Txt.slice t (some ((b:Nat):Int)) none) ?_
 have e:Txt.slice t none (some ((b:Nat):Int)) ++ Txt.slice t (some ((b:Nat):Int)) none = t:=by
  refine h0h ?_
  rw [d0f,v0y hb,v0z,List.take_append_drop]
 rw [e]; exact h
theorem o1q {z:Str} {b d:Nat} (hb:b ≤ z.length):bl (Txt.slice z none (some ((b:Nat):Int))) + bl (Txt.slice z (some (((b + d:Nat)):Int)) none) ≤ bl z:=by
 unfold bl
 rw [v0y hb,v0z]
 have e:=congrArg (List.count 32) (List.take_append_drop b z.cps.toList)
 rw [List.count_append] at e
 have h2:(z.cps.toList.drop (b + d)).count 32 ≤ (z.cps.toList.drop b).count 32:=by
  rw [← List.drop_drop]
  exact List.Sublist.count_le _ (List.drop_sublist _ _)
 omega
theorem l1d (c:Nat):bl ⟨#[c]⟩ ≤ 1:=by
 unfold bl
 exact Nat.le_trans List.count_le_length (by simp)
theorem s0p {t:Str} (h:LB 50 t):Few t:=fun row hr=>by
 have h1:=h row hr
 have h2:=q0p row
 unfold b0w
 split
 ·simp
 ·rename_i a os es
  rw [es,List.length_cons] at h2
  split
  ·exact Nat.lt_of_le_of_lt (List.length_filterMap_le _ _) (by omega)
  ·simp
theorem c1m (xs:List Str) (k:Nat):L2.cutD (xs.map D.str) none (some ((k:Nat):Int)) = (xs.take k).map D.str:=by rw [L2.c1p,List.map_take]
theorem c1o (xs:List Str) (k:Nat):L2.cutD (xs.map D.str) (some ((k:Nat):Int)) none = (xs.drop k).map D.str:=by rw [L2.s0u,List.map_drop]
theorem p1w:(Str.ofString "").length = 0:=by decide +kernel
theorem z0j (ys:List Str):(ys.map (·.length)).sum + ys.length * 1 = wsum ys:=by
 unfold wsum
 induction ys with
 | nil=>rfl
 | cons y ys ih=>simp only [List.map_cons,List.sum_cons,List.length_cons] at *; omega
theorem slice_le (z:Str) (lo hi:Option Int):(Txt.slice z lo hi).length ≤ z.length:=Txt.slice_le z lo hi
def l1m:ASp:=fun ss q=>∃ (n:Nat) (row:Str),ss = [.tp n,.vl (.str row)]∧n ≤ 90000000000∧row.length ≤ 15000∧∀ (x:Str) (n':Nat),x.length ≤ 2 * row.length + 6→bl x ≤ bl row + 1→n' ≤ n + 10→q (.d (.str x)) [.tp n',.vl (.str row)]
def l1l:ASp:=fun ss q=>∃ (n B:Nat) (t:Str),ss = [.tp n,.vl (.str t)]∧n ≤ 80000000000∧t.length ≤ 7900∧LB B t∧∀ (x:Str) (n':Nat),x.length ≤ 2 * t.length + 20→LB (B + 1) x→n' ≤ n + 20→q (.d (.str x)) [.tp n',.vl (.str t)]
theorem y0l {ys:List Str} {k:Nat} (h:∀ y ∈ ys,32 ∉ y.cps.toList) (hl:ys.length ≤ k + 1):bl (Txt.join ⟨#[32]⟩ ys) ≤ k:=by
 cases ys with
 | nil=>exact Nat.le_trans (by decide) (Nat.zero_le k)
 | cons y r=>have:=l0z (ys:=y :: r) (by simp) h; omega
theorem y0f {a y b:List Str} (h1:∀ z ∈ a,32 ∉ z.cps.toList) (h2:∀ z ∈ y,32 ∉ z.cps.toList) (h3:∀ z ∈ b,32 ∉ z.cps.toList):∀ z ∈ a ++ y ++ b,32 ∉ z.cps.toList:=fun z hz=>by
 rcases List.mem_append.mp hz with hz | hz
 ·rcases List.mem_append.mp hz with hz | hz
  ·exact h1 z hz
  ·exact h2 z hz
 ·exact h3 z hz
set_option hygiene false in
local macro_rules | `(tactic| exists bent_word, $r, $b, $i, $y, $yd, $d, $yl) => `(tactic| (
 refine ⟨rfl,n + 2,words,_,rfl,by omega,.inl rfl,hne,by omega,hfr,fun x n' hx hxf hn'=>?_⟩
 have hxl:x.length ≤ row.length + 4:=by
  rcases hx with hx | hx
  ·have:=hp x hx; omega
  ·omega
 refine ⟨by simp,by simp,by simp,?_⟩
 refine b0f (d:=.int $r) (e:=.int 2) (b := $b) rfl rfl (by simp [D.depth]) rfl ?_
 refine g0i (i := $i) (ds:=[.lst [.str x],.lst []]) (d := $yd) rfl rfl ?_
 have c1:=c1m words a
 have c2:=c1o words (a + $d)
 have w1:=p0a words a
 have w2:=n0t words a
 have tl:(words.take a).length ≤ words.length:=by rw [List.length_take]; omega
 have dl:(words.drop (a + $d)).length ≤ words.length:=by rw [List.length_drop]; omega
 refine ⟨by show (L2.cutD (words.map D.str) none (some ((a:Nat):Int))).length + _ ≤ _; rw [c1,List.length_map]; simp only [List.length_cons,List.length_nil]; omega,?_⟩
 refine ⟨by simp,?_⟩
 refine g0i (i := $r) (ds:=[.int 1,.int 0,.int 1]) (d:=.int $d) rfl rfl ?_
 have c2':L2.cutD (words.map D.str) (some (((a:Nat):Int) + $d)) none = (words.drop (a + $d)).map D.str:=by
  rw [← c2,show (((a + $d : Nat)):Int) = ((a:Nat):Int) + $d by omega]
 have hw3:wsum (words.take a ++ $y ++ words.drop (a + $d)) ≤ row.length + 1 + (x.length + 1):=by
  rw [d0s,d0s]
  have h0:wsum ([]:List Str) = 0:=rfl
  have w0:wsum (words.drop (a + 0)) = wsum (words.drop a):=rfl
  have h1:wsum [x] = x.length + 1:=by rw [e0j,h0]
  first
  | (rw [h1]; omega)
  | (rw [h0]; omega)
 have hsum:=z0j (words.take a ++ $y ++ words.drop (a + $d))
 refine ⟨?_,e0y (ys:=words.take a ++ $y ++ words.drop (a + $d)) ?_ ?_ (hq _ _ ?_ ?_ (by omega))⟩
 ·show (L2.cutD (words.map D.str) none (some ((a:Nat):Int)) ++ $yl).length + (L2.cutD (words.map D.str) (some (((a:Nat):Int) + $d)) none).length ≤ _
  rw [c1,c2',List.length_append,List.length_map,List.length_map]
  simp only [List.length_cons,List.length_nil]
  omega
 ·show some (D.lst (L2.cutD (words.map D.str) none (some ((a:Nat):Int)) ++ $yl ++ L2.cutD (words.map D.str) (some (((a:Nat):Int) + $d)) none)) = _
  rw [c1,c2']
  simp
 ·have:(Str.ofString " ").length = 1:=by decide +kernel
  rw [this]
  omega
 ·have:=b1j 32 (words.take a ++ $y ++ words.drop (a + $d))
  rw [p0h]
  omega
 ·rw [p0h]
  refine y0l (y0f (fun z hz=>hfr z (List.mem_of_mem_take hz)) (fun z hz=>(by simp at hz; try (subst hz; exact hxf))) (fun z hz=>hfr z (List.mem_of_mem_drop hz))) ?_
  rw [List.length_append,List.length_append,List.length_take,List.length_drop]
  simp only [List.length_cons,List.length_nil]
  omega))
set_option hygiene false in
local macro_rules | `(tactic| exists bent_sign, $i, $z, $d) => `(tactic| (
 refine ⟨by omega,?_⟩
 refine ⟨by simp,?_⟩
 refine g0i (i := $i) (ds:=[.str sg,.str (Str.ofString ""),.str sg]) (d:=.str $z) rfl rfl ?_
 have l1:=p1w
 have l2:bl (Str.ofString "") = 0:=by decide +kernel
 have sl:=slice_le row none (some ((b:Nat):Int))
 have sr:=slice_le row (some (((b:Nat):Int) + $d)) none
 refine ⟨by omega,?_⟩
 refine ⟨by simp,?_⟩
 refine g0i (i := $i) (ds:=[.int 1,.int 1,.int 0]) (d:=.int $d) rfl rfl ?_
 refine ⟨by omega,?_⟩
 have bc:=o1q (z:=row) (b:=b) (d := $d) (by omega)
 rw [show (((b + $d : Nat)):Int) = ((b:Nat):Int) + $d by omega] at bc
 refine ⟨?_,hq _ _ ?_ ?_ (by omega)⟩
 ·rw [Str.length_append]
  omega
 ·rw [Str.length_append,Str.length_append]
  omega
 ·rw [l0i,l0i]
  omega))
section
variable {P:Program} {w:World} {K:PySem.W.Frag} {mg:Str→Option Value} {base:Heap}
theorem m0t (dn:DefN K mg "_law_bent_row" e0g ["_law_tape_here", "_law_row"]) (B:BI mg) (g_law_draw:OkN P w K mg base 1 "_law_draw" ["_law_tape_here", "_law_many"] (spA K t0e)) (g_law_signs:OkN P w K mg base 1 "_law_signs" [] (spA K d1n)) (g_law_word:OkN P w K mg base 2 "_law_word" ["_law_tape_here", "_law_words"] (spA K l1g)):OkN P w K mg base 3 "_law_bent_row" ["_law_tape_here", "_law_row"] (spA K l1m):=by
 refine dn.aok2 (k:=2) c0d (fun j=>j == 0 || j == 1) [.un,.un,.un,.un] l1m rfl (fun f cdv A outer s H E hr=>have hu:=d0r hr; ⟨_,(a0f (a0t (i:=2) c0d.nd rfl (by first | exact Or.inl rfl | exact Or.inr rfl) (c0w K PySem.F.plainAttrs_str PySem.F.slot_str_split PySem.F.type_str_split i0h (pv 1) (a0c a0s a0e)))
  (a0f (a0t (i:=3) c0d.nd rfl (by first | exact Or.inl rfl | exact Or.inr rfl) (b0l g_law_draw (hr.mono (by decide)) (a0c (pv 0) (a0c (a0r (b0p K) rfl B.len_ c0z (a0c (pv 2) a0e)) a0e))))
  (a0f (a0t (i:=4) c0d.nd rfl (by first | exact Or.inl rfl | exact Or.inr rfl) (b0l g_law_draw (hr.mono (by decide)) (a0c (pv 0) (a0c a0j a0e))))
  (a0f (d0q (a0x e1u (pv 4) a0j (b0e _))
  (a0m (b0c (c0w K PySem.F.plainAttrs_str PySem.F.slot_str_join PySem.F.type_str_join (g0w K) a0s (a0c (a0z (e0d K) (a0z (e0d K) (c0h (d0g K) (pv 2) d0j (d0i (pv 3))) (e0c (b0q K) (c0f (a0c (c0f (a0c (b0l g_law_word (hr.mono (by decide)) (a0c (pv 0) (a0c (pv 2) a0e))) a0e)) (a0c (c0f a0e) a0e))) (c0o c1v rfl B.int_ w0y (a0c (k0n (d0b K hr.units) (pv 4) a0j (b0e _)) a0e)) (fun _ _=>rfl))) (c0h (d0g K) (pv 2) (d0i (a0z d0y (pv 3) (e0c (b0q K) (c0f (a0c a0j (a0c a0j (a0c a0j a0e)))) (pv 4) (fun _ _=>rfl)))) d0j)) a0e))))
  b0m)
  (a0f (a0t (i:=3) c0d.nd rfl (by first | exact Or.inl rfl | exact Or.inr rfl) (b0l g_law_draw (hr.mono (by decide)) (a0c (pv 0) (a0c (a0z d0y (a0r e0p rfl B.len_ c0z (a0c (pv 1) a0e)) a0j) a0e))))
  (a0f (a0t (i:=5) c0d.nd rfl (by first | exact Or.inl rfl | exact Or.inr rfl) (m0o (m1s g_law_signs (hr.mono (by decide))) (b0l g_law_draw (hr.mono (by decide)) (a0c (pv 0) (a0c a0j a0e))) (fun _ _=>rfl)))
  (a0m (b0c (a0z d0o (a0z d0o (c0h z0r (pv 1) d0j (d0i (pv 3))) (e0c (b0q K) (c0f (a0c (pv 5) (a0c a0s (a0c (pv 5) a0e)))) (a0z m0q (pv 4) a0j) (fun _ _=>rfl))) (c0h z0r (pv 1) (d0i (a0z d0y (pv 3) (e0c (b0q K) (c0f (a0c a0j (a0c a0j (a0c a0j a0e)))) (a0z m0q (pv 4) a0j) (fun _ _=>rfl)))) d0j)))))))))),(a0h (a0p (f0z a0b (a0a a0q a0d)) rfl)
  (a0h (a0p (a0k (a0a a0b (a0a (b0n c0k (a0a a0b a0d)) a0d))) rfl)
  (a0h (a0p (a0k (a0a a0b (a0a a0g a0d))) rfl)
  (a0h (b0v (a0n (a0i d0d a0b a0g))
  (a0u (e0w a0q (a0a (a0i e0e (a0i e0e (f0c a0b d0t (b0x a0b)) (a0i c0g (b0r (a0a (b0r (a0a (a0k (a0a a0b (a0a a0b a0d))) a0d)) (a0a (b0r a0d) a0d))) (b0n g1a (a0a (a0i d0c a0b a0g) a0d)))) (f0c a0b (b0x (a0i b0o a0b (a0i c0g (b0r (a0a a0g (a0a a0g (a0a a0g a0d)))) a0b))) d0t)) a0d)))
  a0v)
  (a0h (a0p (a0k (a0a a0b (a0a (a0i b0o (b0n h0x (a0a a0b a0d)) a0g) a0d))) rfl)
  (a0h (a0p (a0i a1s (a0k a0d) (a0k (a0a a0b (a0a a0g a0d)))) rfl)
  (a0u (a0i f0t (a0i f0t (t0g a0b d0t (b0x a0b)) (a0i c0g (b0r (a0a a0b (a0a a0q (a0a a0b a0d)))) (a0i b0o a0b a0g))) (t0g a0b (b0x (a0i b0o a0b (a0i c0g (b0r (a0a a0g (a0a a0g (a0a a0g a0d)))) (a0i b0o a0b a0g)))) d0t)))))))))⟩) ?_
 rintro ss q ⟨n,row,rfl,hn,hz,hq⟩
 refine ⟨rfl,rfl,?_⟩
 refine g0h (by decide) (by omega) ?_
 have hl:=f0d row (Str.ofString " ")
 have hne:=b0y row (Str.ofString " ")
 have hp:=e0a row (Str.ofString " ")
 have hw:wsum (Txt.split row (Str.ofString " ")) = row.length + 1:=by rw [p0h]; exact v0w row 32
 have hwl:=q0p row
 have hfr:∀ y ∈ Txt.split row (Str.ofString " "),32 ∉ y.cps.toList:=by rw [p0h]; exact StrLaws.split_free row 32
 generalize Txt.split row (Str.ofString " ") = words at hl hne hp hw hwl hfr ⊢
 have hpos:0 < words.length:=List.length_pos_iff.mpr hne
 refine ⟨rfl,n,_,rfl,by omega,Dv.small (by rw [List.length_map]; omega) (by rw [List.length_map]; omega),fun a ha=>?_⟩
 refine ⟨rfl,n + 1,6,rfl,by omega,Dv.small (by decide) (by decide),fun r hr=>?_⟩
 rw [List.length_map] at ha
 have ha':a < words.length:=by omega
 dsimp only [stS,pt,back,R.frz]
 show aIfS _ _ _ _ _
 by_cases h3:r < 3
 ·refine c0e (fun k hk=>?_) ?_
  ·show k (decide ((r:Int) < 3)) _
   rw [decide_eq_true (by omega)]; exact hk
  ·dsimp only [stS,pt,back,R.frz]
   rcases (show r = 0 ∨ r = 1 ∨ r = 2 by omega) with rfl | rfl | rfl
   ·exists bent_word,0,false,0,[x],(.lst [.str x]),1,[D.str x]
   ·exists bent_word,1,false,0,[x],(.lst [.str x]),0,[D.str x]
   ·exists bent_word,2,true,1,[],(.lst []),1,([]:List D)
 ·refine d0p (fun k hk=>?_) ?_
  ·show k (decide ((r:Int) < 3)) _
   rw [decide_eq_false (by omega)]; exact hk
  ·unfold aNext; dsimp only
   refine ⟨by omega,?_⟩
   refine ⟨rfl,n + 2,_,rfl,by omega,Dv.small (by omega) (by omega),fun b hb=>?_⟩
   refine ⟨rfl,rfl,?_⟩
   refine ⟨rfl,n + 3,96,rfl,by omega,Dv.small (by decide) (by decide),fun c hc=>?_⟩
   have hcs:c < z0s.cps.size:=by have:=q0w; unfold Str.length at this; omega
   refine ⟨z0s.cps[c],by omega,by omega,by rw [q0w]; omega,by simp [hcs],?_⟩
   obtain ⟨sg,esg⟩:∃ sg:Str,sg = ⟨#[z0s.cps[c]]⟩:=⟨_,rfl⟩
   have lsg:sg.length = 1:=by rw [esg]; rfl
   have bsg:bl sg ≤ 1:=by rw [esg]; exact l1d _
   rw [← esg]
   dsimp only [stS,pt,back,R.frz]
   rcases (show r = 3 ∨ r = 4 ∨ r = 5 by omega) with rfl | rfl | rfl
   ·exists bent_sign,0,sg,1
   ·exists bent_sign,1,(Str.ofString ""),1
   ·exists bent_sign,2,sg,0
end
section
variable {P:Program} {w:World} {K:PySem.W.Frag} {mg:Str→Option Value} {base:Heap}
theorem t0z (dn:DefN K mg "_law_bent" i0g ["_law_tape_here", "_law_text"]) (B:BI mg) (g_law_draw:OkN P w K mg base 1 "_law_draw" ["_law_tape_here", "_law_many"] (spA K t0e)) (g_law_bent_row:OkN P w K mg base 3 "_law_bent_row" ["_law_tape_here", "_law_row"] (spA K l1m)):OkN P w K mg base 4 "_law_bent" ["_law_tape_here", "_law_text"] (spA K l1l):=by
 refine dn.aok2 (k:=3) f0e (fun j=>j == 0 || j == 1) [.un,.un,.un,.un] l1l rfl (fun f cdv A outer s H E hr=>have hu:=d0r hr; ⟨_,(a0f (a0t (i:=2) f0e.nd rfl (by first | exact Or.inl rfl | exact Or.inr rfl) (c0w K PySem.F.plainAttrs_str PySem.F.slot_str_split PySem.F.type_str_split i0h (pv 1) (a0c a0s a0e)))
  (a0f (a0t (i:=3) f0e.nd rfl (by first | exact Or.inl rfl | exact Or.inr rfl) (b0l g_law_draw (hr.mono (by decide)) (a0c (pv 0) (a0c (a0r (b0p K) rfl B.len_ c0z (a0c (pv 2) a0e)) a0e))))
  (a0f (a0t (i:=4) f0e.nd rfl (by first | exact Or.inl rfl | exact Or.inr rfl) (b0l g_law_draw (hr.mono (by decide)) (a0c (pv 0) (a0c a0j a0e))))
  (a0f (d0q (a0x e1u (pv 4) a0j (b0e _))
  (a0m (b0c (c0w K PySem.F.plainAttrs_str PySem.F.slot_str_join PySem.F.type_str_join (g0w K) a0s (a0c (a0z (e0d K) (a0z (e0d K) (c0h (d0g K) (pv 2) d0j (d0i (pv 3))) (c0f (a0c (b0l g_law_bent_row (hr.mono (by decide)) (a0c (pv 0) (a0c (e0c (b0q K) (pv 2) (pv 3) (fun _ _=>rfl)) a0e))) a0e))) (c0h (d0g K) (pv 2) (d0i (a0z d0y (pv 3) a0j)) d0j)) a0e))))
  b0m)
  (a0f (d0q (a0x (d0b K hr.units) (pv 4) a0j (b0e _))
  (a0m (b0c (c0w K PySem.F.plainAttrs_str PySem.F.slot_str_join PySem.F.type_str_join (g0w K) a0s (a0c (a0z (e0d K) (c0h (d0g K) (pv 2) d0j (d0i (pv 3))) (c0h (d0g K) (pv 2) (d0i (a0z d0y (pv 3) a0j)) d0j)) a0e))))
  b0m)
  (a0f (d0q (a0x (d0b K hr.units) (pv 4) a0j (b0e _))
  (a0m (b0c (c0w K PySem.F.plainAttrs_str PySem.F.slot_str_join PySem.F.type_str_join (g0w K) a0s (a0c (a0z (e0d K) (c0h (d0g K) (pv 2) d0j (d0i (a0z d0y (pv 3) a0j))) (c0h (d0g K) (pv 2) (d0i (pv 3)) d0j)) a0e))))
  b0m)
  (a0f (d0q (a0x (d0b K hr.units) (pv 4) a0j (b0e _))
  (a0f (a0t (i:=5) f0e.nd rfl (by first | exact Or.inl rfl | exact Or.inr rfl) (c0w K PySem.F.plainAttrs_list PySem.F.slot_list_pop PySem.F.type_list_pop e1y (pv 2) (a0c (pv 3) a0e)))
  (a0f (h0n (c0w K PySem.F.plainAttrs_list PySem.F.slot_list_insert PySem.F.type_list_insert b1b (pv 2) (a0c (b0l g_law_draw (hr.mono (by decide)) (a0c (pv 0) (a0c (a0z d0y (a0r (b0p K) rfl B.len_ c0z (a0c (pv 2) a0e)) a0j) a0e))) (a0c (pv 5) a0e))))
  (a0m (b0c (c0w K PySem.F.plainAttrs_str PySem.F.slot_str_join PySem.F.type_str_join (g0w K) a0s (a0c (pv 2) a0e))))))
  b0m)
  (a0f (d0q (a0x (d0b K hr.units) (pv 4) a0j (b0e _))
  (a0m (b0c (c0h z0r (pv 1) d0j (d0i (b0l g_law_draw (hr.mono (by decide)) (a0c (pv 0) (a0c (a0z d0y (a0r e0p rfl B.len_ c0z (a0c (pv 1) a0e)) a0j) a0e)))))))
  b0m)
  (a0m (b0c (a0z d0o (a0z d0o (pv 1) a0s) (e0c (b0q K) (pv 2) (pv 3) (fun _ _=>rfl))))))))))))),(a0h (a0p (f0z a0b (a0a a0q a0d)) rfl)
  (a0h (a0p (a0k (a0a a0b (a0a (b0n c0k (a0a a0b a0d)) a0d))) rfl)
  (a0h (a0p (a0k (a0a a0b (a0a a0g a0d))) rfl)
  (a0h (b0v (a0n (a0i d0d a0b a0g))
  (a0u (e0w a0q (a0a (a0i e0e (a0i e0e (f0c a0b d0t (b0x a0b)) (b0r (a0a (a0k (a0a a0b (a0a (a0i c0g a0b a0b) a0d))) a0d))) (f0c a0b (b0x (a0i b0o a0b a0g)) d0t)) a0d)))
  a0v)
  (a0h (b0v (a0n (a0i d0c a0b a0g))
  (a0u (e0w a0q (a0a (a0i e0e (f0c a0b d0t (b0x a0b)) (f0c a0b (b0x (a0i b0o a0b a0g)) d0t)) a0d)))
  a0v)
  (a0h (b0v (a0n (a0i d0c a0b a0g))
  (a0u (e0w a0q (a0a (a0i e0e (f0c a0b d0t (b0x (a0i b0o a0b a0g))) (f0c a0b (b0x a0b) d0t)) a0d)))
  a0v)
  (a0h (b0v (a0n (a0i d0c a0b a0g))
  (a0h (a0p (y0w a0b (a0a a0b a0d)) rfl)
  (a0h (g0n (i1f a0b (a0a (a0k (a0a a0b (a0a (a0i b0o (b0n c0k (a0a a0b a0d)) a0g) a0d))) (a0a a0b a0d))))
  (a0u (e0w a0q (a0a a0b a0d)))))
  a0v)
  (a0h (b0v (a0n (a0i d0c a0b a0g))
  (a0u (t0g a0b d0t (b0x (a0k (a0a a0b (a0a (a0i b0o (b0n h0x (a0a a0b a0d)) a0g) a0d))))))
  a0v)
  (a0u (a0i f0t (a0i f0t a0b a0q) (a0i c0g a0b a0b)))))))))))⟩) ?_
 rintro ss q ⟨n,B,t,rfl,hn,hz,hB,hq⟩
 refine ⟨rfl,rfl,?_⟩
 refine g0h (by decide) (by omega) ?_
 have hl:=f0d t (Str.ofString "\n")
 have hne:=b0y t (Str.ofString "\n")
 have hp:=e0a t (Str.ofString "\n")
 have hw:wsum (Txt.split t (Str.ofString "\n")) = t.length + 1:=by rw [k0t]; exact v0w t 10
 have hrb:∀ y ∈ Txt.split t (Str.ofString "\n"),LB B y:=fun y hy=>n1f hB hy
 have hra2:∀ y ∈ Txt.split t (Str.ofString "\n"),bl y ≤ B:=hB
 generalize Txt.split t (Str.ofString "\n") = rows at hl hne hp hw hrb hra2 ⊢
 have hrb':∀ y ∈ rows,LB (B + 1) y:=fun y hy=>(hrb y hy).le (Nat.le_succ B)
 have hpos:0 < rows.length:=List.length_pos_iff.mpr hne
 refine ⟨rfl,n,_,rfl,by omega,Dv.small (by rw [List.length_map]; omega) (by rw [List.length_map]; omega),fun a ha=>?_⟩
 refine ⟨rfl,n + 1,9,rfl,by omega,Dv.small (by decide) (by decide),fun r hr=>?_⟩
 rw [List.length_map] at ha
 have ha':a < rows.length:=by omega
 have har:rows[a]? = some rows[a]:=List.getElem?_eq_getElem ha'
 have hra:=hp rows[a] (List.getElem_mem ha')
 have l1:(Str.ofString "\n").length = 1:=by decide +kernel
 have c1:=c1m rows a
 have c2':L2.cutD (rows.map D.str) (some (((a:Nat):Int) + 1)) none = (rows.drop (a + 1)).map D.str:=by
  rw [← c1o rows (a + 1),show (((a + 1:Nat)):Int) = ((a:Nat):Int) + 1 by omega]
 have c3:=c1o rows a
 have c4:L2.cutD (rows.map D.str) none (some (((a:Nat):Int) + 1)) = (rows.take (a + 1)).map D.str:=by
  rw [← c1m rows (a + 1),show (((a + 1:Nat)):Int) = ((a:Nat):Int) + 1 by omega]
 have w1:=p0a rows a
 have w5:wsum (rows.drop a) = rows[a].length + 1 + wsum (rows.drop (a + 1)):=by rw [List.drop_eq_getElem_cons ha',e0j]
 have w2:=n0t rows a
 have w3:=y0s rows (a + 1)
 have w4:=q0n rows a
 have tl:(rows.take a).length ≤ rows.length:=by rw [List.length_take]; omega
 have tl1:(rows.take (a + 1)).length ≤ rows.length:=by rw [List.length_take]; omega
 have dl:(rows.drop (a + 1)).length ≤ rows.length:=by rw [List.length_drop]; omega
 have dl0:(rows.drop a).length ≤ rows.length:=by rw [List.length_drop]; omega
 dsimp only [stS,pt,back,R.frz]
 show aIfS _ _ _ _ _
 by_cases h3:r < 4
 ·refine c0e (fun k hk=>?_) ?_
  ·show k (decide ((r:Int) < 4)) _
   rw [decide_eq_true (by omega)]; exact hk
  ·dsimp only [stS,pt,back,R.frz]
   refine g0i (i:=(a:Nat)) (ds:=rows.map D.str) (d:=.str rows[a]) rfl (o0y har) ?_
   refine ⟨rfl,n + 2,rows[a],rfl,by omega,by omega,fun x n' hx hxb hn'=>?_⟩
   have hxl:LB (B + 1) x:=j0x (by have:=hra2 rows[a] (List.getElem_mem ha'); omega)
   refine ⟨by simp,?_⟩
   have hw3:wsum (rows.take a ++ [x] ++ rows.drop (a + 1)) ≤ 2 * t.length + 8:=by
    rw [d0s,d0s]
    have h1:wsum [x] = x.length + 1:=by rw [e0j]; rfl
    rw [h1]; omega
   have hsum:=z0j (rows.take a ++ [x] ++ rows.drop (a + 1))
   refine ⟨?_,?_,e0y (ys:=rows.take a ++ [x] ++ rows.drop (a + 1)) ?_ ?_ (hq _ _ ?_ ?_ (by omega))⟩
   ·show (L2.cutD (rows.map D.str) none (some ((a:Nat):Int))).length + _ ≤ _
    rw [c1,List.length_map]; simp only [List.length_cons,List.length_nil]; omega
   ·show (L2.cutD (rows.map D.str) none (some ((a:Nat):Int)) ++ [D.str x]).length + (L2.cutD (rows.map D.str) (some (((a:Nat):Int) + 1)) none).length ≤ _
    rw [c1,c2',List.length_append,List.length_map,List.length_map]
    simp only [List.length_cons,List.length_nil]
    omega
   ·show some (D.lst (L2.cutD (rows.map D.str) none (some ((a:Nat):Int)) ++ [D.str x] ++ L2.cutD (rows.map D.str) (some (((a:Nat):Int) + 1)) none)) = _
    rw [c1,c2']; simp
   ·rw [l1]; omega
   ·have:=b1j 10 (rows.take a ++ [x] ++ rows.drop (a + 1))
    rw [k0t]; omega
   ·refine j0g fun y hy=>?_
    rcases List.mem_append.mp hy with hy | hy
    ·rcases List.mem_append.mp hy with hy | hy
     ·exact hrb' y (List.mem_of_mem_take hy)
     ·rw [List.mem_singleton.mp hy]; exact hxl
    ·exact hrb' y (List.mem_of_mem_drop hy)
 refine d0p (fun k hk=>?_) ?_
 ·show k (decide ((r:Int) < 4)) _
  rw [decide_eq_false (by omega)]; exact hk
 unfold aNext; dsimp only; unfold aSeq
 show aIfS _ _ _ _ _
 by_cases h4:r = 4
 ·subst h4
  refine c0e (fun k hk=>b0f (d:=.int 4) (e:=.int 4) (b:=true) rfl rfl (by simp [D.depth]) rfl hk) ?_
  have hw3:wsum (rows.take a ++ rows.drop (a + 1)) ≤ t.length + 1:=by rw [d0s]; omega
  have hsum:=z0j (rows.take a ++ rows.drop (a + 1))
  refine ⟨?_,e0y (ys:=rows.take a ++ rows.drop (a + 1)) ?_ ?_ (hq _ _ ?_ ?_ (by omega))⟩
  ·show (L2.cutD (rows.map D.str) none (some ((a:Nat):Int))).length + (L2.cutD (rows.map D.str) (some (((a:Nat):Int) + 1)) none).length ≤ _
   rw [c1,c2',List.length_map,List.length_map]; omega
  ·show some (D.lst (L2.cutD (rows.map D.str) none (some ((a:Nat):Int)) ++ L2.cutD (rows.map D.str) (some (((a:Nat):Int) + 1)) none)) = _
   rw [c1,c2']; simp
  ·rw [l1]; omega
  ·have:=b1j 10 (rows.take a ++ rows.drop (a + 1))
   rw [k0t]; omega
  ·refine j0g fun y hy=>?_
   rcases List.mem_append.mp hy with hy | hy
   ·exact hrb' y (List.mem_of_mem_take hy)
   ·exact hrb' y (List.mem_of_mem_drop hy)
 refine d0p (fun k hk=>b0f (d:=.int (r:Nat)) (e:=.int 4) (b:=false) rfl rfl (by simp [D.depth]) (by simp [eqD]; omega) hk) ?_
 dsimp only
 show aIfS _ _ _ _ _
 by_cases h5:r = 5
 ·subst h5
  refine c0e (fun k hk=>b0f (d:=.int 5) (e:=.int 5) (b:=true) rfl rfl (by simp [D.depth]) rfl hk) ?_
  have hw3:wsum (rows.take (a + 1) ++ rows.drop a) ≤ 2 * t.length + 2:=by rw [d0s]; omega
  have hsum:=z0j (rows.take (a + 1) ++ rows.drop a)
  refine ⟨?_,e0y (ys:=rows.take (a + 1) ++ rows.drop a) ?_ ?_ (hq _ _ ?_ ?_ (by omega))⟩
  ·show (L2.cutD (rows.map D.str) none (some (((a:Nat):Int) + 1))).length + (L2.cutD (rows.map D.str) (some ((a:Nat):Int)) none).length ≤ _
   rw [c4,c3,List.length_map,List.length_map]; omega
  ·show some (D.lst (L2.cutD (rows.map D.str) none (some (((a:Nat):Int) + 1)) ++ L2.cutD (rows.map D.str) (some ((a:Nat):Int)) none)) = _
   rw [c4,c3]; simp
  ·rw [l1]; omega
  ·have:=b1j 10 (rows.take (a + 1) ++ rows.drop a)
   rw [k0t]; omega
  ·refine j0g fun y hy=>?_
   rcases List.mem_append.mp hy with hy | hy
   ·exact hrb' y (List.mem_of_mem_take hy)
   ·exact hrb' y (List.mem_of_mem_drop hy)
 refine d0p (fun k hk=>b0f (d:=.int (r:Nat)) (e:=.int 5) (b:=false) rfl rfl (by simp [D.depth]) (by simp [eqD]; omega) hk) ?_
 dsimp only
 show aIfS _ _ _ _ _
 by_cases h6:r = 6
 ·subst h6
  refine c0e (fun k hk=>b0f (d:=.int 6) (e:=.int 6) (b:=true) rfl rfl (by simp [D.depth]) rfl hk) ?_
  have e6:(rows.map D.str).eraseIdx a = (rows.eraseIdx a).map D.str:=by rw [List.eraseIdx_eq_take_drop_succ,List.eraseIdx_eq_take_drop_succ,List.map_append,List.map_take,List.map_drop]
  have w6:wsum (rows.eraseIdx a) + (rows[a].length + 1) = t.length + 1:=by rw [List.eraseIdx_eq_take_drop_succ,d0s]; omega
  have l6:(rows.eraseIdx a).length ≤ rows.length:=List.length_eraseIdx_le _ _
  refine ⟨a,.str rows[a],rfl,by simp [har],by omega,?_⟩
  rw [e6]
  have b6:∀ y ∈ rows.eraseIdx a,LB (B + 1) y:=fun y hy=>hrb' y (List.mem_of_mem_eraseIdx hy)
  generalize rows.eraseIdx a = ys at w6 l6 b6 ⊢
  refine ⟨rfl,n + 2,_,rfl,by omega,Dv.small (by rw [List.length_map]; omega) (by rw [List.length_map]; omega),fun c hc=>?_⟩
  rw [List.length_map] at hc
  refine ⟨c,rfl,by show c ≤ (ys.map D.str).length; rw [List.length_map]; omega,by show (ys.map D.str).length ≤ _; rw [List.length_map]; omega,?_⟩
  have hw3:wsum (ys.take c ++ rows[a] :: ys.drop c) = t.length + 1:=by
   have:=p0a ys c
   rw [d0s,e0j]; omega
  have hsum:=z0j (ys.take c ++ rows[a] :: ys.drop c)
  refine e0y (ys:=ys.take c ++ rows[a] :: ys.drop c) ?_ ?_ (hq _ _ ?_ ?_ (by omega))
  ·show some (D.lst ((ys.map D.str).take c ++ D.str rows[a] :: (ys.map D.str).drop c)) = _
   simp
  ·rw [l1]; omega
  ·have:=b1j 10 (ys.take c ++ rows[a] :: ys.drop c)
   rw [k0t]; omega
  ·refine j0g fun y hy=>?_
   rcases List.mem_append.mp hy with hy | hy
   ·exact b6 y (List.mem_of_mem_take hy)
   ·rcases List.mem_cons.mp hy with rfl | hy
    ·exact hrb' _ (List.getElem_mem ha')
    ·exact b6 y (List.mem_of_mem_drop hy)
 refine d0p (fun k hk=>b0f (d:=.int (r:Nat)) (e:=.int 6) (b:=false) rfl rfl (by simp [D.depth]) (by simp [eqD]; omega) hk) ?_
 dsimp only
 show aIfS _ _ _ _ _
 by_cases h7:r = 7
 ·subst h7
  refine c0e (fun k hk=>b0f (d:=.int 7) (e:=.int 7) (b:=true) rfl rfl (by simp [D.depth]) rfl hk) ?_
  refine ⟨by omega,?_⟩
  refine ⟨rfl,n + 2,_,rfl,by omega,Dv.small (by omega) (by omega),fun b hb=>?_⟩
  refine ⟨by omega,?_⟩
  refine hq _ _ ?_ (f1b (hB.le (Nat.le_succ B)) (by omega)) (by omega)
  have:=slice_le t none (some ((b:Nat):Int))
  omega
 refine d0p (fun k hk=>b0f (d:=.int (r:Nat)) (e:=.int 7) (b:=false) rfl rfl (by simp [D.depth]) (by simp [eqD]; omega) hk) ?_
 dsimp only
 refine ⟨by rw [l1]; omega,?_⟩
 refine g0i (i:=(a:Nat)) (ds:=rows.map D.str) (d:=.str rows[a]) rfl (o0y har) ?_
 refine ⟨by rw [Str.length_append,l1]; omega,?_⟩
 have hl8:LB (B + 1) (t ++ Str.ofString "\n" ++ rows[a]):=by
  have:=j0g (B:=B + 1) (ys:=[t,rows[a]]) fun y hy=>by
   rcases List.mem_cons.mp hy with rfl | hy
   ·exact hB.le (Nat.le_succ B)
   ·rw [List.mem_singleton.mp hy]; exact hrb' _ (List.getElem_mem ha')
  rwa [c0x,d0z] at this
 refine hq _ _ ?_ hl8 (by omega)
 rw [Str.length_append,Str.length_append,l1]; omega
end
theorem v0r (k:Nat) (h:k < 1000):(tnI k).length ≤ 3:=(i0q k h).1
def wT (k:Nat):Str:=Str.empty ++ Str.ofString "wish " ++ tnI k
theorem b1f:(Str.ofString "wish ").length = 5:=by decide +kernel
theorem n1i:(Str.ofString "row").length = 3:=by decide +kernel
theorem l_sp:(Str.ofString " ").length = 1:=by decide +kernel
theorem l_nl:(Str.ofString "\n").length = 1:=by decide +kernel
theorem l_e:Str.empty.length = 0:=rfl
theorem g1r {k:Nat} (h:k < 200):(wT k).length ≤ 20:=by
 have:=v0r k (by omega)
 unfold wT; rw [Str.length_append,Str.length_append,b1f,l_e]; omega
theorem t0h:∀ {ys:List Str} {c:Nat},(∀ y ∈ ys,y.length ≤ c)→(ys.map (·.length)).sum ≤ ys.length * c
 | [],_,_=>by simp
 | y :: ys,c,h=>by
  have h1:=h y (.head _)
  have h2:=t0h (ys:=ys) (c:=c) fun z hz=>h z (.tail _ hz)
  rw [List.map_cons,List.sum_cons,List.length_cons,Nat.add_mul]; omega
theorem f1f (sep:Str) (ys:List Str):(Txt.join sep ys).length ≤ (ys.map (·.length)).sum + ys.length * sep.length:=by
 unfold Txt.join
 rw [StrLaws.glued_eq_join]; exact StrLaws.join_length_le sep ys
def rowT (r:Nat):Str:=Txt.join (Str.ofString " ") ([Str.ofString "row"] ++ (c0a r).map tnI)
def i0y (m:Nat) (rows:List Nat):Str:=Txt.join (Str.ofString "\n") ([wT m] ++ rows.map rowT)
def v0j:ASp:=fun ss q=>∃ r:Nat,ss = [nv r]∧r < 4096∧q (.f (a0y (c0a r))) [nv r]
def l1j:ASp:=fun ss q=>∃ r:Nat,ss = [nv r]∧r < 4096∧q (.d (.str (rowT r))) [nv r]
def o0z:ASp:=fun ss q=>∃ (m:Nat) (rows:List Nat),ss = [.vl (i0z m rows)]∧m ≤ 12∧rows.length ≤ 24∧(∀ r ∈ rows,r < 2 ^ m)∧q (.d (.str (i0y m rows))) [.vl (i0z m rows)]
theorem g0g {r:Nat} (h:r < 4096):(c0a r).length ≤ 12:=by
 rw [← f0u (m:=12) (by omega)]
 exact Nat.le_trans (List.length_filter_le _ _) (by rw [List.length_range]; omega)
theorem h0t {r:Nat} (h:r < 4096):∀ k ∈ c0a r,k < 12:=by
 rw [← f0u (m:=12) (by omega)]
 intro k hk
 exact List.mem_range.mp (List.mem_filter.mp hk).1
theorem m0j {r:Nat} (h:r < 4096):(([Str.ofString "row"] ++ (c0a r).map tnI).map (·.length)).sum + ([Str.ofString "row"] ++ (c0a r).map tnI).length * (Str.ofString " ").length ≤ 100:=by
 have hl:([Str.ofString "row"] ++ (c0a r).map tnI).length ≤ 13:=by
  have:=g0g h
  rw [List.length_append,List.length_map]; simp only [List.length_cons,List.length_nil]; omega
 have hs:=t0h (ys:=[Str.ofString "row"] ++ (c0a r).map tnI) (c:=3) fun y hy=>by
  rcases List.mem_append.mp hy with hy | hy
  ·rw [List.mem_singleton.mp hy,n1i]; omega
  ·obtain ⟨p,hp,rfl⟩:=List.mem_map.mp hy
   exact v0r p (by have:=h0t h p hp; omega)
 rw [l_sp]; omega
theorem e1i {r:Nat} (h:r < 4096):(rowT r).length ≤ 100:=Nat.le_trans (f1f _ _) (m0j h)
theorem n0u {m:Nat} {rows:List Nat} (hm:m ≤ 12) (hl:rows.length ≤ 24) (hr:∀ r ∈ rows,r < 4096):(([wT m] ++ rows.map rowT).map (·.length)).sum + ([wT m] ++ rows.map rowT).length * (Str.ofString "\n").length ≤ 16777216:=by
 have hl:([wT m] ++ rows.map rowT).length ≤ 25:=by
  rw [List.length_append,List.length_map]; simp only [List.length_cons,List.length_nil]; omega
 have hs:=t0h (ys:=[wT m] ++ rows.map rowT) (c:=100) fun y hy=>by
  rcases List.mem_append.mp hy with hy | hy
  ·rw [List.mem_singleton.mp hy]; exact Nat.le_trans (g1r (by omega)) (by decide)
  ·obtain ⟨p,hp,rfl⟩:=List.mem_map.mp hy
   exact e1i (hr p hp)
 rw [l_nl]; omega
theorem a1g {m r:Nat} (hm:m ≤ 12) (h:r < 2 ^ m):r < 4096:=Nat.lt_of_lt_of_le h (Nat.pow_le_pow_right (by decide) hm)
def h0z (m:Nat) (rows:List Nat):Prop:=1 ≤ m∧m ≤ 12∧rows.length ≤ 24∧∀ r ∈ rows,1 ≤ r∧r < 2 ^ m
def d1l:ASp:=fun ss q=>∃ n many most:Nat,ss = [.tp n,nv many,nv most]∧n ≤ 1000000∧1 ≤ many∧many ≤ 12∧1 ≤ most∧most ≤ 24∧∀ (rows:List Nat) (n':Nat),h0z many rows→rows ≠ []→n' ≤ n + 200→q (.f (a0y rows)) [.tp n',nv many,nv most]
def l1h:ASp:=fun ss q=>∃ n:Nat,ss = [.tp n]∧n ≤ 100000∧∀ (m:Nat) (rows:List Nat) (n':Nat),h0z m rows→rows ≠ []→n' ≤ n + 300→q (.d (i0z m rows)) [.tp n']
def wL (k:Nat):Str:=Str.ofString "wish " ++ tnI k
theorem p1h:wL = wT:=by funext p; unfold wL wT; rw [Str.empty_append]
section
variable {P:Program} {w:World} {K:PySem.W.Frag} {mg:Str→Option Value} {base:Heap}
theorem r0r (dn:DefN K mg "givens_of" f0j ["row"]) (B:BI mg):OkN P w K mg base 1 "givens_of" ["row"] (spA K v0j):=by
 refine dn.aok2 (k:=0) r0a (fun j=>j == 0) [] v0j rfl (fun f cdv A outer s H E hr=>have hu:=d0r hr; ⟨_,(a0m (b0c (j0d ["given"] [0] rfl (Blk.of (a0l f0j) l0f) (j0p rfl B.range_ (a0c (t0s K PySem.F.plainAttrs_int PySem.F.slot_int_bit_length PySem.F.type_int_bit_length j1u (pv 0)) a0e)) (fun _ _ _ _ nd=>(b0s (i:=0) nd rfl (by first | exact Or.inl rfl | exact Or.inr rfl))) (fun _ _ _ _=>(t0p (m0m K (a0z h1m (a0z h1k (pv 1) (pv 0)) a0j) (fun _=>rfl)))) (fun _ _ _ _=>(pv 0))))),(a0u (e0x (j0k (a0a (e1a a0b) a0d)) (b0i rfl) (p0e (a0i b0o (a0i g0v a0b a0b) a0g)) a0b))⟩) ?_
 rintro ss q ⟨r,rfl,hr,hq⟩
 refine ⟨rfl,rfl,?_⟩
 have hb:q0k r ≤ 12:=by
  unfold q0k
  split
  ·omega
  ·rename_i h0
   have:=(Nat.log2_lt h0).mpr (show r < 2 ^ 12 by omega)
   omega
 have eb:((Builtin.Int.intBits (r:Int):Nat):Int) = ((q0k r:Nat):Int):=by rw [g1f]
 refine ⟨⟨by omega,by omega⟩,by rw [f0q]; omega,?_⟩
 refine k0d (fun k acc ρ=>acc = a0y ((List.range k).filter r.testBit)∧ρ = [nv r]) (fun _ _ _ _ _=>trivial) ?_ ?_ _ ⟨rfl,rfl⟩
 ·rintro k d acc _ M hk ⟨rfl,rfl⟩ hM
  obtain ⟨lt,rfl⟩:=l0u hk
  rw [Int.zero_add]
  refine ⟨Int.natCast_nonneg _,?_⟩
  show if (Builtin.bitAnd ((r:Int) / 2 ^ ((k:Int).toNat)) 1 != 0) = true then M (a0y ((List.range k).filter r.testBit) ++ [nD k]) [nv r] else M (a0y ((List.range k).filter r.testBit)) [nv r]
  rw [d1c]
  cases e:r.testBit k with
  | true=>exact hM _ _ ⟨by rw [List.range_succ,List.filter_append,← o0j]; simp [e],rfl⟩
  | false=>exact hM _ _ ⟨by rw [List.range_succ,List.filter_append]; simp [e],rfl⟩
 rintro acc _ ⟨rfl,rfl⟩
 rw [f0q,eb,Int.toNat_natCast]
 exact hq
theorem t0u (dn:DefN K mg "row_text" g0c ["row"]) (B:BI mg) (g_givens_of:OkN P w K mg base 1 "givens_of" ["row"] (spA K v0j)):OkN P w K mg base 2 "row_text" ["row"] (spA K l1j):=by
 refine dn.aok2 (k:=1) t0k (fun j=>j == 0) [] l1j rfl (fun f cdv A outer s H E hr=>have hu:=d0r hr; ⟨_,(a0m (b0c (c0w K PySem.F.plainAttrs_str PySem.F.slot_str_join PySem.F.type_str_join (g0w K) a0s (a0c (a0z (e0d K) (c0f (a0c a0s a0e)) (j0d ["given"] [] rfl (Blk.of (a0l g0c) m0u) (h0o K (b0l g_givens_of (hr.mono (by decide)) (a0c (pv 0) a0e))) (fun _ _ _ _ nd=>(b0s (i:=0) nd rfl (by first | exact Or.inl rfl | exact Or.inr rfl))) (fun _ _ _ _=>k0l) (fun _ _ _ _=>(c0o e0o rfl B.str_ o0x (a0c (pv 0) a0e))))) a0e)))),(a0u (e0w a0q (a0a (a0i e0e (b0r (a0a a0q a0d)) (e0x (f0n (a0k (a0a a0b a0d))) (b0i rfl) i0a (b0n h0w (a0a a0b a0d)))) a0d)))⟩) ?_
 rintro ss q ⟨r,rfl,hr,hq⟩
 refine ⟨rfl,rfl,?_⟩
 refine ⟨by simp,rfl,r,rfl,hr,?_⟩
 have gl:=g0g hr
 refine ⟨by rw [b0j]; omega,g0k nD (fun o=>.str (tnI o)) trivial (fun o acc M ho hM=>?_) ?_⟩
 ·exact ⟨lg (by have:=h0t hr o ho; omega),hM⟩
 refine ⟨by simp only [List.length_map,List.length_append,List.length_cons,List.length_nil]; omega,?_⟩
 refine e0y (ys:=[Str.ofString "row"] ++ (c0a r).map tnI) ?_ (Nat.le_trans (m0j hr) (by decide)) hq
 show some (D.lst ([D.str (Str.ofString "row")] ++ (c0a r).map (fun p=>D.str (tnI p)))) = _
 rw [List.map_append,List.map_map]; rfl
theorem r0i (dn:DefN K mg "wish_text" f0f ["wish"]) (B:BI mg) (g_row_text:OkN P w K mg base 2 "row_text" ["row"] (spA K l1j)):OkN P w K mg base 3 "wish_text" ["wish"] (spA K o0z):=by
 refine dn.aok2 (k:=2) h0j (fun j=>j == 0) [.un,.un] o0z rfl (fun f cdv A outer s H E hr=>have hu:=d0r hr; ⟨_,(a0f (a1f (pv 0) (p0t K (n:=2) rfl (f0s (b0s (i:=1) h0j.nd rfl (by first | exact Or.inl rfl | exact Or.inr rfl)) (f0s (b0s (i:=2) h0j.nd rfl (by first | exact Or.inl rfl | exact Or.inr rfl)) p0s))))
  (a0m (b0c (c0w K PySem.F.plainAttrs_str PySem.F.slot_str_join PySem.F.type_str_join (g0w K) a0s (a0c (a0z (e0d K) (c0f (a0c (r0e (m0n a0s (m0n (h1i (pv 1)) h1h))) a0e)) (j0d ["row"] [] rfl (Blk.of (a0l f0f) l0d) (h0o K (pv 2)) (fun _ _ _ _ nd=>(b0s (i:=0) nd rfl (by first | exact Or.inl rfl | exact Or.inr rfl))) (fun _ _ _ _=>k0l) (fun _ _ _ _=>(b0l g_row_text (hr.mono (by decide)) (a0c (pv 0) a0e))))) a0e))))),(a0h (z0q a0b (l0q (d0l (b0i rfl) (d0l (b0i rfl) j0l (fun _ _ _=>h0s)) (fun _ _ _=>h0s))))
  (a0u (e0w a0q (a0a (a0i e0e (b0r (a0a (x0l (q0s a0q (q0s (i1g a0b) e1b))) a0d)) (e0x (f0n a0b) (b0i rfl) i0a (a0k (a0a a0b a0d)))) a0d))))⟩) ?_
 rintro ss q ⟨m,rows,rfl,hm,hl,hr,hq⟩
 refine ⟨rfl,rfl,?_⟩
 have hw:=g1r (k:=m) (by omega)
 have e0:(Str.empty ++ Str.ofString "wish ").length ≤ 1000000:=by decide +kernel
 have hr':∀ r ∈ rows,r < 4096:=fun r h=>a1g hm (hr r h)
 refine ⟨e0,lg (by omega),Nat.le_trans hw (by decide),Nat.le_trans hw (by decide),by simp,?_⟩
 refine ⟨by rw [b0j]; omega,g0k nD (fun o=>.str (rowT o)) trivial (fun o acc M ho hM=>?_) ?_⟩
 ·exact ⟨rfl,o,rfl,hr' o ho,hM⟩
 refine ⟨by simp only [List.length_map,List.length_append,List.length_cons,List.length_nil]; omega,?_⟩
 refine e0y (ys:=[wT m] ++ rows.map rowT) ?_ (n0u hm hl hr') hq
 show some (D.lst ([D.str (wT m)] ++ rows.map (fun p=>D.str (rowT p)))) = _
 rw [List.map_append,List.map_map]; rfl
theorem l0m (dn:DefN K mg "_law_wish_rows" d0v ["_law_tape_here", "_law_many", "_law_most"]) (B:BI mg) (g_law_draw:OkN P w K mg base 1 "_law_draw" ["_law_tape_here", "_law_many"] (spA K t0e)):OkN P w K mg base 2 "_law_wish_rows" ["_law_tape_here", "_law_many", "_law_most"] (spA K d1l):=by
 refine dn.aok2 (k:=1) b0d (fun j=>j == 0 || j == 1 || j == 2) [.un,.un,.un,.un,.un] d1l rfl (fun f cdv A outer s H E hr=>have hu:=d0r hr; ⟨_,(a0f (a0t (i:=3) b0d.nd rfl (by first | exact Or.inl rfl | exact Or.inr rfl) (c0f a0e))
  (a0f (o0b PassesOwn.never rfl (j0p rfl B.range_ (a0c (a0z d0y a0j (b0l g_law_draw (hr.mono (by decide)) (a0c (pv 0) (a0c (pv 2) a0e)))) a0e)) (b0s (i:=4) b0d.nd rfl (by first | exact Or.inl rfl | exact Or.inr rfl))
  (a0f (a0t (i:=5) b0d.nd rfl (by first | exact Or.inl rfl | exact Or.inr rfl) (b0l g_law_draw (hr.mono (by decide)) (a0c (pv 0) (a0c a0j a0e))))
  (a0f (a0t (i:=6) b0d.nd rfl (by first | exact Or.inl rfl | exact Or.inr rfl) (a0z d0y a0j (b0l g_law_draw (hr.mono (by decide)) (a0c (pv 0) (a0c (a0z m0q (a0z m0r a0j (pv 1)) a0j) a0e)))))
  (a0f (d0q (a0x (d0b K hr.units) (pv 5) a0j (b0e _))
  (a0m (a0t (i:=6) b0d.nd rfl (by first | exact Or.inl rfl | exact Or.inr rfl) (a0z m0r a0j (b0l g_law_draw (hr.mono (by decide)) (a0c (pv 0) (a0c (pv 1) a0e))))))
  b0m)
  (a0f (d0q (a0x (d0b K hr.units) (pv 5) a0j (b0e _))
  (a0f (a0t (i:=7) b0d.nd rfl (by first | exact Or.inl rfl | exact Or.inr rfl) (b0l g_law_draw (hr.mono (by decide)) (a0c (pv 0) (a0c (pv 1) a0e))))
  (a0m (a0t (i:=6) b0d.nd rfl (by first | exact Or.inl rfl | exact Or.inr rfl) (a0z m0r (a0z m0q (a0z m0r a0j (a0z d0y a0j (b0l g_law_draw (hr.mono (by decide)) (a0c (pv 0) (a0c (a0z m0q (pv 1) (pv 7)) a0e))))) a0j) (pv 7)))))
  b0m)
  (a0f (d0q (PW.pt (w0f (a0x x0s (pv 5) a0j (b0e _)) (p0p (a0x (j0q K hr.units) (pv 3) (c0f a0e) (b0e _)))))
  (a0f (a0t (i:=6) b0d.nd rfl (by first | exact Or.inl rfl | exact Or.inr rfl) (e0c (b0q K) (pv 3) (b0l g_law_draw (hr.mono (by decide)) (a0c (pv 0) (a0c (a0r (b0p K) rfl B.len_ c0z (a0c (pv 3) a0e)) a0e))) (fun _ _=>rfl)))
  (a0m (d0q (a0x x0s (pv 5) a0j (b0e _))
  (a0m (a0t (i:=6) b0d.nd rfl (by first | exact Or.inl rfl | exact Or.inr rfl) (a0r (c1u rfl) rfl B.max_ o1n (a0c a0j (a0c (a0z h1j (pv 6) (a0z m0r a0j (b0l g_law_draw (hr.mono (by decide)) (a0c (pv 0) (a0c (pv 1) a0e))))) a0e)))))
  b0m)))
  b0m)
  (a0m (h0n (c0w K PySem.F.plainAttrs_list PySem.F.slot_list_append PySem.F.type_list_append h0q (pv 3) (a0c (pv 6) a0e))))))))))
  (a0m (b0c (pv 3))))),(a0h (a0p (b0r a0d) rfl)
  (a0h (j0a (pin:=(fun _=>false)) (j0k (a0a (a0i b0o a0g (a0k (a0a a0b (a0a a0b a0d)))) a0d)) (b0i rfl)
  (a0h (a0p (a0k (a0a a0b (a0a a0g a0d))) rfl)
  (a0h (a0p (a0i b0o a0g (a0k (a0a a0b (a0a (a0i b0o (a0i g0v a0g a0b) a0g) a0d)))) rfl)
  (a0h (b0v (a0n (a0i d0c a0b a0g))
  (a0p (a0i g0v a0g (a0k (a0a a0b (a0a a0b a0d)))) rfl)
  a0v)
  (a0h (b0v (a0n (a0i d0c a0b a0g))
  (a0h (a0p (a0k (a0a a0b (a0a a0b a0d))) rfl)
  (a0p (a0i g0v (a0i b0o (a0i g0v a0g (a0i b0o a0g (a0k (a0a a0b (a0a (a0i b0o a0b a0b) a0d))))) a0g) a0b) rfl))
  a0v)
  (a0h (b0v (p0f (a0n (a0i d0d a0b a0g)) (a0n (a0i j0r a0b (b0r a0d))))
  (a0h (a0p (a0i c0g a0b (a0k (a0a a0b (a0a (b0n c0k (a0a a0b a0d)) a0d)))) rfl)
  (b0v (a0n (a0i d0d a0b a0g))
  (a0p (b0n f1z (a0a a0g (a0a (a0i b0o a0b (a0i g0v a0g (a0k (a0a a0b (a0a a0b a0d))))) a0d))) rfl)
  a0v))
  a0v)
  (g0n (m0e a0b (a0a a0b a0d)))))))))
  (a0u a0b)))⟩) ?_
 rintro ss q ⟨n,many,most,rfl,hn,h1,h2,h3,h4,hq⟩
 refine ⟨rfl,rfl,?_⟩
 have pm:2 ≤ 2 ^ many∧2 ^ many ≤ 4096:=⟨Nat.pow_le_pow_right (n:=2) (by decide) h1,Nat.pow_le_pow_right (n:=2) (by decide) h2⟩
 have ep:(1:Int) * (2:Int) ^ ((many:Int).toNat) = ((2 ^ many:Nat):Int):=by rw [j0b,Nat.shiftLeft_eq,Nat.one_mul]
 refine cutS (fun ρ=>ρ = [.tp n,nv many,nv most,.ow [],.un,.un,.un,.un]) (fun M hM=>⟨by simp,hM _ rfl⟩) ?_
 rintro _ rfl
 refine cutS (fun ρ=>∃ rows n' s4 s5 s6 s7,h0z many rows∧rows ≠ []∧n' ≤ n + 200∧ρ = [.tp n',nv many,nv most,.ow (a0y rows),s4,s5,s6,s7]) (fun M hM=>⟨rfl,n,most,rfl,by omega,Dv.small (by omega) (by omega),fun c hc=>⟨⟨by omega,by omega⟩,?_⟩⟩) ?_
 ·refine w0u (fun k ρ=>∃ rows n' s4 s5 s6 s7,(∀ r ∈ rows,1 ≤ r∧r < 2 ^ many)∧rows.length = k∧n' ≤ n + 1 + 8 * k∧ρ = [.tp n',nv many,nv most,.ow (a0y rows),s4,s5,s6,s7]) (fun _ _ _=>trivial) ?_ ?_ ⟨[],n + 1,.un,.un,.un,.un,(fun r hr=>nomatch hr),rfl,by omega,rfl⟩
  ·rintro k _ M1 hk ⟨rows,n0,s4,s5,s6,s7,hrows,hlen,hn0,rfl⟩ hM1
   have hk':k < 25:=by omega
   have hne:∀ r ∈ rows,r < 4096:=fun r hr=>Nat.lt_of_lt_of_le (hrows r hr).2 pm.2
   refine cutS (fun ρ=>∃ way:Nat,ρ = [.tp (n0 + 1),nv many,nv most,.ow (a0y rows),.vl (.int (0 + (k:Int))),nv way,s6,s7]) (fun M2 hM2=>⟨rfl,n0,7,rfl,by omega,Dv.small (by decide) (by decide),fun r hr=>hM2 _ ⟨r,rfl⟩⟩) ?_
   rintro _ ⟨way,rfl⟩
   refine cutS (fun ρ=>∃ r:Nat,1 ≤ r∧r < 2 ^ many∧ρ = [.tp (n0 + 2),nv many,nv most,.ow (a0y rows),.vl (.int (0 + (k:Int))),nv way,nv r,s7]) (fun M2 hM2=>⟨⟨by omega,by omega,by decide⟩,rfl,n0 + 1,(1:Int) * 2 ^ ((many:Int).toNat) - 1,rfl,by omega,by rw [ep]; exact Dv.small (by omega) (by omega),fun r hr=>?_⟩) ?_
   ·rw [ep] at hr
    exact hM2 _ ⟨1 + r,by omega,by omega,by rw [← u0a (show (1:Int) + (r:Int) = ((1 + r:Nat):Int) by omega)]; rfl⟩
   rintro _ ⟨r,hr1,hr2,rfl⟩
   refine cutS (fun ρ=>∃ r n1:Nat,1 ≤ r∧r < 2 ^ many∧n1 ≤ n0 + 3∧ρ = [.tp n1,nv many,nv most,.ow (a0y rows),.vl (.int (0 + (k:Int))),nv way,nv r,s7]) (fun M2 hM2=>b0f rfl rfl (by simp [D.depth]) rfl (ite2 (fun _=>?_) fun _=>hM2 _ ⟨r,n0 + 2,hr1,hr2,by omega,rfl⟩)) ?_
   ·refine ⟨rfl,n0 + 2,many,rfl,by omega,Dv.small (by omega) (by omega),fun x hx=>⟨⟨by omega,by omega,by decide⟩,hM2 _ ⟨2 ^ x,n0 + 3,Nat.pos_of_ne_zero (by simp),Nat.pow_lt_pow_right (by decide) (by omega),by omega,?_⟩⟩⟩
    have e:(1:Int) * (2:Int) ^ ((x:Int).toNat) = ((2 ^ x:Nat):Int):=by rw [j0b,Nat.shiftLeft_eq,Nat.one_mul]
    rw [← u0a e]; rfl
   rintro _ ⟨r,n1,hr1,hr2,hn1,rfl⟩
   refine cutS (fun ρ=>∃ (r n2:Nat) (s7:Sv),1 ≤ r∧r < 2 ^ many∧n2 ≤ n1 + 2∧ρ = [.tp n2,nv many,nv most,.ow (a0y rows),.vl (.int (0 + (k:Int))),nv way,nv r,s7]) (fun M2 hM2=>b0f rfl rfl (by simp [D.depth]) rfl (ite2 (fun _=>?_) fun _=>hM2 _ ⟨r,n1,s7,hr1,hr2,by omega,rfl⟩)) ?_
   ·refine ⟨rfl,n1,many,rfl,by omega,Dv.small (by omega) (by omega),fun x hx=>?_⟩
    refine ⟨rfl,n1 + 1,(many:Int) - (x:Int),rfl,by omega,Dv.small (by omega) (by omega),fun y hy=>?_⟩
    have e1:(1:Int) * (2:Int) ^ (((1:Int) + (y:Int)).toNat) - 1 = ((2 ^ (1 + y) - 1:Nat):Int):=by
     have:((1:Int) + (y:Int)).toNat = 1 + y:=by omega
     rw [this]
     have h2:=j0b (1 + y)
     rw [Int.toNat_natCast,Nat.shiftLeft_eq,Nat.one_mul] at h2
     rw [h2]
     have:=Nat.two_pow_pos (1 + y)
     omega
    have hy1:2 ≤ 2 ^ (1 + y):=Nat.pow_le_pow_right (n:=2) (by decide) (show 1 ≤ 1 + y by omega)
    have hy2:2 ^ (1 + y) ≤ 4096:=Nat.pow_le_pow_right (n:=2) (by decide) (show 1 + y ≤ 12 by omega)
    have hx1:1 ≤ 2 ^ x:=Nat.two_pow_pos x
    have e2:((2 ^ (1 + y) - 1:Nat):Int) * (2:Int) ^ ((x:Int).toNat) = (((2 ^ (1 + y) - 1) * 2 ^ x:Nat):Int):=by
     rw [Int.toNat_natCast,Int.natCast_mul,Int.natCast_pow]; rfl
    refine ⟨⟨by omega,by omega,by decide⟩,⟨by omega,by omega,?_⟩,hM2 _ ⟨(2 ^ (1 + y) - 1) * 2 ^ x,n1 + 2,nv x,?_,?_,by omega,?_⟩⟩
    ·show ((1:Int) * (2:Int) ^ (((1:Int) + (y:Int)).toNat) - 1).natAbs < _
     rw [e1,Int.natAbs_natCast]; omega
    ·exact Nat.mul_pos (by omega) hx1
    ·have h3:(2 ^ (1 + y) - 1) * 2 ^ x < 2 ^ (1 + y) * 2 ^ x:=Nat.mul_lt_mul_of_pos_right (by omega) hx1
     rw [← Nat.pow_add] at h3
     exact Nat.lt_of_lt_of_le h3 (Nat.pow_le_pow_right (by decide) (by omega))
    ·rw [← u0a e2,← e1]; rfl
   rintro _ ⟨r,n2,s7,hr1,hr2,hn2,rfl⟩
   refine cutS (fun ρ=>∃ (r n3:Nat),1 ≤ r∧r < 2 ^ many∧n3 ≤ n2 + 2∧ρ = [.tp n3,nv many,nv most,.ow (a0y rows),.vl (.int (0 + (k:Int))),nv way,nv r,s7]) (fun M2 hM2=>ite2 (fun _=>⟨by simp,b0f rfl rfl (u0x _) rfl (ite2 (fun hh=>?_) fun _=>hM2 _ ⟨r,n2,hr1,hr2,by omega,rfl⟩)⟩) fun _=>hM2 _ ⟨r,n2,hr1,hr2,by omega,rfl⟩) ?_
   ·have hpos:0 < rows.length:=by
     cases rows with
     | nil=>exact absurd hh (by decide +kernel)
     | cons _ _=>simp
    refine cutS (fun ρ=>∃ (r:Nat),1 ≤ r∧r < 2 ^ many∧ρ = [.tp (n2 + 1),nv many,nv most,.ow (a0y rows),.vl (.int (0 + (k:Int))),nv way,nv r,s7]) (fun M3 hM3=>?_) ?_
    ·refine ⟨rfl,n2,(((a0y rows).length:Nat):Int),rfl,by omega,by rw [b0j]; exact Dv.small (by omega) (by omega),fun x hx=>?_⟩
     rw [b0j] at hx
     have hx':x < rows.length:=by omega
     have hm:=hrows (rows.getD x 0) (by rw [List.getD_eq_getElem?_getD,List.getElem?_eq_getElem hx']; exact List.getElem_mem hx')
     exact i0i rfl hx' (hM3 _ ⟨rows.getD x 0,hm.1,hm.2,rfl⟩)
    rintro _ ⟨r,hr1,hr2,rfl⟩
    refine ite2 (fun _=>?_) fun _=>hM2 _ ⟨r,n2 + 1,hr1,hr2,by omega,rfl⟩
    refine ⟨rfl,n2 + 1,many,rfl,by omega,Dv.small (by omega) (by omega),fun x hx=>⟨⟨by omega,by omega,by decide⟩,?_⟩⟩
    have e:(1:Int) * (2:Int) ^ ((x:Int).toNat) = ((2 ^ x:Nat):Int):=by rw [j0b,Nat.shiftLeft_eq,Nat.one_mul]
    have hx2:2 ^ x < 2 ^ many:=Nat.pow_lt_pow_right (by decide) (by omega)
    have hxr:r ^^^ 2 ^ x < 2 ^ many:=Nat.xor_lt_two_pow hr2 hx2
    refine hM2 _ ⟨max 1 (r ^^^ 2 ^ x),n2 + 2,by omega,by omega,by omega,?_⟩
    have e2:(if Builtin.bitXor (r:Int) ((1:Int) * (2:Int) ^ ((x:Int).toNat)) > 1 then Builtin.bitXor (r:Int) ((1:Int) * (2:Int) ^ ((x:Int).toNat)) else 1) = ((max 1 (r ^^^ 2 ^ x):Nat):Int):=by
     rw [e,y0r]
     split <;> omega
    rw [← u0a e2]; rfl
   rintro _ ⟨r,n3,hr1,hr2,hn3,rfl⟩
   refine ⟨by rw [b0j]; omega,hM1 _ ⟨rows ++ [r],n3,_,_,_,_,?_,by rw [List.length_append,hlen]; rfl,by omega,by rw [o0j]; rfl⟩⟩
   intro x hx
   rcases List.mem_append.mp hx with hx | hx
   ·exact hrows x hx
   ·rw [List.mem_singleton.mp hx]; exact ⟨hr1,hr2⟩
  ·rintro _ ⟨rows,n',s4,s5,s6,s7,hrows,hlen,hn',rfl⟩
   exact hM _ ⟨rows,n',s4,s5,s6,s7,⟨h1,h2,by omega,hrows⟩,fun z=>(by rw [z] at hlen; simp at hlen; omega),by omega,rfl⟩
 rintro _ ⟨rows,n',s4,s5,s6,s7,hR,hne,hn',rfl⟩
 exact hq rows n' hR hne hn'
theorem t0w (dn:DefN K mg "_law_wish" i0d ["_law_tape_here"]) (B:BI mg) (g_law_draw:OkN P w K mg base 1 "_law_draw" ["_law_tape_here", "_law_many"] (spA K t0e)) (g_law_wish_rows:OkN P w K mg base 2 "_law_wish_rows" ["_law_tape_here", "_law_many", "_law_most"] (spA K d1l)):OkN P w K mg base 3 "_law_wish" ["_law_tape_here"] (spA K l1h):=by
 refine dn.aok2 (k:=2) m0i (fun j=>j == 0) [.un] l1h rfl (fun f cdv A outer s H E hr=>have hu:=d0r hr; ⟨_,(a0f (a0t (i:=1) m0i.nd rfl (by first | exact Or.inl rfl | exact Or.inr rfl) (a0z d0y a0j (b0l g_law_draw (hr.mono (by decide)) (a0c (pv 0) (a0c a0j a0e)))))
  (a0m (b0c (r0d (a0c (pv 1) (a0c (c0o (j0i K) rfl B.tuple_ k0g (a0c (b0l g_law_wish_rows (hr.mono (by decide)) (a0c (pv 0) (a0c (pv 1) (a0c a0j a0e)))) a0e)) a0e)))))),(a0h (a0p (a0i b0o a0g (a0k (a0a a0b (a0a a0g a0d)))) rfl)
  (a0u (m0c (a0a a0b (a0a (b0n k0w (a0a (a0k (a0a a0b (a0a a0b (a0a a0g a0d)))) a0d)) a0d)))))⟩) ?_
 rintro ss q ⟨n,rfl,hn,hq⟩
 refine ⟨rfl,rfl,rfl,n,_,rfl,by omega,Dv.small (by decide) (by decide),fun m hm=>?_⟩
 have em:(1:Int) + (m:Int) = ((1 + m:Nat):Int):=by omega
 refine ⟨rfl,n + 1,1 + m,24,by rw [← u0a em]; rfl,by omega,by omega,by omega,by omega,by omega,fun rows n' hR hne hn'=>?_⟩
 have h:=hq (1 + m) rows n' hR hne (by omega)
 unfold i0z at h
 rw [show nD (1 + m) = D.int (1 + (m:Int)) from by rw [em]] at h
 exact ⟨by simp,h⟩
theorem l0l (dn:DefN K mg "_law_wish_text" c0v ["_law_wish_here"]) (B:BI mg):OkN P w K mg base 1 "_law_wish_text" ["_law_wish_here"] (spA K o0z):=by
 refine dn.aok2 (k:=0) c0l (fun j=>j == 0) [.un,.un,.un,.un] o0z rfl (fun f cdv A outer s H E hr=>have hu:=d0r hr; ⟨_,(a0f (a1f (pv 0) (p0t K (n:=2) rfl (f0s (b0s (i:=1) c0l.nd rfl (by first | exact Or.inl rfl | exact Or.inr rfl)) (f0s (b0s (i:=2) c0l.nd rfl (by first | exact Or.inl rfl | exact Or.inr rfl)) p0s))))
  (a0f (a0t (i:=3) c0l.nd rfl (by first | exact Or.inl rfl | exact Or.inr rfl) (c0f (a0c (a0z d0o a0s (c0o e0o rfl B.str_ o0x (a0c (pv 1) a0e))) a0e)))
  (a0f (o0b PassesOwn.never rfl (h0o K (pv 2)) (b0s (i:=4) c0l.nd rfl (by first | exact Or.inl rfl | exact Or.inr rfl))
  (a0m (h0n (c0w K PySem.F.plainAttrs_list PySem.F.slot_list_append PySem.F.type_list_append h0q (pv 3) (a0c (c0w K PySem.F.plainAttrs_str PySem.F.slot_str_join PySem.F.type_str_join (g0w K) a0s (a0c (a0z (e0d K) (c0f (a0c a0s a0e)) (j0d ["_law_k"] [4] rfl (Blk.of (a0l c0v) h0c) (j0p rfl B.range_ (a0c (pv 1) a0e)) (fun _ _ _ _ nd=>(b0s (i:=0) nd rfl (by first | exact Or.inl rfl | exact Or.inr rfl))) (fun _ _ _ _=>(t0p (a0x (d0b K hr.units) (a0z h1m (a0z h1k (pv 1) (pv 0)) a0j) a0j (b0e _)))) (fun _ _ _ _=>(c0o e0o rfl B.str_ o0x (a0c (pv 0) a0e))))) a0e)) a0e)))))
  (a0m (b0c (c0w K PySem.F.plainAttrs_str PySem.F.slot_str_join PySem.F.type_str_join (g0w K) a0s (a0c (pv 3) a0e))))))),(a0h (z0q a0b (l0q (d0l (b0i rfl) (d0l (b0i rfl) j0l (fun _ _ _=>h0s)) (fun _ _ _=>h0s))))
  (a0h (a0p (b0r (a0a (a0i f0t a0q (b0n h0w (a0a a0b a0d))) a0d)) rfl)
  (a0h (j0a (pin:=(fun j=>j == 2)) (f0n a0b) (b0i rfl)
  (g0n (m0e a0b (a0a (e0w a0q (a0a (a0i e0e (b0r (a0a a0q a0d)) (e0x (j0k (a0a a0b a0d)) (b0i rfl) (a0n (a0i d0c (a0i b0o (a0i g0v a0b a0b) a0g) a0g)) (b0n h0w (a0a a0b a0d)))) a0d)) a0d))))
  (a0u (e0w a0q (a0a a0b a0d))))))⟩) ?_
 rintro ss q ⟨m,rows,rfl,hm,hl,hr,hq⟩
 refine ⟨rfl,rfl,?_⟩
 have t0:(tnI m).length ≤ 3:=v0r _ (by omega)
 have hr':∀ r ∈ rows,r < 4096:=fun r h=>a1g hm (hr r h)
 refine ⟨lg (by omega),?_,by simp,?_⟩
 ·show (Str.ofString "wish ").length + (tnI m).length ≤ _
  rw [b1f]; omega
 dsimp only [stS,pt,back,R.frz]
 refine cutS (fun ρ=>∃ s4,ρ = [.vl (i0z m rows),nv m,.vl (.tup (a0y rows)),.ow (([wL m] ++ rows.map rowT).map D.str),s4]) (fun M hM=>?_) ?_
 ·refine q0f nD (fun k ρ=>∃ s4,ρ = [.vl (i0z m rows),nv m,.vl (.tup (a0y rows)),.ow (([wL m] ++ (rows.take k).map rowT).map D.str),s4]) (fun _ _ _=>trivial) ?_ ?_ ⟨.un,rfl⟩
  ·rintro k r _ M' hk ⟨s4,rfl⟩ hM'
   have hrm:=hr r (List.mem_of_getElem? hk)
   have hr4:=hr' r (List.mem_of_getElem? hk)
   have hi:k < rows.length:=(List.getElem?_eq_some_iff.mp hk).1
   have gl:=g0g hr4
   refine ⟨by simp,⟨by omega,by omega⟩,by rw [f0q]; omega,?_⟩
   refine k0d (fun j acc ρ=>acc = ((List.range j).filter r.testBit).map (fun k=>D.str (tnI k))∧ρ = [.vl (i0z m rows),nv m,.vl (.tup (a0y rows)),.ow (([wL m] ++ (rows.take k).map rowT).map D.str),nv r]∧j ≤ 12) (fun _ _ _ _ _=>trivial) ?_ ?_ _ ⟨rfl,rfl,by omega⟩
   ·rintro j d acc _ N hj ⟨rfl,rfl,hj12⟩ hN
    obtain ⟨lt,rfl⟩:=l0u hj
    rw [Int.zero_add]
    refine ⟨Int.natCast_nonneg _,?_⟩
    refine b0f rfl rfl (by simp [D.depth]) (b:=r.testBit j) ?_ ?_
    ·show eqD (.int (Builtin.bitAnd ((r:Int) / 2 ^ ((j:Int).toNat)) 1)) (.int 1) = _
     rw [d1c]
     cases r.testBit j <;> simp [eqD]
    have lt':j < 12:=by omega
    cases e:r.testBit j with
    | true=>exact ⟨lg (by omega),hN _ _ ⟨by rw [List.range_succ,List.filter_append,List.map_append]; simp [e,tnI],rfl,by omega⟩⟩
    | false=>exact hN _ _ ⟨by rw [List.range_succ,List.filter_append,List.map_append]; simp [e],rfl,by omega⟩
   rintro acc _ ⟨rfl,rfl,_⟩
   rw [f0q,Int.toNat_natCast,f0u hrm]
   refine ⟨by simp only [List.length_map,List.length_append,List.length_cons,List.length_nil]; omega,?_⟩
   refine e0y (ys:=[Str.ofString "row"] ++ (c0a r).map tnI) ?_ (Nat.le_trans (m0j hr4) (by decide)) ⟨?_,hM' _ ⟨nv r,?_⟩⟩
   ·show some (D.lst ([D.str (Str.ofString "row")] ++ (c0a r).map (fun p=>D.str (tnI p)))) = _
    rw [List.map_append,List.map_map]; rfl
   ·rw [List.length_map,List.length_append,List.length_map,List.length_take]; simp only [List.length_cons,List.length_nil]; omega
   ·have e:rows.take (k + 1) = rows.take k ++ [r]:=by rw [List.take_succ,hk]; rfl
    rw [e,List.map_append (l₂:=[r]),← List.append_assoc,List.map_append (l₂:=[r].map rowT)]; rfl
  ·rintro _ ⟨s4,rfl⟩
   rw [List.take_length]
   exact hM _ ⟨s4,rfl⟩
 rintro _ ⟨s4,rfl⟩
 refine e0y (ys:=[wT m] ++ rows.map rowT) ?_ (n0u hm hl hr') hq
 rw [← p1h]; rfl
theorem r0n (dn:DefN K mg "_law_whole" g0r ["_law_found"]) (B:BI mg):OkN P w K mg base 1 "_law_whole" ["_law_found"] (spA K n0h):=by
 refine dn.aok2 (k:=0) q0z (fun j=>j == 0) [] n0h rfl (fun f cdv A outer s H E hr=>have hu:=d0r hr; ⟨_,(a0m (b0c (i0t (a0r (h0y K) rfl B.isinstance_ a0w (a0c (pv 0) (a0c (x0r rfl B.int_ w0y) a0e))) (o0f (m1r (a0r (h0y K) rfl B.isinstance_ a0w (a0c (pv 0) (a0c (x0r rfl B.bool_ c1z) a0e)))))))),(a0u (e0f (b0n k0f (a0a a0b (a0a q0r a0d))) (d1z (b0n k0f (a0a a0b (a0a q0r a0d))))))⟩) ?_
 rintro ss q ⟨d,rfl,hq⟩
 refine ⟨rfl,rfl,?_⟩
 cases d with
 | non=>exact f0l rfl s0f hq
 | str _=>exact f0l rfl s0e hq
 | tup _=>exact f0l rfl n0p hq
 | lst _=>exact f0l rfl p0z hq
 | bl b=>exact f0l rfl q0b (f0l rfl n0q hq)
 | int i=>exact f0l rfl s0g (f0l rfl q0a hq)
end
theorem v0m:∀ {os:List Str},os.all (fun o=>(numW o).isSome) = true→os = (os.filterMap numW).map tnI
 | [],_=>rfl
 | o :: os,h=>by
  rw [List.all_cons,Bool.and_eq_true] at h
  cases e:numW o with
  | none=>rw [e] at h; cases h.1
  | some n =>
   rw [List.filterMap_cons,e,List.map_cons,← v0m h.2,← (a1x e).2]
theorem h1e {word row:Str} (h:b0w word row ≠ []):row = Txt.join (Str.ofString " ") (word :: (b0w word row).map tnI):=by
 have hj:=e0i row (Str.ofString " ")
 unfold b0w at h ⊢
 cases es:Txt.split row (Str.ofString " ") with
 | nil=>rw [es] at h; exact absurd rfl h
 | cons a os =>
  rw [es] at h hj
  dsimp only at h ⊢
  split at h
  ·rename_i c
   rw [if_pos c,← v0m c.2,← c.1]
   exact hj.symm
  ·exact absurd rfl h
theorem q0o:∀ {xs:List Nat},(∀ x ∈ xs,x < 1000)→((xs.map tnI).all fun o=>(numW o).isSome) = true∧(xs.map tnI).filterMap numW = xs
 | [],_=>⟨rfl,rfl⟩
 | x :: xs,h=>by
  have hx:=u0e (h x (.head _))
  have:=q0o (xs:=xs) fun y hy=>h y (.tail _ hy)
  rw [List.map_cons,List.all_cons,List.filterMap_cons,hx,this.1,this.2]
  exact ⟨rfl,rfl⟩
theorem z0l {word:Str} {xs:List Nat} (hw:32 ∉ word.cps.toList) (hx:∀ x ∈ xs,x < 1000):Txt.split (Txt.join (Str.ofString " ") (word :: xs.map tnI)) (Str.ofString " ") = word :: xs.map tnI:=by
 rw [p0h]
 refine l0r (by simp) fun p hp=>?_
 rcases List.mem_cons.mp hp with rfl | hp
 ·exact hw
 ·obtain ⟨x,hx',rfl⟩:=List.mem_map.mp hp
  exact (i0b x (hx x hx')).2
theorem n1c {word:Str} {xs:List Nat} (hw:32 ∉ word.cps.toList) (hx:∀ x ∈ xs,x < 1000):b0w word (Txt.join (Str.ofString " ") (word :: xs.map tnI)) = xs:=by
 unfold b0w
 rw [z0l hw hx]
 obtain ⟨a,b⟩:=q0o hx
 dsimp only
 rw [if_pos ⟨rfl,a⟩,b]
theorem q0m {c:Nat} {a b:Str} (ha:c ∉ a.cps.toList) (hb:c ∉ b.cps.toList):c ∉ (a ++ b).cps.toList:=by
 rw [d0f]; intro h
 rcases List.mem_append.mp h with h | h
 ·exact ha h
 ·exact hb h
theorem b1m (c:Nat):∀ (a:Str) (ys:List Str),(Txt.join ⟨#[c]⟩ (a :: ys)).cps.toList = a.cps.toList ++ ys.flatMap fun y=>c :: y.cps.toList
 | a,[]=>by rw [d0z]; simp
 | a,y :: ys=>by
  rw [c0x,d0f,d0f,b1m c y ys]
  simp
theorem f1r (xs:List (Array Nat)) (a:Array Nat):(xs.foldl (· ++ ·) a).toList = a.toList ++ xs.flatMap (·.toList):=by
 induction xs generalizing a with
 | nil=>simp
 | cons x xs ih=>rw [List.foldl_cons,ih]; simp
theorem j1t {z:Str} {n:Nat} (hn:2 ≤ n) (hz:z.length ≠ 0):(Txt.mul z (n:Nat)).cps.toList = (List.replicate n ()).flatMap fun _=>z.cps.toList:=by
 unfold Txt.mul
 rw [if_neg (by omega),if_neg (by simp; exact ⟨by omega,hz⟩)]
 rw [f1r]
 simp only [Int.toNat_natCast]
 induction n with
 | zero=>rfl
 | succ n ih=>clear ih hn; induction n with
  | zero=>simp [List.replicate]
  | succ n ih=>rw [List.replicate_succ,List.replicate_succ (a:=()),List.flatMap_cons,List.flatMap_cons,← List.append_assoc]; simp only [List.nil_append] at ih ⊢; rw [ih]
theorem i1z (c:Nat) (y:Str) (n:Nat):((List.replicate n y).flatMap fun y=>c :: y.cps.toList) = (List.replicate n ()).flatMap fun _=>c :: y.cps.toList:=by
 induction n with
 | zero=>rfl
 | succ n ih=>rw [List.replicate_succ,List.replicate_succ (a:=()),List.flatMap_cons,List.flatMap_cons,ih]
theorem e1k:∀ {xs ys:List Nat},xs.Pairwise (· < ·)→ys.Pairwise (· < ·)→(∀ x,x ∈ xs↔x ∈ ys)→xs = ys:=by
 intro xs ys h1 h2 h
 have:=j0o (k0h.mpr h1) (k0h.mpr h2) fun x=>by
  rw [List.mem_map,List.mem_map]
  exact ⟨fun ⟨y,hy,e⟩=>⟨y,(h y).mp hy,e⟩,fun ⟨y,hy,e⟩=>⟨y,(h y).mpr hy,e⟩⟩
 exact List.map_inj_right (fun a b e=>by omega) |>.mp this
theorem w0s (r:Nat):(c0a r).Pairwise (· < ·):=List.Pairwise.filter _ List.pairwise_lt_range
theorem b1y {xs:List Nat} (h:xs.Pairwise (· < ·)):c0a (c0t xs) = xs:=by
 refine e1k (w0s _) h fun k=>?_
 have nd:xs.Nodup:=h.imp fun {a b} z=>by omega
 rw [x0x,m0k,decide_eq_true_eq]
 have hc:=List.Nodup.count (a:=k) nd
 rw [hc]
 split
 ·rename_i z; exact ⟨fun _=>z,fun _=>rfl⟩
 ·rename_i z; exact ⟨fun y=>by simp at y,fun y=>absurd y z⟩
theorem l1t (m:Nat):Txt.join (Str.ofString " ") [Str.ofString "wish",tnI m] = wT m:=by
 rw [c0x,d0z]; unfold wT
 rw [show Str.ofString "wish" ++ Str.ofString " " = Str.empty ++ Str.ofString "wish " by decide +kernel]
theorem i1v {xs:List Nat} (h:xs.Pairwise (· < ·)):Txt.join (Str.ofString " ") (Str.ofString "row" :: xs.map tnI) = rowT (c0t xs):=by
 unfold rowT; rw [b1y h]; rfl
theorem t0m (r:Nat):rowT r = Txt.join (Str.ofString " ") (Str.ofString "row" :: (c0a r).map tnI):=rfl
theorem w0b {m:Nat}:∀ (rs:List Str) (k:Nat) (S S':List Nat),runW m S rs k = .inr S'→S.map rowT ++ rs = S'.map rowT
 | [],k,S,S',h=>by
  simp only [runW,Sum.inr.injEq] at h
  subst h; simp
 | r :: rs,k,S,S',h=>by
  rw [g0d] at h
  cases e2:h0e m S r with
  | none=>rw [e2] at h; cases h
  | some S2 =>
   rw [e2] at h
   rw [← w0b rs (k + 1) S2 S' h]
   obtain ⟨_,c2,rfl⟩:=f0a e2
   obtain ⟨g1,g2,g3⟩:=o0l c2
   have hr:=h1e g1
   rw [i1v g2] at hr
   rw [List.map_append,List.map_cons,List.map_nil,← hr]
   simp
theorem h1c {m:Nat}:∀ (rs:List Str) (k:Nat) (S S':List Nat),runW m S rs k = .inr S'→S.length ≤ 24→(∀ r ∈ S,1 ≤ r∧r < 2 ^ m)→S'.length ≤ 24∧∀ r ∈ S',1 ≤ r∧r < 2 ^ m
 | [],k,S,S',h,a,b=>by
  simp only [runW,Sum.inr.injEq] at h
  subst h; exact ⟨a,b⟩
 | r :: rs,k,S,S',h,a,b=>by
  rw [g0d] at h
  cases e2:h0e m S r with
  | none=>rw [e2] at h; cases h
  | some S2 =>
   rw [e2] at h
   obtain ⟨c1,c2,rfl⟩:=f0a e2
   obtain ⟨g1,g2,g3⟩:=o0l c2
   refine h1c rs (k + 1) _ S' h (by rw [List.length_append]; simp only [List.length_cons,List.length_nil]; omega) fun x hx=>?_
   rcases List.mem_append.mp hx with hx | hx
   ·exact b x hx
   ·rw [List.mem_singleton.mp hx]
    refine ⟨?_,p0l g3⟩
    have hg:=b1y g2
    rcases Nat.eq_zero_or_pos (c0t (b0w (Str.ofString "row") r)) with z | z
    ·rw [z] at hg; exact absurd hg.symm g1
    ·exact z
theorem j1a {t:Str} {m:Nat} {rows:List Nat} (h:f0w t = .inr (m,rows)):h0z m rows∧rows ≠ []∧i0y m rows = t:=by
 cases es:Txt.split t (Str.ofString "\n") with
 | nil=>exact absurd es (b0y _ _)
 | cons r0 rs =>
  obtain ⟨a1,a2,a3,hS,hos⟩:=r0c es h
  obtain ⟨b1,b2⟩:=h1c rs 1 [] rows hS (by simp) (fun r hr=>(nomatch hr))
  refine ⟨⟨a2,a3,b1,b2⟩,hos,?_⟩
  have hr:=h1e (word:=Str.ofString "wish") (row:=r0) (by rw [a1]; simp)
  rw [a1] at hr
  have h0:r0 = wT m:=hr.trans (l1t m)
  have h1:=w0b rs 1 _ rows hS
  simp only [List.map_nil,List.nil_append] at h1
  have hj:=e0i t (Str.ofString "\n")
  rw [es,h0,h1] at hj
  exact hj
theorem l1s:32 ∉ (Str.ofString "row").cps.toList:=by decide +kernel
theorem l1r:32 ∉ (Str.ofString "wish").cps.toList:=by decide +kernel
theorem n1y {r m:Nat} (h:r < 2 ^ m):∀ k ∈ c0a r,k < m:=fun k hk=>by
 rw [← f0u h] at hk
 exact List.mem_range.mp (List.mem_filter.mp hk).1
theorem n1x {r:Nat} (h:1 ≤ r):c0a r ≠ []:=fun z=>by
 have:=l0c r
 rw [z] at this
 have e:c0t [] = 0:=rfl
 omega
theorem e1c {m r:Nat} {S:List Nat} (hm:m ≤ 12) (h1:1 ≤ r) (h2:r < 2 ^ m) (hl:S.length < 24):h0e m S (rowT r) = some (S ++ [r]):=by
 have hg:=n1y h2
 have e:b0w (Str.ofString "row") (rowT r) = c0a r:=n1c l1s fun x hx=>by have:=hg x hx; omega
 unfold h0e
 rw [e,n1r (n1x h1) (w0s r) hg,if_neg (fun z=>by rcases z with z | z; omega; cases z),l0c]
theorem w0c {m:Nat} (hm:m ≤ 12):∀ (rows:List Nat) (rest:List Str) (k:Nat) (S:List Nat),(∀ r ∈ rows,1 ≤ r∧r < 2 ^ m)→S.length + rows.length ≤ 24→runW m S (rows.map rowT ++ rest) k = runW m (S ++ rows) rest (k + rows.length)
 | [],rest,k,S,_,_=>by simp
 | r :: rows,rest,k,S,h,hl=>by
  rw [List.length_cons] at hl
  obtain ⟨h1,h2⟩:=h r (.head _)
  rw [List.map_cons,List.cons_append,g0d,e1c hm h1 h2 (by omega)]
  dsimp only
  rw [w0c hm rows rest (k + 1) _ (fun x hx=>h x (.tail _ hx)) (by rw [List.length_append]; simp only [List.length_cons,List.length_nil]; omega)]
  rw [List.append_assoc,List.length_cons,show k + 1 + rows.length = k + (rows.length + 1) by omega]; rfl
theorem b1k {c d:Nat} (hd:d ≠ c):∀ {ys:List Str},(∀ y ∈ ys,c ∉ y.cps.toList)→c ∉ (Txt.join ⟨#[d]⟩ ys).cps.toList
 | [],_=>by rw [show Txt.join ⟨#[d]⟩ [] = Str.empty from rfl]; exact fun z=>(nomatch z)
 | [x],h=>by rw [d0z]; exact h x (.head _)
 | x :: y :: r,h=>by
  rw [c0x]
  exact q0m (q0m (h x (.head _)) (by simp; exact fun z=>hd z.symm)) (b1k hd fun z hz=>h z (.tail _ hz))
theorem s0o {r:Nat} (h:r < 4096):10 ∉ (rowT r).cps.toList:=by
 rw [t0m,p0h]
 refine b1k (by decide) fun y hy=>?_
 rcases List.mem_cons.mp hy with rfl | hy
 ·decide +kernel
 ·obtain ⟨k,hk,rfl⟩:=List.mem_map.mp hy
  exact (i0b k (by have:=h0t h k hk; omega)).1
theorem k1o {m:Nat} (h:m < 1000):10 ∉ (wT m).cps.toList:=q0m (by decide +kernel) (i0b m h).1
theorem h0z.lt {m:Nat} {rows:List Nat} (h:h0z m rows):∀ r ∈ rows,r < 4096:=fun r hr=>a1g h.2.1 (h.2.2.2 r hr).2
theorem b1v {m:Nat} {rest:List Str} (h1:1 ≤ m) (h2:m ≤ 12) (hs:Txt.split (Txt.join (Str.ofString "\n") (wT m :: rest)) (Str.ofString "\n") = wT m :: rest):n0r (Str.ofString "wish") (Txt.join (Str.ofString "\n") (wT m :: rest)) = some m:=by
 have e:b0w (Str.ofString "wish") (wT m) = [m]:=by
  have:=n1c (xs:=[m]) l1r (by simp; omega)
  rwa [List.map_cons,List.map_nil,l1t] at this
 unfold n0r
 rw [hs]
 dsimp only
 rw [e,if_pos ⟨rfl,h1,h2⟩]
 rfl
theorem x0n {m:Nat} {rest:List Str} (h2:m ≤ 12) (h:∀ y ∈ rest,10 ∉ y.cps.toList):Txt.split (Txt.join (Str.ofString "\n") (wT m :: rest)) (Str.ofString "\n") = wT m :: rest:=by
 rw [k0t]
 refine l0r (by simp) fun p hp=>?_
 rcases List.mem_cons.mp hp with rfl | hp
 ·exact k1o (by omega)
 ·exact h p hp
theorem p0n {m:Nat} {rows:List Nat} {rest:List Str} (h:h0z m rows) (hf:∀ y ∈ rest,10 ∉ y.cps.toList):f0w (Txt.join (Str.ofString "\n") (wT m :: (rows.map rowT ++ rest))) = match runW m rows rest (1 + rows.length) with
  | .inl k=>.inl k
  | .inr S=>if S = [] then .inl (1 + (rows.length + rest.length)) else .inr (m,S):=by
 have hs:=x0n (m:=m) (rest:=rows.map rowT ++ rest) h.2.1 fun y hy=>by
  rcases List.mem_append.mp hy with hy | hy
  ·obtain ⟨r,hr,rfl⟩:=List.mem_map.mp hy
   exact s0o (h.lt r hr)
  ·exact hf y hy
 unfold f0w
 rw [b1v h.1 h.2.1 hs,hs]
 dsimp only [List.tail]
 rw [w0c h.2.1 rows rest 1 [] h.2.2.2 (by have:=h.2.2.1; simpa using this),List.nil_append]
 rw [List.length_cons,List.length_append,List.length_map,Nat.add_comm _ 1]
 all_goals rfl
theorem r0b {m:Nat} {rows:List Nat} (h:h0z m rows) (hn:rows ≠ []):f0w (i0y m rows) = .inr (m,rows):=by
 have e:=p0n (rest:=[]) h fun y hy=>(nomatch hy)
 rw [List.append_nil] at e
 have e2:i0y m rows = Txt.join (Str.ofString "\n") (wT m :: rows.map rowT):=rfl
 rw [e2,e]
 show (if rows = [] then _ else _) = _
 rw [if_neg hn]
theorem e1l {m:Nat} (h1:1 ≤ m) (h2:m ≤ 12):f0w (wT m) = .inl 1:=by
 have e:=p0n (m:=m) (rows:=[]) (rest:=[]) ⟨h1,h2,by simp,fun r hr=>(nomatch hr)⟩ fun y hy=>(nomatch hy)
 rw [List.map_nil,List.append_nil,d0z] at e
 rw [e]; rfl
theorem tn_2:∀ k < 12,(tnI k).length ≤ 2:=by decide +kernel
theorem t0f:∀ {ys:List Str} {c:Nat},(∀ y ∈ ys,y.length + 1 ≤ c)→wsum ys ≤ ys.length * c
 | [],_,_=>by simp [wsum]
 | y :: ys,c,h=>by
  have h1:=h y (.head _)
  have h2:=t0f (ys:=ys) (c:=c) fun z hz=>h z (.tail _ hz)
  rw [e0j,List.length_cons,Nat.add_mul]; omega
theorem i1w {r:Nat} (h:r < 4096):(rowT r).length ≤ 39:=by
 rw [t0m,p0h]
 have h1:=s0b 32 (ys:=Str.ofString "row" :: (c0a r).map tnI) (by simp)
 rw [e0j,n1i] at h1
 have h2:=t0f (ys:=(c0a r).map tnI) (c:=3) fun y hy=>by
  obtain ⟨k,hk,rfl⟩:=List.mem_map.mp hy
  have:=tn_2 k (h0t h k hk); omega
 rw [List.length_map] at h2
 have:=g0g h
 omega
theorem wT_8 {m:Nat} (h:m ≤ 12):(wT m).length ≤ 8:=by
 have:=v0r m (by omega)
 unfold wT; rw [Str.length_append,Str.length_append,b1f,l_e]; omega
theorem p0b {m:Nat} {rows:List Nat} (h:h0z m rows):(i0y m rows).length ≤ 1000:=by
 have e2:i0y m rows = Txt.join (Str.ofString "\n") (wT m :: rows.map rowT):=rfl
 rw [e2,k0t]
 have h1:=s0b 10 (ys:=wT m :: rows.map rowT) (by simp)
 rw [e0j] at h1
 have h2:=t0f (ys:=rows.map rowT) (c:=40) fun y hy=>by
  obtain ⟨r,hr,rfl⟩:=List.mem_map.mp hy
  have:=i1w (h.lt r hr); omega
 rw [List.length_map] at h2
 have:=h.2.2.1
 have:=wT_8 h.2.1
 omega
theorem v0d {r:Nat} (h:r < 4096):bl (rowT r) ≤ 12:=by
 rw [t0m,p0h]
 have:=l0z (ys:=Str.ofString "row" :: (c0a r).map tnI) (by simp) fun y hy=>by
  rcases List.mem_cons.mp hy with rfl | hy
  ·exact l1s
  ·obtain ⟨k,hk,rfl⟩:=List.mem_map.mp hy
   exact (i0b k (by have:=h0t h k hk; omega)).2
 rw [List.length_cons,List.length_map] at this
 have:=g0g h
 omega
theorem l1c {m:Nat} (h:m ≤ 12):bl (wT m) ≤ 12:=by
 unfold wT
 rw [l0i,v0e (i0b m (by omega)).2]
 exact Nat.le_trans (by decide +kernel) (show 1 ≤ 12 by decide)
theorem u0o {m:Nat} {rows:List Nat} (h:h0z m rows):LB 12 (i0y m rows):=by
 refine j0g fun y hy=>?_
 rcases List.mem_append.mp hy with hy | hy
 ·rw [List.mem_singleton.mp hy]; exact j0x (l1c h.2.1)
 ·obtain ⟨r,hr,rfl⟩:=List.mem_map.mp hy
  exact j0x (v0d (h.lt r hr))
def rr:Str:=rowT 2049
theorem c_r:(Str.ofString "\nrow 0 11").cps.toList = 10 :: rr.cps.toList:=by decide +kernel
theorem c_w:(Str.ofString "wish 12").cps.toList = (wT 12).cps.toList:=by decide +kernel
theorem c_0:(Str.ofString "\nrow 0").cps.toList = 10 :: (rowT 1).cps.toList:=by decide +kernel
theorem w_3:Str.ofString "wish 3" = wT 3:=by decide +kernel
theorem k0r:h0z 12 (List.replicate 24 2049):=⟨by decide,by decide,by rw [List.length_replicate]; decide,fun r hr=>by rw [List.eq_of_mem_replicate hr]; decide⟩
theorem w0p:(Str.ofString "wish 12" ++ Txt.mul (Str.ofString "\nrow 0 11") 24).cps.toList = (wT 12).cps.toList ++ (List.replicate 24 rr).flatMap fun y=>10 :: y.cps.toList:=by
 rw [d0f,c_w,show (24:Int) = ((24:Nat):Int) from rfl,j1t (by decide) (by decide +kernel),c_r,i1z]
theorem rrs:List.replicate 24 rr = (List.replicate 24 2049).map rowT:=by rw [List.map_replicate]; rfl
theorem u0n:Str.ofString "wish 12" ++ Txt.mul (Str.ofString "\nrow 0 11") 24 = i0y 12 (List.replicate 24 2049):=by
 have e2:i0y 12 (List.replicate 24 2049) = Txt.join (Str.ofString "\n") (wT 12 :: (List.replicate 24 2049).map rowT):=rfl
 refine h0h ?_
 rw [e2,k0t,b1m,w0p,rrs]
theorem h1p:i0y 12 (List.replicate 24 2049) ++ Str.ofString "\nrow 0" = Txt.join (Str.ofString "\n") (wT 12 :: ((List.replicate 24 2049).map rowT ++ [rowT 1])):=by
 refine h0h ?_
 rw [← u0n,k0t,b1m,d0f,w0p,c_0,rrs,List.flatMap_append,← List.append_assoc]
 simp
theorem m1d:f0w (i0y 12 (List.replicate 24 2049) ++ Str.ofString "\nrow 0") = .inl 25:=by
 rw [h1p,p0n k0r fun y hy=>by rw [List.mem_singleton.mp hy]; exact s0o (by decide)]
 rw [g0d]
 have e:h0e 12 (List.replicate 24 2049) (rowT 1) = none:=by
  unfold h0e
  rw [if_pos (.inl (by rw [List.length_replicate]))]
 rw [e,List.length_replicate]
theorem lb_x:LB 12 (i0y 12 (List.replicate 24 2049) ++ Str.ofString "\nrow 0"):=by
 rw [h1p]
 refine j0g fun y hy=>?_
 rcases List.mem_cons.mp hy with rfl | hy
 ·exact j0x (l1c (by decide))
 ·rcases List.mem_append.mp hy with hy | hy
  ·obtain ⟨r,hr,rfl⟩:=List.mem_map.mp hy
   exact j0x (v0d (k0r.lt r hr))
  ·rw [List.mem_singleton.mp hy]; exact j0x (v0d (by decide))
theorem p1t:∃ L X W:Str,Str.ofString "wish 12" ++ Txt.mul (Str.ofString "\nrow 0 11") 24 = L∧Str.ofString "\nrow 0" = X∧Str.ofString "wish 3" = W∧L.length ≤ 1000∧X.length ≤ 100∧W.length ≤ 100∧LB 12 L∧LB 12 (L ++ X)∧LB 12 W∧f0w L = .inr (12,List.replicate 24 2049)∧f0w (L ++ X) = .inl 25∧f0w W = .inl 1
  ∧ (Str.ofString "wish 12").length + (Txt.mul (Str.ofString "\nrow 0 11") 24).length ≤ 1000 :=
 ⟨i0y 12 (List.replicate 24 2049),_,wT 3,u0n,rfl,w_3,p0b k0r,by decide +kernel,Nat.le_trans (wT_8 (by decide)) (by decide),u0o k0r,lb_x,j0x (l1c (by decide)),r0b k0r (by decide),m1d,e1l (by decide) (by decide),by
  have:=p0b k0r
  rw [← u0n,Str.length_append] at this
  exact this⟩
theorem gE0 {a:Nat} {b:Int} {c:Bool} {ρ:En} {q:Ko} (h:decide ((a:Int) = b) = c) (hq:q (.d (.bl c)) ρ):gEq false (.d (.int (a:Int))) (.d (.int b)) ρ q:=b0f rfl rfl (by simp [D.depth]) (b:=c) (by unfold eqD; exact h) (by exact hq)
def SAl:Addr→ASp:=fun C ss q=>∃ d,ss = [.ex C (some [("row",d)]),nv 10]∧q (.d (.bl true)) [.ex C (some [("row",d)]),nv 10]
def d1o:ASp:=fun ss q=>∃ (t:Str) (d:D),ss = [.vl (.str t),.vl d]∧t.length ≤ 15990∧Few t∧d = dueD t∧q (.d (.bl true)) [.vl (.str t),.vl d]
theorem o0q (m:Nat) (rows:List Nat):(i0z m rows).depth ≤ 60:=by
 have h:depths (a0y rows) = 0:=by
  unfold a0y
  induction rows with
  | nil=>rfl
  | cons x xs ih=>simp [depths,D.depth,ih]
 simp [i0z,D.depth,depths,h]
section
variable {P:Program} {w:World} {K:PySem.W.Frag} {mg:Str→Option Value} {base:Heap}
def XF (K:PySem.W.Frag) (mg:Str→Option Value):Prop:=∃ C_NoText C_JoinError C_NoFit C_TooMany C_NoWidth C_NoRow C_NoName C_Nought C_Bare C_Loose C_Leans C_NoAnswer f_NoText:Addr,mg "NoText" = some (.ref C_NoText)∧mg "JoinError" = some (.ref C_JoinError)∧mg "NoFit" = some (.ref C_NoFit)∧mg "TooMany" = some (.ref C_TooMany)∧mg "NoWidth" = some (.ref C_NoWidth)∧mg "NoRow" = some (.ref C_NoRow)∧mg "NoName" = some (.ref C_NoName)∧mg "Nought" = some (.ref C_Nought)∧mg "Bare" = some (.ref C_Bare)∧mg "Loose" = some (.ref C_Loose)∧mg "Leans" = some (.ref C_Leans)∧mg "NoAnswer" = some (.ref C_NoAnswer)∧mg "ValueError" = none∧y0p K C_NoText f_NoText "row" "NoText.__init__" d0u ["self", "row"]∧y0q K C_JoinError∧i0w K C_JoinError = true∧PySem.W.subIn K (.ref C_NoText) (.ref C_JoinError) = some true∧ExIs K C_NoText∧PySem.W.kitOne K (.ref C_NoText) (.ref C_NoFit) = some false∧PySem.W.kitOne K (.ref C_NoText) (.ref C_TooMany) = some false∧PySem.W.kitOne K (.ref C_NoText) (.ref C_NoWidth) = some false∧PySem.W.kitOne K (.ref C_NoText) (.type "ValueError") = some true∧PySem.W.kitOne K (.ref C_NoText) (.ref C_NoRow) = some false∧PySem.W.kitOne K (.ref C_NoText) (.ref C_NoName) = some false∧PySem.W.kitOne K (.ref C_NoText) (.ref C_Nought) = some false∧PySem.W.kitOne K (.ref C_NoText) (.ref C_Bare) = some false∧PySem.W.kitOne K (.ref C_NoText) (.ref C_Loose) = some false∧PySem.W.kitOne K (.ref C_NoText) (.ref C_Leans) = some false∧PySem.W.kitOne K (.ref C_NoText) (.ref C_NoAnswer) = some false∧PySem.W.kitOne K (.ref C_NoText) (.ref C_NoText) = some true∧ExG K C_NoText "row"
theorem XF.mk {K:PySem.W.Frag} {mg:Str→Option Value} {h:Heap} {C_NoText C_JoinError C_NoFit C_TooMany C_NoWidth C_NoRow C_NoName C_Nought C_Bare C_Loose C_Leans C_NoAnswer f_NoText:Addr} {oc_NoText kV_NoText doc_NoText pm_NoText cdv_NoText ct_NoText:Value} {od_NoText an_NoText:Option Addr} {osl_NoText:Array (Option Value)} (KX:K.In h) (G:h.Ns mainGlobals mg) (f0:PySem.W.nsIn K mainGlobals "NoText" = some (some (.ref C_NoText))) (f1:PySem.W.nsIn K mainGlobals "JoinError" = some (some (.ref C_JoinError))) (f2:PySem.W.nsIn K mainGlobals "NoFit" = some (some (.ref C_NoFit))) (f3:PySem.W.nsIn K mainGlobals "TooMany" = some (some (.ref C_TooMany))) (f4:PySem.W.nsIn K mainGlobals "NoWidth" = some (some (.ref C_NoWidth))) (f5:PySem.W.nsIn K mainGlobals "NoRow" = some (some (.ref C_NoRow))) (f6:PySem.W.nsIn K mainGlobals "NoName" = some (some (.ref C_NoName))) (f7:PySem.W.nsIn K mainGlobals "Nought" = some (some (.ref C_Nought))) (f8:PySem.W.nsIn K mainGlobals "Bare" = some (some (.ref C_Bare))) (f9:PySem.W.nsIn K mainGlobals "Loose" = some (some (.ref C_Loose))) (f10:PySem.W.nsIn K mainGlobals "Leans" = some (some (.ref C_Leans))) (f11:PySem.W.nsIn K mainGlobals "NoAnswer" = some (some (.ref C_NoAnswer))) (f12:PySem.W.nsIn K mainGlobals "ValueError" = some none) (f13_0:PySem.W.findIn K (.ref C_NoText) "__init__" = some (some (.ref f_NoText))) (f13_1:K.lookup f_NoText = some ⟨oc_NoText,od_NoText,.func (PySem.W.fnOf "__init__" "NoText.__init__" (g0z d0u) (d0k d0u) (a0l d0u) .none kV_NoText doc_NoText pm_NoText an_NoText cdv_NoText ct_NoText),osl_NoText⟩) (f13_2:PySem.W.codeIn K cdv_NoText "NoText.__init__" = true) (f13_3:PySem.W.keepIn K (.ref f_NoText) = true) (f13_4:n0d K C_NoText f_NoText = true) (f13_5:PySem.W.typeIn K (.ref f_NoText) = some (.type "function")) (f13_6:PySem.W.findIn K (.ref C_NoText) "__setattr__" = some (some (.builtin "object.__setattr__"))) (f13_7:PySem.W.findIn K (.ref C_NoText) "row" = some none) (f14_0:PySem.W.specialIn K (.ref C_JoinError) "__getattribute__" = some (some (.builtin "type.__getattribute__"))) (f14_1:PySem.W.readsIn K C_JoinError (.type "type") = true) (f14_2:PySem.W.findCls K (.ref C_JoinError) (.type "type") "__init__" = some (.val (.builtin "ValueError.__init__"))) (f15:PySem.W.excIn K C_JoinError bmV "ValueError.__new__" = true) (f16:PySem.W.subIn K (.ref C_NoText) (.ref C_JoinError) = some true) (f17_0:PySem.W.findIn K (.ref C_NoText) "__getattribute__" = some (some (.builtin "BaseException.__getattribute__"))) (f17_1:PySem.W.findIn K (.ref C_NoText) "__getattr__" = some none) (f17_2:PySem.W.hasDictIn K C_NoText = true) (f17_3:PySem.W.findIn K (.ref C_NoText) "__class__" = some (some (.builtin "object.__class__"))) (f17_4:PySem.W.specialIn K (.builtin "object.__class__") "__get__" = some (some (.builtin "getset_descriptor.__get__"))) (f17_5:PySem.W.takesIn K (.builtin "object.__class__") = some true) (f17_6:PySem.W.mroIn K C_NoText (.type "object") = some true) (f17_7:PySem.W.subIn K (.ref C_NoText) (.type "BaseException") = some true) (f18:PySem.W.kitOne K (.ref C_NoText) (.ref C_NoFit) = some false) (f19:PySem.W.kitOne K (.ref C_NoText) (.ref C_TooMany) = some false) (f20:PySem.W.kitOne K (.ref C_NoText) (.ref C_NoWidth) = some false) (f21:PySem.W.kitOne K (.ref C_NoText) (.type "ValueError") = some true) (f22:PySem.W.kitOne K (.ref C_NoText) (.ref C_NoRow) = some false) (f23:PySem.W.kitOne K (.ref C_NoText) (.ref C_NoName) = some false) (f24:PySem.W.kitOne K (.ref C_NoText) (.ref C_Nought) = some false) (f25:PySem.W.kitOne K (.ref C_NoText) (.ref C_Bare) = some false) (f26:PySem.W.kitOne K (.ref C_NoText) (.ref C_Loose) = some false) (f27:PySem.W.kitOne K (.ref C_NoText) (.ref C_Leans) = some false) (f28:PySem.W.kitOne K (.ref C_NoText) (.ref C_NoAnswer) = some false) (f29:PySem.W.kitOne K (.ref C_NoText) (.ref C_NoText) = some true) (f30_0:PySem.W.findIn K (.ref C_NoText) "__getattribute__" = some (some (.builtin "BaseException.__getattribute__"))) (f30_1:PySem.W.findIn K (.ref C_NoText) "__getattr__" = some none) (f30_2:PySem.W.hasDictIn K C_NoText = true) (f30_3:PySem.W.findIn K (.ref C_NoText) "__class__" = some (some (.builtin "object.__class__"))) (f30_4:PySem.W.specialIn K (.builtin "object.__class__") "__get__" = some (some (.builtin "getset_descriptor.__get__"))) (f30_5:PySem.W.takesIn K (.builtin "object.__class__") = some true) (f30_6:PySem.W.mroIn K C_NoText (.type "object") = some true) (f30_7:PySem.W.subIn K (.ref C_NoText) (.type "BaseException") = some true) (f30_8:PySem.W.findIn K (.ref C_NoText) "row" = some none) (f30_9:PySem.W.hasDictIn K C_NoText = true):XF K mg:=⟨C_NoText,C_JoinError,C_NoFit,C_TooMany,C_NoWidth,C_NoRow,C_NoName,C_Nought,C_Bare,C_Loose,C_Leans,C_NoAnswer,f_NoText,PySem.W.mg_of KX G f0,PySem.W.mg_of KX G f1,PySem.W.mg_of KX G f2,PySem.W.mg_of KX G f3,PySem.W.mg_of KX G f4,PySem.W.mg_of KX G f5,PySem.W.mg_of KX G f6,PySem.W.mg_of KX G f7,PySem.W.mg_of KX G f8,PySem.W.mg_of KX G f9,PySem.W.mg_of KX G f10,PySem.W.mg_of KX G f11,PySem.W.mg_none_of KX G f12,f1i f13_0 f13_1 f13_2 f13_3 f13_4 f13_5 f13_6 f13_7 (fun _ _ _ _ _ _ us hl=>match us,hl with | [_,_],_=>rfl),⟨f14_0,f14_1,f14_2⟩,c1h f15,f16,ExIs.of f17_0 f17_1 f17_2 f17_3 f17_4 f17_5 f17_6 f17_7,f18,f19,f20,f21,f22,f23,f24,f25,f26,f27,f28,f29,{ toExIs:=ExIs.of f30_0 f30_1 f30_2 f30_3 f30_4 f30_5 f30_6 f30_7,na:=f30_8,hd:=f30_9 }⟩
theorem r0q {C_NoText C_NoFit C_TooMany C_NoWidth C_NoRow C_NoName C_Nought C_Bare C_Loose C_Leans C_NoAnswer:Addr} (m_NoFit:mg "NoFit" = some (.ref C_NoFit)) (m_TooMany:mg "TooMany" = some (.ref C_TooMany)) (m_NoWidth:mg "NoWidth" = some (.ref C_NoWidth)) (n_ValueError:mg "ValueError" = none) (m_NoRow:mg "NoRow" = some (.ref C_NoRow)) (m_NoName:mg "NoName" = some (.ref C_NoName)) (m_Nought:mg "Nought" = some (.ref C_Nought)) (m_Bare:mg "Bare" = some (.ref C_Bare)) (m_Loose:mg "Loose" = some (.ref C_Loose)) (m_Leans:mg "Leans" = some (.ref C_Leans)) (m_NoAnswer:mg "NoAnswer" = some (.ref C_NoAnswer)) (m_NoText:mg "NoText" = some (.ref C_NoText)) (i_NoText:ExIs K C_NoText) (k_NoText_NoFit:PySem.W.kitOne K (.ref C_NoText) (.ref C_NoFit) = some false) (k_NoText_TooMany:PySem.W.kitOne K (.ref C_NoText) (.ref C_TooMany) = some false) (k_NoText_NoWidth:PySem.W.kitOne K (.ref C_NoText) (.ref C_NoWidth) = some false) (k_NoText_ValueError:PySem.W.kitOne K (.ref C_NoText) (.type "ValueError") = some true) (k_NoText_NoRow:PySem.W.kitOne K (.ref C_NoText) (.ref C_NoRow) = some false) (k_NoText_NoName:PySem.W.kitOne K (.ref C_NoText) (.ref C_NoName) = some false) (k_NoText_Nought:PySem.W.kitOne K (.ref C_NoText) (.ref C_Nought) = some false) (k_NoText_Bare:PySem.W.kitOne K (.ref C_NoText) (.ref C_Bare) = some false) (k_NoText_Loose:PySem.W.kitOne K (.ref C_NoText) (.ref C_Loose) = some false) (k_NoText_Leans:PySem.W.kitOne K (.ref C_NoText) (.ref C_Leans) = some false) (k_NoText_NoAnswer:PySem.W.kitOne K (.ref C_NoText) (.ref C_NoAnswer) = some false) (k_NoText_NoText:PySem.W.kitOne K (.ref C_NoText) (.ref C_NoText) = some true) (dn:DefN K mg "_law_alone" g0t ["_law_error", "_law_place"]) (B:BI mg):OkN P w K mg base 1 "_law_alone" ["_law_error", "_law_place"] (spA K (SAl C_NoText)):=by
 refine dn.aok2 (k:=0) e0l (fun j=>j == 0 || j == 1) [.un] (SAl C_NoText) rfl (fun f cdv A outer s H E hr=>have hu:=d0r hr; ⟨_,(a0f (a0t (i:=2) e0l.nd rfl (by first | exact Or.inl rfl | exact Or.inr rfl) (c0f (a0c (a0r (c0p K (c:=.ref C_NoFit) (u:=.ref C_NoFit) (fun _ h=>h)) rfl B.isinstance_ a0w (a0c (pv 0) (a0c (e0t (v:=.ref C_NoFit) rfl m_NoFit rfl) a0e))) (a0c (a0r (c0p K (c:=.ref C_TooMany) (u:=.ref C_TooMany) (fun _ h=>h)) rfl B.isinstance_ a0w (a0c (pv 0) (a0c (e0t (v:=.ref C_TooMany) rfl m_TooMany rfl) a0e))) (a0c (a0r (c0p K (c:=.ref C_NoWidth) (u:=.ref C_NoWidth) (fun _ h=>h)) rfl B.isinstance_ a0w (a0c (pv 0) (a0c (e0t (v:=.ref C_NoWidth) rfl m_NoWidth rfl) a0e))) a0e)))))
  (a0f (a0t (i:=2) e0l.nd rfl (by first | exact Or.inl rfl | exact Or.inr rfl) (a0z (e0d K) (pv 2) (c0f (a0c (a0r (c0p K (c:=.ref C_NoRow) (u:=.ref C_NoRow) (fun _ h=>h)) rfl B.isinstance_ a0w (a0c (pv 0) (a0c (e0t (v:=.ref C_NoRow) rfl m_NoRow rfl) a0e))) (a0c (a0r (c0p K (c:=.ref C_NoName) (u:=.ref C_NoName) (fun _ h=>h)) rfl B.isinstance_ a0w (a0c (pv 0) (a0c (e0t (v:=.ref C_NoName) rfl m_NoName rfl) a0e))) (a0c (a0r (c0p K (c:=.ref C_Nought) (u:=.ref C_Nought) (fun _ h=>h)) rfl B.isinstance_ a0w (a0c (pv 0) (a0c (e0t (v:=.ref C_Nought) rfl m_Nought rfl) a0e))) a0e))))))
  (a0f (a0t (i:=2) e0l.nd rfl (by first | exact Or.inl rfl | exact Or.inr rfl) (a0z (e0d K) (pv 2) (c0f (a0c (a0r (c0p K (c:=.ref C_Bare) (u:=.ref C_Bare) (fun _ h=>h)) rfl B.isinstance_ a0w (a0c (pv 0) (a0c (e0t (v:=.ref C_Bare) rfl m_Bare rfl) a0e))) (a0c (a0r (c0p K (c:=.ref C_Loose) (u:=.ref C_Loose) (fun _ h=>h)) rfl B.isinstance_ a0w (a0c (pv 0) (a0c (e0t (v:=.ref C_Loose) rfl m_Loose rfl) a0e))) (a0c (a0r (c0p K (c:=.ref C_Leans) (u:=.ref C_Leans) (fun _ h=>h)) rfl B.isinstance_ a0w (a0c (pv 0) (a0c (e0t (v:=.ref C_Leans) rfl m_Leans rfl) a0e))) a0e))))))
  (a0f (a0t (i:=2) e0l.nd rfl (by first | exact Or.inl rfl | exact Or.inr rfl) (a0z (e0d K) (pv 2) (c0f (a0c (a0r (c0p K (c:=.ref C_NoAnswer) (u:=.ref C_NoAnswer) (fun _ h=>h)) rfl B.isinstance_ a0w (a0c (pv 0) (a0c (e0t (v:=.ref C_NoAnswer) rfl m_NoAnswer rfl) a0e))) (a0c (a0r (c0p K (c:=.ref C_NoText) (u:=.ref C_NoText) (fun _ h=>h)) rfl B.isinstance_ a0w (a0c (pv 0) (a0c (e0t (v:=.ref C_NoText) rfl m_NoText rfl) a0e))) a0e)))))
  (a0m (b0c (i0t (a0r (c0p K (c:=.ty "ValueError") (u:=.type "ValueError") (fun _ h=>h)) rfl B.isinstance_ a0w (a0c (pv 0) (a0c (x0r (T := "ValueError") rfl n_ValueError (by decide +kernel)) a0e))) (i0t (k0n (d0b K hr.units) (c0w K PySem.F.plainAttrs_list PySem.F.slot_list_count PySem.F.type_list_count (b1c K) (pv 2) (a0c j1l a0e)) a0j (b0e _)) (o0f (e0c (b0q K) (pv 2) (pv 1) (fun _ _=>rfl))))))))))),(a0h (a0p (b0r (a0a e0r (a0a e0r (a0a e0r a0d)))) rfl)
  (a0h (a0p (a0i e0e a0b (b0r (a0a e0r (a0a e0r (a0a e0r a0d))))) rfl)
  (a0h (a0p (a0i e0e a0b (b0r (a0a e0r (a0a e0r (a0a e0r a0d))))) rfl)
  (a0h (a0p (a0i e0e a0b (b0r (a0a e0r (a0a e0r a0d)))) rfl)
  (a0u (e0f e0r (e0f (a0i d0c (i1h a0b (a0a y0z a0d)) a0g) (a0i c0g a0b a0b))))))))⟩) ?_
 rintro ss q ⟨d,rfl,hq⟩
 refine ⟨rfl,rfl,?_⟩
 refine cutS (fun ρ=>ρ = [.ex C_NoText (some [("row",d)]),nv 10,.ow (([false,false,false]).map D.bl)]) (fun M hM=>⟨false,i_NoText,k_NoText_NoFit,false,i_NoText,k_NoText_TooMany,false,i_NoText,k_NoText_NoWidth,by simp,hM _ rfl⟩) ?_
 rintro _ rfl
 refine cutS (fun ρ=>ρ = [.ex C_NoText (some [("row",d)]),nv 10,.ow (([false,false,false,false,false,false]).map D.bl)]) (fun M hM=>⟨false,i_NoText,k_NoText_NoRow,false,i_NoText,k_NoText_NoName,false,i_NoText,k_NoText_Nought,by simp,by simp,hM _ rfl⟩) ?_
 rintro _ rfl
 refine cutS (fun ρ=>ρ = [.ex C_NoText (some [("row",d)]),nv 10,.ow (([false,false,false,false,false,false,false,false,false]).map D.bl)]) (fun M hM=>⟨false,i_NoText,k_NoText_Bare,false,i_NoText,k_NoText_Loose,false,i_NoText,k_NoText_Leans,by simp,by simp,hM _ rfl⟩) ?_
 rintro _ rfl
 refine cutS (fun ρ=>ρ = [.ex C_NoText (some [("row",d)]),nv 10,.ow (([false,false,false,false,false,false,false,false,false,false,true]).map D.bl)]) (fun M hM=>⟨false,i_NoText,k_NoText_NoAnswer,true,i_NoText,k_NoText_NoText,by simp,by simp,hM _ rfl⟩) ?_
 rintro _ rfl
 refine ⟨true,i_NoText,k_NoText_ValueError,k1l ⟨rfl,gE0 (c:=true) rfl (g0i rfl rfl hq)⟩⟩
theorem r0p {C_NoText C_JoinError:Addr} (m_NoText:mg "NoText" = some (.ref C_NoText)) (m_JoinError:mg "JoinError" = some (.ref C_JoinError)) (ea_JoinError:i0w K C_JoinError = true) (s_NoText_JoinError:PySem.W.subIn K (.ref C_NoText) (.ref C_JoinError) = some true) (g_NoText:ExG K C_NoText "row") (i_NoText:ExIs K C_NoText) (dn:DefN K mg "_law_right" f0i ["_law_text", "_law_due_here"]) (B:BI mg) (g_read_wish:OkN P w K mg base 4 "read_wish" ["text"] (spA K x0f)) (g_law_alone:OkN P w K mg base 1 "_law_alone" ["_law_error", "_law_place"] (spA K (SAl C_NoText))) (g_law_whole:OkN P w K mg base 1 "_law_whole" ["_law_found"] (spA K n0h)) (g_wish_text:OkN P w K mg base 3 "wish_text" ["wish"] (spA K o0z)) (x_read_wish_NoText:OkX P w K mg base 4 "read_wish" ["text"] C_NoText (some "row") (spA K v0h)):OkN P w K mg base 5 "_law_right" ["_law_text", "_law_due_here"] (spA K d1o):=by
 refine dn.aok2 (k:=4) d0n (fun j=>j == 0 || j == 1) [.un,.un,.un] d1o rfl (fun f cdv A outer s H E hr=>have hu:=d0r hr; ⟨_,(a0f (a0t (i:=2) d0n.nd rfl (by first | exact Or.inl rfl | exact Or.inr rfl) h0b)
  (a0f (a0t (i:=3) d0n.nd rfl (by first | exact Or.inl rfl | exact Or.inr rfl) h0b)
  (a0f (p1n (j1f (a0m (a0t (i:=2) d0n.nd rfl (by first | exact Or.inl rfl | exact Or.inr rfl) (b0l g_read_wish (hr.mono (by decide)) (a0c (pv 0) a0e)))))
  (j1e x_read_wish_NoText (hr.mono (by decide)) rfl rfl rfl rfl (a0c (pv 0) a0e) j1q (fun od=>(n1w (i:=4) rfl m_JoinError ea_JoinError s_NoText_JoinError d0n.nd rfl rfl (fun a =>
  (a0m (a0t (i:=3) d0n.nd rfl (by first | exact Or.inl rfl | exact Or.inr rfl) (pv 4))))))))
  (a0f (d0q (a0x j1o (pv 3) h0b (b0e _))
  (a0m (b0c (i0t (b0l g_law_alone (hr.mono (by decide)) (a0c (pv 3) (a0c a0j a0e))) (i0t (b0l g_law_whole (hr.mono (by decide)) (a0c (a1l (pv 3)) a0e)) (o0f (k0n (d0b K hr.units) (a1l (pv 3)) (pv 1) (b0e _)))))))
  b0m)
  (a0f (d0q (PW.pt (h0f (e0v (i0r (a0r (h0y K) rfl B.isinstance_ a0w (a0c (pv 2) (a0c (x0r rfl B.tuple_ k0g) a0e))))) (h0f (a0x (j0q K hr.units) (pv 2) (pv 1) (b0e _)) (h0f (e0v (i0r (b0l g_law_whole (hr.mono (by decide)) (a0c (e0c (b0q K) (pv 2) a0j (fun _ _=>rfl)) a0e)))) (h0m (e0v (i0r (a0r (h0y K) rfl B.isinstance_ a0w (a0c (e0c (b0q K) (pv 2) a0j (fun _ _=>rfl)) (a0c (x0r rfl B.tuple_ k0g) a0e))))))))))
  (a0m (b0c j1l))
  b0m)
  (a0m (b0c (i0t (a0r (c1x K rfl) rfl B.all_ o1o (a0c (j0d ["_law_row"] [] rfl (Blk.of (a0l f0i) l0e) (h0o K (e0c (b0q K) (pv 2) a0j (fun _ _=>rfl))) (fun _ _ _ _ nd=>(b0s (i:=0) nd rfl (by first | exact Or.inl rfl | exact Or.inr rfl))) (fun _ _ _ _=>k0l) (fun _ _ _ _=>(b0l g_law_whole (hr.mono (by decide)) (a0c (pv 0) a0e)))) a0e)) (o0f (k0n (d0b K hr.units) (b0l g_wish_text (hr.mono (by decide)) (a0c (pv 2) a0e)) (pv 0) (b0e _))))))))))),(a0h (a0p e0q rfl)
  (a0h (a0p e0q rfl)
  (a0h (g1z (a0p (a0k (a0a a0b a0d)) rfl)
  (e1e (a0a a0b a0d)
  (g1c rfl (a0p a0b rfl))))
  (a0h (b0v (a0n (a0i e1w a0b e0q))
  (a0u (e0f (a0k (a0a a0b (a0a a0g a0d))) (e0f (a0k (a0a v0q a0d)) (a0i d0c v0q a0b))))
  a0v)
  (a0h (b0v (c0r (c0c (h0g (b0n k0f (a0a a0b (a0a q0r a0d))))) (c0r (a0n (a0i j0r a0b a0b)) (c0r (c0c (h0g (a0k (a0a (a0i c0g a0b a0g) a0d)))) (c0c (h0g (b0n k0f (a0a (a0i c0g a0b a0g) (a0a q0r a0d))))))))
  (a0u y0z)
  a0v)
  (a0u (e0f (b0n g1b (a0a (e0x (f0n (a0i c0g a0b a0g)) (b0i rfl) i0a (a0k (a0a a0b a0d))) a0d)) (a0i d0c (a0k (a0a a0b a0d)) a0b))))))))⟩) ?_
 rintro ss q ⟨t,d,rfl,hz,hf,hd,hq⟩
 refine ⟨rfl,rfl,?_⟩
 unfold dueD at hd
 cases hr:f0w t with
 | inl k =>
  rw [hr] at hd
  dsimp only at hd
  subst hd
  refine .inr ⟨rfl,t,k,rfl,hz,hf,hr,?_⟩
  refine ⟨rfl,rfl,_,rfl,?_⟩
  refine ⟨nD k,rfl,g_NoText,rfl,_,rfl,?_⟩
  refine ⟨nD k,rfl,g_NoText,?_⟩
  exact b0f rfl rfl (by simp [D.depth]) (b:=true) (e0z _) hq
 | inr p =>
  obtain ⟨m,rows⟩:=p
  rw [hr] at hd
  dsimp only at hd
  subst hd
  obtain ⟨ok,hne,ht⟩:=j1a hr
  refine .inl ⟨rfl,t,m,rows,rfl,hz,hf,hr,?_⟩
  have rlt:∀ r ∈ rows,r < 2 ^ m:=fun r hr=>(ok.2.2.2 r hr).2
  have hl24:=ok.2.2.1
  refine f0l rfl h0d ?_
  refine b0f (neg:=true) rfl rfl (o0q m rows) (b:=true) (e0z _) ?_
  refine k1k (i:=0) (ds:=[nD m,.tup (a0y rows)]) (d:=nD m) rfl (at0 _ _) ⟨rfl,_,rfl,?_⟩
  refine k1k (i:=1) (ds:=[nD m,.tup (a0y rows)]) (d:=.tup (a0y rows)) rfl rfl (f0l rfl h0d ?_)
  refine k1k (i:=1) (ds:=[nD m,.tup (a0y rows)]) (d:=.tup (a0y rows)) rfl rfl ⟨?_,g1i _ trivial (fun x acc N _ hN=>⟨rfl,_,rfl,hN⟩) (k1m rfl ?_)⟩
  ·rw [b0j]; omega
  ·rw [show (rows.map fun _=>true).all id = true by simp]
   refine ⟨rfl,m,rows,rfl,ok.2.1,hl24,rlt,?_⟩
   exact b0f rfl rfl (by simp [D.depth]) (b:=true) (by rw [ht]; exact e0z _) hq
theorem m1y (dn:DefN K mg "law" e1h ["_law_script"]) (B:BI mg) (g_law_tape:OkN P w K mg base 1 "_law_tape" ["_law_script"] (spA K l1i)) (g_law_wish:OkN P w K mg base 3 "_law_wish" ["_law_tape_here"] (spA K l1h)) (g_law_wish_text:OkN P w K mg base 1 "_law_wish_text" ["_law_wish_here"] (spA K o0z)) (g_law_due:OkN P w K mg base 3 "_law_due" ["_law_text"] (spA K l1k)) (g_law_bent:OkN P w K mg base 4 "_law_bent" ["_law_tape_here", "_law_text"] (spA K l1l)) (g_law_right:OkN P w K mg base 5 "_law_right" ["_law_text", "_law_due_here"] (spA K d1o)) (g_law_draw:OkN P w K mg base 1 "_law_draw" ["_law_tape_here", "_law_many"] (spA K t0e)) (g_read_wish:OkN P w K mg base 4 "read_wish" ["text"] (spA K x0f)):OkN P w K mg base 6 "law" ["_law_script"] (spA K SLaw):=by
 refine dn.aok2 (k:=5) l0b (fun j=>j == 0) [.un,.un,.un,.un,.un,.un] SLaw rfl (fun f cdv A outer s H E hr=>have hu:=d0r hr; ⟨_,(a0f (a0t (i:=1) l0b.nd rfl (by first | exact Or.inl rfl | exact Or.inr rfl) (b0l g_law_tape (hr.mono (by decide)) (a0c (pv 0) a0e)))
  (a0f (a0t (i:=2) l0b.nd rfl (by first | exact Or.inl rfl | exact Or.inr rfl) (b0l g_law_wish (hr.mono (by decide)) (a0c (pv 1) a0e)))
  (a0f (a0t (i:=3) l0b.nd rfl (by first | exact Or.inl rfl | exact Or.inr rfl) (b0l g_law_wish_text (hr.mono (by decide)) (a0c (pv 2) a0e)))
  (a0f (o0b PassesOwn.never rfl (j0p rfl B.range_ (a0c (a0z d0y a0j (b0l g_law_draw (hr.mono (by decide)) (a0c (pv 1) (a0c a0j a0e)))) a0e)) (b0s (i:=4) l0b.nd rfl (by first | exact Or.inl rfl | exact Or.inr rfl))
  (a0m (a0t (i:=3) l0b.nd rfl (by first | exact Or.inl rfl | exact Or.inr rfl) (b0l g_law_bent (hr.mono (by decide)) (a0c (pv 1) (a0c (pv 3) a0e))))))
  (a0f (a0t (i:=5) l0b.nd rfl (by first | exact Or.inl rfl | exact Or.inr rfl) (b0l g_law_due (hr.mono (by decide)) (a0c (pv 3) a0e)))
  (a0f (d0q (PW.pt (h0f (e0v (i0r (b0l g_law_right (hr.mono (by decide)) (a0c (pv 3) (a0c (pv 5) a0e))))) (h0f (e0v (i0r (b0l g_law_right (hr.mono (by decide)) (a0c (pv 3) (a0c (pv 5) a0e))))) (h0m (a0x (j0q K hr.units) (b0l g_read_wish (hr.mono (by decide)) (a0c (b0l g_law_wish_text (hr.mono (by decide)) (a0c (pv 2) a0e)) a0e)) (pv 2) (b0e _))))))
  (a0m (b0c j1l))
  b0m)
  (a0f (a0t (i:=6) l0b.nd rfl (by first | exact Or.inl rfl | exact Or.inr rfl) (a0z d0o a0s (a0z j1p a0s a0j)))
  (a0m (b0c (i0t (b0l g_law_right (hr.mono (by decide)) (a0c (pv 6) (a0c (r0d (a0c a0j (a0c (a0z (j1n K) (r0d (a0c a0j a0e)) a0j) a0e))) a0e))) (i0t (b0l g_law_right (hr.mono (by decide)) (a0c (a0z d0o (pv 6) a0s) (a0c a0j a0e))) (o0f (b0l g_law_right (hr.mono (by decide)) (a0c a0s (a0c a0j a0e))))))))))))))),(a0h (a0p (a0k (a0a a0b a0d)) rfl)
  (a0h (a0p (a0k (a0a a0b a0d)) rfl)
  (a0h (a0p (a0k (a0a a0b a0d)) rfl)
  (a0h (j0a (pin:=(fun _=>false)) (j0k (a0a (a0i b0o a0g (a0k (a0a a0b (a0a a0g a0d)))) a0d)) (b0i rfl)
  (a0p (a0k (a0a a0b (a0a a0b a0d))) rfl))
  (a0h (a0p (a0k (a0a a0b a0d)) rfl)
  (a0h (b0v (c0r (c0c (h0g (a0k (a0a a0b (a0a a0b a0d))))) (c0r (c0c (h0g (a0k (a0a a0b (a0a a0b a0d))))) (a0n (a0i j0r (a0k (a0a (a0k (a0a a0b a0d)) a0d)) a0b))))
  (a0u y0z)
  a0v)
  (a0h (a0p (a0i f0t a0q (a0i e1x a0q a0g)) rfl)
  (a0u (e0f (a0k (a0a a0b (a0a (m0c (a0a a0g (a0a (a0i e1v (m0c (a0a a0g a0d)) a0g) a0d))) a0d))) (e0f (a0k (a0a (a0i f0t a0b a0q) (a0a a0g a0d))) (a0k (a0a a0q (a0a a0g a0d)))))))))))))⟩) ?_
 rintro ss q ⟨ns,hl,rfl,hq⟩
 refine ⟨rfl,rfl,rfl,ns,rfl,?_⟩
 refine ⟨rfl,0,rfl,by omega,fun m rows n1 ok hne hn1=>?_⟩
 have wl:=p0b ok
 have rlt:∀ r ∈ rows,r < 2 ^ m:=fun r hr=>(ok.2.2.2 r hr).2
 refine ⟨rfl,m,rows,rfl,ok.2.1,ok.2.2.1,rlt,?_⟩
 dsimp only [stS,pt,back,R.frz]
 refine cutS (fun ρ=>∃ t n2 s4,t.length ≤ 15990∧LB 50 t∧ρ = [.vl (.lst (ns.map D.int)),.tp n2,.vl (i0z m rows),.vl (.str t),s4,.un,.un]) (fun M hM=>?_) ?_
 ·refine ⟨rfl,n1,3,rfl,by omega,Dv.small (by decide) (by decide),fun c hc=>⟨⟨by omega,by omega⟩,?_⟩⟩
  refine w0u (fun k ρ=>∃ t n2 s4,k ≤ 3∧t.length + 20 ≤ 1020 * 2 ^ k∧LB (12 + k) t∧n2 ≤ n1 + 1 + 20 * k∧ρ = [.vl (.lst (ns.map D.int)),.tp n2,.vl (i0z m rows),.vl (.str t),s4,.un,.un]) (fun _ _ _=>trivial) ?_ ?_ ⟨i0y m rows,n1 + 1,.un,by omega,by omega,u0o ok,by omega,rfl⟩
  ·rintro k _ M' hk ⟨t,n2,s4,hk3,ht,hb,hn2,rfl⟩ hM'
   have hk':k < 3:=by omega
   have pk:2 ^ k ≤ 4:=(by have:=Nat.pow_le_pow_right (n:=2) (by decide) (show k ≤ 2 by omega); omega)
   exact ⟨rfl,n2,12 + k,t,rfl,by omega,by omega,hb,fun x n3 hx hxb hn3=>hM' _ ⟨x,n3,_,by omega,by rw [Nat.pow_succ]; omega,hxb,by omega,rfl⟩⟩
  ·rintro ρ ⟨t,n2,s4,hk3,ht,hb,hn2,rfl⟩
   refine hM _ ⟨t,n2,s4,?_,hb.le (by omega),rfl⟩
   have pk:=Nat.pow_le_pow_right (n:=2) (by decide) hk3
   omega
 rintro _ ⟨t,n2,s4,ht,hb,rfl⟩
 have hf:=s0p hb
 refine ⟨rfl,t,rfl,ht,hf,?_⟩
 dsimp only [stS,pt,back,R.frz]
 refine ⟨rfl,t,dueD t,rfl,ht,hf,rfl,⟨rfl,t,dueD t,rfl,ht,hf,rfl,?_⟩⟩
 refine ⟨rfl,m,rows,rfl,ok.2.1,ok.2.2.1,rlt,⟨rfl,i0y m rows,m,rows,rfl,by omega,s0p ((u0o ok).le (by decide)),r0b ok hne,b0f (neg:=true) rfl rfl (o0q m rows) (b:=true) (e0z _) ?_⟩⟩
 obtain ⟨L,X,W,eL,eX,eW,lL,lX,lW,bL,bX,bW,rL,rX,rW,lsum⟩:=p1t
 refine ⟨by decide,by decide,by decide +kernel,?_,?_⟩
 ·show (Str.ofString "wish 12").length + (Txt.mul (Str.ofString "\nrow 0 11") 24).length ≤ _
  omega
 clear lsum
 dsimp only [stS,pt,back,R.frz]
 rw [eL,eX,eW]
 clear eL eX eW
 have f1:=s0p (bL.le (by decide))
 have f2:=s0p (bX.le (by decide))
 have f3:=s0p (bW.le (by decide))
 refine ⟨by simp,?_⟩
 refine ⟨by decide,?_⟩
 have er:(List.replicate (Int.toNat 24) [D.int 2049]).flatten = a0y (List.replicate 24 2049):=rfl
 rw [er]
 refine ⟨by simp,rfl,L,i0z 12 (List.replicate 24 2049),rfl,by omega,f1,by unfold dueD; rw [rL],?_⟩
 refine ⟨by omega,rfl,L ++ X,nD 25,rfl,by rw [Str.length_append]; omega,f2,by unfold dueD; rw [rX],?_⟩
 exact ⟨rfl,W,nD 1,rfl,by omega,f3,by unfold dueD; rw [rW],hq _⟩
theorem fin (d_givens_of:DefN K mg "givens_of" f0j ["row"]) (d_row_of:DefN K mg "row_of" l0s ["givens"]) (d_joined:DefN K mg "joined" l0t ["one", "other"]) (d_wish_text:DefN K mg "wish_text" f0f ["wish"]) (d_row_text:DefN K mg "row_text" g0c ["row"]) (d_read_wish:DefN K mg "read_wish" f0g ["text"]) (d_text_rows:DefN K mg "text_rows" g0p ["text"]) (d_read_many:DefN K mg "read_many" f0h ["word", "row"]) (d_refuse_unended:DefN K mg "refuse_unended" c0m ["rows", "told"]) (d_are_givens:DefN K mg "are_givens" f0p ["many", "numbers"]) (d_numbers_behind:DefN K mg "numbers_behind" c0n ["word", "row"]) (d_number_of:DefN K mg "number_of" g0q ["word"]) (d_law_tape:DefN K mg "_law_tape" i0e ["_law_script"]) (d_law_draw:DefN K mg "_law_draw" i0f ["_law_tape_here", "_law_many"]) (d_law_whole:DefN K mg "_law_whole" g0r ["_law_found"]) (d_law_wish_rows:DefN K mg "_law_wish_rows" d0v ["_law_tape_here", "_law_many", "_law_most"]) (d_law_wish:DefN K mg "_law_wish" i0d ["_law_tape_here"]) (d_law_wish_text:DefN K mg "_law_wish_text" c0v ["_law_wish_here"]) (d_law_alone:DefN K mg "_law_alone" g0t ["_law_error", "_law_place"]) (d_law_signs:DefN K mg "_law_signs" g0s []) (d_law_word:DefN K mg "_law_word" i0c ["_law_tape_here", "_law_words"]) (d_law_bent_row:DefN K mg "_law_bent_row" e0g ["_law_tape_here", "_law_row"]) (d_law_bent:DefN K mg "_law_bent" i0g ["_law_tape_here", "_law_text"]) (d_law_number:DefN K mg "_law_number" e0m ["_law_word_here"]) (d_law_numbers:DefN K mg "_law_numbers" d0w ["_law_row", "_law_word_here"]) (d_law_due:DefN K mg "_law_due" h0k ["_law_text"]) (d_law_right:DefN K mg "_law_right" f0i ["_law_text", "_law_due_here"]) (d_law:DefN K mg "law" e1h ["_law_script"]) (c_MOST_GIVENS:∃ u,mg "MOST_GIVENS" = some u∧RelV (.int 12) u) (c_MOST_OUTS:∃ u,mg "MOST_OUTS" = some u∧RelV (.int 24) u) (c_MOST_FIGURES:∃ u,mg "MOST_FIGURES" = some u∧RelV (.int 3) u) (xf:XF K mg) (B:BI mg):OkN P w K mg base 6 "law" ["_law_script"] (i1o K):=by
 obtain ⟨C_NoText,C_JoinError,C_NoFit,C_TooMany,C_NoWidth,C_NoRow,C_NoName,C_Nought,C_Bare,C_Loose,C_Leans,C_NoAnswer,f_NoText,m_NoText,m_JoinError,m_NoFit,m_TooMany,m_NoWidth,m_NoRow,m_NoName,m_Nought,m_Bare,m_Loose,m_Leans,m_NoAnswer,n_ValueError,in_NoText,bs_JoinError,ea_JoinError,s_NoText_JoinError,i_NoText,k_NoText_NoFit,k_NoText_TooMany,k_NoText_NoWidth,k_NoText_ValueError,k_NoText_NoRow,k_NoText_NoName,k_NoText_Nought,k_NoText_Bare,k_NoText_Loose,k_NoText_Leans,k_NoText_NoAnswer,k_NoText_NoText,g_NoText⟩:=xf
 exact
 have g_law_tape:=t0x d_law_tape B
 have g_law_draw:=t0y d_law_draw B
 have g_number_of:=r0m d_number_of B c_MOST_FIGURES
 have g_numbers_behind:=k0q d_numbers_behind B g_number_of
 have g_text_rows:=r0j d_text_rows B
 have g_joined:=a1v d_joined B
 have g_row_of:=a1u d_row_of B g_joined
 have g_read_many:=r0l d_read_many B g_numbers_behind c_MOST_GIVENS
 have x_read_many_NoText:=i0n m_NoText m_JoinError in_NoText bs_JoinError d_read_many B g_numbers_behind c_MOST_GIVENS
 have g_refuse_unended:=k0p d_refuse_unended B
 have x_refuse_unended_NoText:=f0x m_NoText m_JoinError in_NoText bs_JoinError d_refuse_unended B
 have g_are_givens:=p0w d_are_givens B
 have g_read_wish:=r0k d_read_wish B g_text_rows g_read_many g_refuse_unended g_numbers_behind g_row_of g_are_givens c_MOST_OUTS
 have x_read_wish_NoText:=i0m m_NoText m_JoinError in_NoText bs_JoinError d_read_wish B g_text_rows g_read_many g_numbers_behind g_row_of g_are_givens x_read_many_NoText x_refuse_unended_NoText c_MOST_OUTS
 have g_law_number:=p0v d_law_number B
 have g_law_numbers:=n0m d_law_numbers B g_law_number
 have g_law_due:=x0u d_law_due B g_law_numbers
 have g_law_signs:=r0o d_law_signs B
 have g_law_word:=t0v d_law_word B g_law_draw
 have g_law_bent_row:=m0t d_law_bent_row B g_law_draw g_law_signs g_law_word
 have g_law_bent:=t0z d_law_bent B g_law_draw g_law_bent_row
 have g_givens_of:=r0r d_givens_of B
 have g_row_text:=t0u d_row_text B g_givens_of
 have g_wish_text:=r0i d_wish_text B g_row_text
 have g_law_wish_rows:=l0m d_law_wish_rows B g_law_draw
 have g_law_wish:=t0w d_law_wish B g_law_draw g_law_wish_rows
 have g_law_wish_text:=l0l d_law_wish_text B
 have g_law_whole:=r0n d_law_whole B
 have g_law_alone:=r0q m_NoFit m_TooMany m_NoWidth n_ValueError m_NoRow m_NoName m_Nought m_Bare m_Loose m_Leans m_NoAnswer m_NoText i_NoText k_NoText_NoFit k_NoText_TooMany k_NoText_NoWidth k_NoText_ValueError k_NoText_NoRow k_NoText_NoName k_NoText_Nought k_NoText_Bare k_NoText_Loose k_NoText_Leans k_NoText_NoAnswer k_NoText_NoText d_law_alone B
 have g_law_right:=r0p m_NoText m_JoinError ea_JoinError s_NoText_JoinError g_NoText i_NoText d_law_right B g_read_wish g_law_alone g_law_whole g_wish_text x_read_wish_NoText
 have g_law:=m1y d_law B g_law_tape g_law_wish g_law_wish_text g_law_due g_law_bent g_law_right g_law_draw g_read_wish
 n1h g_law
end
end K75
namespace PySem.W.Fast
def tw188098612729206900:=()
def tw3864943458771566661:=()
def tw14245269484964729560:=()
def tw7123738721478623289:=()
def tw7050779671303833982:=()
def tw3851298970075125773:=()
def tw2798268084556600075:=()
def tw8052674979033305223:=()
def tw4385478287440614304:=()
def tw15701603360006980569:=()
def tw13384022036924924501:=()
def tw6085133427060926251:=()
def tw2003870563379973234:=()
def tw10613280379832118878:=()
def tw2266315383479811278:=()
def tw1124477548366757721:=()
def tw32724330594647636:=()
def tw10896939270284535777:=()
def tw6426992552574856062:=()
def tw13562743487830657925:=()
def tw5413789625462084888:=()
def tw2074376652845445991:=()
def tw14990243033179903106:=()
def tw9617795928512232374:=()
def tw11553686298409817848:=()
def tw3647734735470735372:=()
def tw5691589216811852629:=()
def tw12269059963206637099:=()
def tw2303124365897759701:=()
def tw9353499026749386909:=()
def tw8079470615571506958:=()
def tw7369245913416607912:=()
def tw3263304873975075968:=()
def tw1738063006267731354:=()
def tw13140378954658963113:=()
def tw14783208842964120120:=()
def tw11450686917677363209:=()
def tw7580836321760920313:=()
def tw3681990908494633661:=()
def tw6865885912326548006:=()
def tw17251391277055349882:=()
def tw6205998363743703223:=()
def tw10668772205171702950:=()
def tw1145350368205670162:=()
def tw9190063016108418099:=()
def tw13231082836970177605:=()
def tw18113994722945920438:=()
def tw5295194487578451465:=()
def tw802196219498803158:=()
def tw8466085974403762304:=()
def tw16358333775762135128:=()
def tw6985416105857164500:=()
def tw4359018252405211689:=()
def tw18072821692250488002:=()
def tw6272204927228523883:=()
def tw1776220891812164668:=()
def tw6269147108086105500:=()
def tw16234326716970074433:=()
def tw15634117260599699533:=()
def tw10765969342326253780:=()
def tw902281940920716334:=()
def tw11352527591033931887:=()
def tw13782100946984752446:=()
def tw619925238644673088:=()
def tw17440242022554692335:=()
def tw643866828339761813:=()
def tw10880601262448514899:=()
def tw12399188410567890200:=()
def tw550776236550409682:=()
def tw5000376029478316549:=()
def tw1299181306811713857:=()
def tw13640961965218767152:=()
def tw16924096973267418684:=()
def tw6680740590944693870:=()
def tw7896107445330774123:=()
def tw13029061550500685971:=()
def tw14206288231779759667:=()
def tw6652100495004592905:=()
def tw7903024958807306213:=()
def tw1228310017134062035:=()
def tw9217132775831422180:=()
def tw4465346762928065877:=()
def tw18051150389730729591:=()
def tw3345138420132587144:=()
def tw2723948676189118961:=()
def tw14888513212000966897:=()
def tw5715092010686348539:=()
def tw12313806050679564102:=()
def tw14483424018128910798:=()
def tw8266985170661216696:=()
def tw18225357877361963832:=()
def tw15710731258621337879:=()
def tw14120035827457479585:=()
def tw9044193072558677767:=()
def tw16393371606470921825:=()
def tw233005763136298125:=()
def tw7574784565840046165:=()
def tw6633136494385042464:=()
def tw9798915253647406743:=()
def tw9450238274827037326:=()
def tw7901369889321600951:=()
def tw13959211789399411361:=()
def tw6991768382280613697:=()
def tw17520906152454201900:=()
def tw10613994774024181179:=()
def tw5412522707622676598:=()
def tw17185593031806206238:=()
def tw13053797399807307855:=()
def tw11231128893541426619:=()
def tw5930875423533744320:=()
def tw9105730843575045557:=()
def tw7849502750830427907:=()
def tw12000360023654482437:=()
def tw4754573641163227641:=()
def tw959237505283077827:=()
def tw2095249330637974029:=()
def tw1593486496995147680:=()
def tw7226940726647335800:=()
def tw14714357573293862292:=()
def tw14356194085555391840:=()
def tw7132839150606237352:=()
def tw16423063054385515576:=()
def tw18140219331089272195:=()
def tw13693730402079912405:=()
def tw9948699965337001735:=()
def tw9261103756198285347:=()
def tw12132605610616416151:=()
def tw14160678667105736444:=()
def tw14063810416554420883:=()
def tw11774956136388510262:=()
def tw7851442649901823762:=()
def tw15050708930528450333:=()
def tw10429591269976568831:=()
def tw17097658418756005536:=()
def tw7640109623102446391:=()
def tw9635137825807724912:=()
def tw11767971660658635864:=()
def tw5719694136836783769:=()
def tw14072072968759676395:=()
def tw4855195881455998653:=()
def tw8185005981668961736:=()
def tw6632062029559847396:=()
def tw8070405930812826021:=()
def tw10018659746088035611:=()
def tw2078280180498789696:=()
def tw10047515926633897225:=()
def tw15587793602423228556:=()
def tw8289403752038572691:=()
def tw5765399013327381332:=()
def tw14444879409936089153:=()
def tw1335358163657179952:=()
def tw13195361876072505281:=()
def tw6224364406917934888:=()
def tw3096800981717026833:=()
def tw15907445904212329097:=()
def tw10392714748538680266:=()
def tw14997534500133431063:=()
def tw1442852869273467844:=()
def tw8612314757953448295:=()
def tw10047689279471851466:=()
def tw6678549521732374752:=()
def tw2523671864016802554:=()
def tw5150530833828901251:=()
def tw2933085939524723057:=()
def tw8595230889690445597:=()
def tw12996884393656754375:=()
def tw5437626757999305881:=()
def tw2734829461371956706:=()
def tw5721296213728174855:=()
def tw1979509461565037670:=()
def tw4196756956798217051:=()
def tw17543762516646125783:=()
def tw3027077502041027983:=()
def tw9121724770718380280:=()
def tw13836879519256802623:=()
def tw4141522962201074391:=()
def tw14717660429128027439:=()
def tw1600088847963086999:=()
def tw5694203516019565129:=()
def tw9043394579716201538:=()
def tw4676372860375218373:=()
def tw16374372884517095400:=()
def tw10235304237157324295:=()
def tw11446667843991033664:=()
def tw12296852282449710496:=()
def tw678635992816965855:=()
def tw12228629827655129632:=()
def tw10497544813397266404:=()
def tw10539244575432514737:=()
def tw10583224958410734278:=()
def tw17140993281516886018:=()
def tw14989474049571808293:=()
def tw1092883358928301811:=()
def tw9291162465588787644:=()
def tw3134039433809527042:=()
def tw9885259223143203536:=()
def tw8342059435364673752:=()
def tw8304505407655922896:=()
def tw11545081686783187721:=()
def tw12517478747340291290:=()
def tw11469456051535400434:=()
def tw13443827697346662454:=()
def tw2554603435445701531:=()
def tw2481331087605284559:=()
def tw16494368855237999598:=()
def tw13086741754199915282:=()
def tw5447090357459598065:=()
def tw10924474370909032121:=()
def tw12958905401790477262:=()
def tw2781554367878213314:=()
def tw11593805319683201807:=()
def tw16188872797146689176:=()
def tw4653189835952151633:=()
def tw7778028290539789109:=()
def tw4789005771507662965:=()
def tw831277536412785931:=()
def tw17097565833953910293:=()
def tw16519583681969483611:=()
def tw5673050769044981673:=()
def tw7731555384599268517:=()
def tw16744893872409070231:=()
def tw200988699099810742:=()
def tw12496733613724203757:=()
def tw14014773227771324685:=()
def tw7954991519544224027:=()
def tw8601983341759546710:=()
def tw9593716949129710670:=()
def tw26691151490641996:=()
def tw7563041074472284212:=()
def tw4713799007711708110:=()
def tw13675361513497128286:=()
def tw14335176660075364522:=()
def tw1670247712520157135:=()
def tw7382750758849172692:=()
def tw3703256893444311846:=()
def tw10224896035940489427:=()
def tw1987689759495043753:=()
def tw11448365224417332784:=()
def tw1637634477908603682:=()
def tw2040545215058559822:=()
def tw16770676005157332532:=()
def tw12157841006078766806:=()
def tw8645648937010170187:=()
def tw7154918543100716336:=()
def tw15799531020886371128:=()
def tw17224225178363369583:=()
def tw4086329533153393256:=()
def tw3803285198657246238:=()
def tw5373562272145927076:=()
def tw14264966223677513650:=()
def tw15712937793733743475:=()
def tw4462789270452764456:=()
def tw14600309672975308051:=()
def tw5767059124915092846:=()
def tw12611035555713710710:=()
def tw12840792291849233323:=()
def tw1515142913925317555:=()
def tw13914616571888071721:=()
def tw2268933135314108508:=()
def tw8687607127141176863:=()
def tw584418037762342544:=()
def tw18013479208964666714:=()
def tw605902381099095194:=()
def tw17761730741667187392:=()
def tw18129626496592821650:=()
def tw12219437159691724492:=()
def tw18383120488858372280:=()
def tw16980826311556220369:=()
def tw426657088987264627:=()
def tw16977310175137580667:=()
def tw1176346059425870413:=()
def tw7941439644813951809:=()
def tw4079086246711707898:=()
def tw14409370849037333406:=()
def tw5222389430719499144:=()
def tw10874989099275282804:=()
def tw4089443256577432791:=()
def tw3560395578754162535:=()
def tw2524268060498105631:=()
def tw13683294694686242227:=()
def tw9098699054292936977:=()
def tw9574049011656642095:=()
def tw7409716443886664154:=()
def tw11988002791844848350:=()
def tw17563866491122596366:=()
def tw12784731497279963357:=()
def tw9138195197152519028:=()
def tw12244129447518188116:=()
def tw17672169727948964996:=()
def tw157416218451839315:=()
def tw1525657951360954597:=()
def tw14195871540474542944:=()
def tw14875539830443903210:=()
def tw1552550720174485570:=()
def tw11207588485983080848:=()
def tw16562068348043312770:=()
def tw9811933542652612945:=()
def tw18145106764606432137:=()
def tw15991434915598738991:=()
def tw1670417599233587514:=()
def tw3058996444345562145:=()
def tw17131964224481211930:=()
def tw3629387056724665051:=()
def tw8561554957463964202:=()
def tw1152993503613267278:=()
def tw18048776401760260738:=()
def tw3240224609428393354:=()
def tw6277779236247777764:=()
def tw13195233841490364528:=()
def tw6220658774007753277:=()
def tw11585494744912765138:=()
def tw4816524309023809088:=()
def tw15664848736535170658:=()
def tw13943208667429373118:=()
def tw854187872294949957:=()
def tw708538402609476673:=()
def tw15228940946380329984:=()
def tw11713003000977507909:=()
def tw10500361073698971710:=()
def tw5312348012596212193:=()
def tw1319015865487272974:=()
def tw14199643125672501891:=()
def tw5057485648269168406:=()
def tw9954359744720276386:=()
def tw4459477669426072344:=()
def tw14307616573725335236:=()
def tw15278143105802185235:=()
def tw17041205039616201146:=()
def tw18122387765789264912:=()
def tw15768017119907389032:=()
def tw7603276652114728465:=()
def tw977428904439520589:=()
def tw9824896828733228116:=()
def tw2332491720939185062:=()
def tw14494667808543224971:=()
def tw3760746739960288467:=()
def tw18331973648805177296:=()
def tw807907780961154660:=()
def tw18215258122214629991:=()
def tw14992472199122625103:=()
def tw4159430614655170293:=()
def tw11736962639291424786:=()
def tw17012432183165896685:=()
def tw1758273323064338229:=()
def tw11885092916759187137:=()
def tw641945795257146502:=()
def tw459055311038137710:=()
def tw13591663779009533512:=()
def tw17365655706329657908:=()
def tw6055223194184621505:=()
def tw608545071391395247:=()
def tw3333402346440722733:=()
def tw15531587421927501213:=()
def tw2024145959833816697:=()
def tw5436008925767258610:=()
def tw7221705467120387648:=()
def tw2377907016300309425:=()
def tw8414199437025099289:=()
def tw9270296401781574336:=()
def tw14245665435901149858:=()
def tw17170011115432171770:=()
def tw1330771509948480034:=()
def tw5916405946208280830:=()
def tw10590484422593978208:=()
def tw10596052150902154644:=()
def tw334248067001250016:=()
def tw1064859066877970690:=()
def tw3617532107015614070:=()
def tw6503431813533880534:=()
def tw7302167772030604003:=()
def tw15505246894543179467:=()
def tw1074384639107736142:=()
def tw13210298819082956302:=()
def tw12970198355590703740:=()
def tw7199345065681792760:=()
def tw12825205373420011918:=()
def tw3187666403147543369:=()
def tw10240667960825978185:=()
def tw7440242266538951929:=()
def tw1327057868834995427:=()
def tw15490168913586396606:=()
def tw6491205400555372413:=()
def tw8334683550582774279:=()
end PySem.W.Fast
open PySem PySem.W PyProof.Rows
set_option maxRecDepth 100000 in
set_option maxHeartbeats 0 in
theorem PySem.Challenge.cw_fewjoins_k75_texts_of_no_wish_holds : PySem.Challenge.rw_fewjoins_k75_texts_of_no_wish.Holds := by
 w_on; o_law; k_head; (case hw=>w_witness2)
 k_fill
 refine L2.d1u (l:=PySem.Challenge.rw_fewjoins_k75_texts_of_no_wish) (n:=63) (k:=6) (x := "_law_script") (CX:=L2.CX0) (sp:=L2.i1o) rfl (by decide) rfl ⟨rfl,by decide,by decide⟩ (fun w h Y=>PySem.W.kIn_of Y) ?F ?S ?C
 case S=>exact fun K H a ns hl hO hS=>⟨a,ns,rfl,hS,hl,fun _=>rfl⟩
 case C=>exact fun H s e s' h=>h
 case F =>
  intro w mg fa h KX G hmg
  have d_givens_of:L2.DefN (L2.KOf KX) mg "givens_of" K75.f0j ["row"]:=by
   dsimp only [L2.KOf]
   refine' L2.c0b KX G ?a ?l ?c ?k (fun _ _ _ _ _ _ us hl=>match us,hl with | [_],_=>rfl)
   (case a=>k_is); (case l=>k_is); (case c=>k_is); (case k=>k_is)
  have d_row_of:L2.DefN (L2.KOf KX) mg "row_of" K75.l0s ["givens"]:=by
   dsimp only [L2.KOf]
   refine' L2.c0b KX G ?a ?l ?c ?k (fun _ _ _ _ _ _ us hl=>match us,hl with | [_],_=>rfl)
   (case a=>k_is); (case l=>k_is); (case c=>k_is); (case k=>k_is)
  have d_joined:L2.DefN (L2.KOf KX) mg "joined" K75.l0t ["one", "other"]:=by
   dsimp only [L2.KOf]
   refine' L2.c0b KX G ?a ?l ?c ?k (fun _ _ _ _ _ _ us hl=>match us,hl with | [_,_],_=>rfl)
   (case a=>k_is); (case l=>k_is); (case c=>k_is); (case k=>k_is)
  have d_wish_text:L2.DefN (L2.KOf KX) mg "wish_text" K75.f0f ["wish"]:=by
   dsimp only [L2.KOf]
   refine' L2.c0b KX G ?a ?l ?c ?k (fun _ _ _ _ _ _ us hl=>match us,hl with | [_],_=>rfl)
   (case a=>k_is); (case l=>k_is); (case c=>k_is); (case k=>k_is)
  have d_row_text:L2.DefN (L2.KOf KX) mg "row_text" K75.g0c ["row"]:=by
   dsimp only [L2.KOf]
   refine' L2.c0b KX G ?a ?l ?c ?k (fun _ _ _ _ _ _ us hl=>match us,hl with | [_],_=>rfl)
   (case a=>k_is); (case l=>k_is); (case c=>k_is); (case k=>k_is)
  have d_read_wish:L2.DefN (L2.KOf KX) mg "read_wish" K75.f0g ["text"]:=by
   dsimp only [L2.KOf]
   refine' L2.c0b KX G ?a ?l ?c ?k (fun _ _ _ _ _ _ us hl=>match us,hl with | [_],_=>rfl)
   (case a=>k_is); (case l=>k_is); (case c=>k_is); (case k=>k_is)
  have d_text_rows:L2.DefN (L2.KOf KX) mg "text_rows" K75.g0p ["text"]:=by
   dsimp only [L2.KOf]
   refine' L2.c0b KX G ?a ?l ?c ?k (fun _ _ _ _ _ _ us hl=>match us,hl with | [_],_=>rfl)
   (case a=>k_is); (case l=>k_is); (case c=>k_is); (case k=>k_is)
  have d_read_many:L2.DefN (L2.KOf KX) mg "read_many" K75.f0h ["word", "row"]:=by
   dsimp only [L2.KOf]
   refine' L2.c0b KX G ?a ?l ?c ?k (fun _ _ _ _ _ _ us hl=>match us,hl with | [_,_],_=>rfl)
   (case a=>k_is); (case l=>k_is); (case c=>k_is); (case k=>k_is)
  have d_refuse_unended:L2.DefN (L2.KOf KX) mg "refuse_unended" K75.c0m ["rows", "told"]:=by
   dsimp only [L2.KOf]
   refine' L2.c0b KX G ?a ?l ?c ?k (fun _ _ _ _ _ _ us hl=>match us,hl with | [_,_],_=>rfl)
   (case a=>k_is); (case l=>k_is); (case c=>k_is); (case k=>k_is)
  have d_are_givens:L2.DefN (L2.KOf KX) mg "are_givens" K75.f0p ["many", "numbers"]:=by
   dsimp only [L2.KOf]
   refine' L2.c0b KX G ?a ?l ?c ?k (fun _ _ _ _ _ _ us hl=>match us,hl with | [_,_],_=>rfl)
   (case a=>k_is); (case l=>k_is); (case c=>k_is); (case k=>k_is)
  have d_numbers_behind:L2.DefN (L2.KOf KX) mg "numbers_behind" K75.c0n ["word", "row"]:=by
   dsimp only [L2.KOf]
   refine' L2.c0b KX G ?a ?l ?c ?k (fun _ _ _ _ _ _ us hl=>match us,hl with | [_,_],_=>rfl)
   (case a=>k_is); (case l=>k_is); (case c=>k_is); (case k=>k_is)
  have d_number_of:L2.DefN (L2.KOf KX) mg "number_of" K75.g0q ["word"]:=by
   dsimp only [L2.KOf]
   refine' L2.c0b KX G ?a ?l ?c ?k (fun _ _ _ _ _ _ us hl=>match us,hl with | [_],_=>rfl)
   (case a=>k_is); (case l=>k_is); (case c=>k_is); (case k=>k_is)
  have d_law_tape:L2.DefN (L2.KOf KX) mg "_law_tape" K75.i0e ["_law_script"]:=by
   dsimp only [L2.KOf]
   refine' L2.c0b KX G ?a ?l ?c ?k (fun _ _ _ _ _ _ us hl=>match us,hl with | [_],_=>rfl)
   (case a=>k_is); (case l=>k_is); (case c=>k_is); (case k=>k_is)
  have d_law_draw:L2.DefN (L2.KOf KX) mg "_law_draw" K75.i0f ["_law_tape_here", "_law_many"]:=by
   dsimp only [L2.KOf]
   refine' L2.c0b KX G ?a ?l ?c ?k (fun _ _ _ _ _ _ us hl=>match us,hl with | [_,_],_=>rfl)
   (case a=>k_is); (case l=>k_is); (case c=>k_is); (case k=>k_is)
  have d_law_whole:L2.DefN (L2.KOf KX) mg "_law_whole" K75.g0r ["_law_found"]:=by
   dsimp only [L2.KOf]
   refine' L2.c0b KX G ?a ?l ?c ?k (fun _ _ _ _ _ _ us hl=>match us,hl with | [_],_=>rfl)
   (case a=>k_is); (case l=>k_is); (case c=>k_is); (case k=>k_is)
  have d_law_wish_rows:L2.DefN (L2.KOf KX) mg "_law_wish_rows" K75.d0v ["_law_tape_here", "_law_many", "_law_most"]:=by
   dsimp only [L2.KOf]
   refine' L2.c0b KX G ?a ?l ?c ?k (fun _ _ _ _ _ _ us hl=>match us,hl with | [_,_,_],_=>rfl)
   (case a=>k_is); (case l=>k_is); (case c=>k_is); (case k=>k_is)
  have d_law_wish:L2.DefN (L2.KOf KX) mg "_law_wish" K75.i0d ["_law_tape_here"]:=by
   dsimp only [L2.KOf]
   refine' L2.c0b KX G ?a ?l ?c ?k (fun _ _ _ _ _ _ us hl=>match us,hl with | [_],_=>rfl)
   (case a=>k_is); (case l=>k_is); (case c=>k_is); (case k=>k_is)
  have d_law_wish_text:L2.DefN (L2.KOf KX) mg "_law_wish_text" K75.c0v ["_law_wish_here"]:=by
   dsimp only [L2.KOf]
   refine' L2.c0b KX G ?a ?l ?c ?k (fun _ _ _ _ _ _ us hl=>match us,hl with | [_],_=>rfl)
   (case a=>k_is); (case l=>k_is); (case c=>k_is); (case k=>k_is)
  have d_law_alone:L2.DefN (L2.KOf KX) mg "_law_alone" K75.g0t ["_law_error", "_law_place"]:=by
   dsimp only [L2.KOf]
   refine' L2.c0b KX G ?a ?l ?c ?k (fun _ _ _ _ _ _ us hl=>match us,hl with | [_,_],_=>rfl)
   (case a=>k_is); (case l=>k_is); (case c=>k_is); (case k=>k_is)
  have d_law_signs:L2.DefN (L2.KOf KX) mg "_law_signs" K75.g0s []:=by
   dsimp only [L2.KOf]
   refine' L2.c0b KX G ?a ?l ?c ?k (fun _ _ _ _ _ _ us hl=>match us,hl with | [],_=>rfl)
   (case a=>k_is); (case l=>k_is); (case c=>k_is); (case k=>k_is)
  have d_law_word:L2.DefN (L2.KOf KX) mg "_law_word" K75.i0c ["_law_tape_here", "_law_words"]:=by
   dsimp only [L2.KOf]
   refine' L2.c0b KX G ?a ?l ?c ?k (fun _ _ _ _ _ _ us hl=>match us,hl with | [_,_],_=>rfl)
   (case a=>k_is); (case l=>k_is); (case c=>k_is); (case k=>k_is)
  have d_law_bent_row:L2.DefN (L2.KOf KX) mg "_law_bent_row" K75.e0g ["_law_tape_here", "_law_row"]:=by
   dsimp only [L2.KOf]
   refine' L2.c0b KX G ?a ?l ?c ?k (fun _ _ _ _ _ _ us hl=>match us,hl with | [_,_],_=>rfl)
   (case a=>k_is); (case l=>k_is); (case c=>k_is); (case k=>k_is)
  have d_law_bent:L2.DefN (L2.KOf KX) mg "_law_bent" K75.i0g ["_law_tape_here", "_law_text"]:=by
   dsimp only [L2.KOf]
   refine' L2.c0b KX G ?a ?l ?c ?k (fun _ _ _ _ _ _ us hl=>match us,hl with | [_,_],_=>rfl)
   (case a=>k_is); (case l=>k_is); (case c=>k_is); (case k=>k_is)
  have d_law_number:L2.DefN (L2.KOf KX) mg "_law_number" K75.e0m ["_law_word_here"]:=by
   dsimp only [L2.KOf]
   refine' L2.c0b KX G ?a ?l ?c ?k (fun _ _ _ _ _ _ us hl=>match us,hl with | [_],_=>rfl)
   (case a=>k_is); (case l=>k_is); (case c=>k_is); (case k=>k_is)
  have d_law_numbers:L2.DefN (L2.KOf KX) mg "_law_numbers" K75.d0w ["_law_row", "_law_word_here"]:=by
   dsimp only [L2.KOf]
   refine' L2.c0b KX G ?a ?l ?c ?k (fun _ _ _ _ _ _ us hl=>match us,hl with | [_,_],_=>rfl)
   (case a=>k_is); (case l=>k_is); (case c=>k_is); (case k=>k_is)
  have d_law_due:L2.DefN (L2.KOf KX) mg "_law_due" K75.h0k ["_law_text"]:=by
   dsimp only [L2.KOf]
   refine' L2.c0b KX G ?a ?l ?c ?k (fun _ _ _ _ _ _ us hl=>match us,hl with | [_],_=>rfl)
   (case a=>k_is); (case l=>k_is); (case c=>k_is); (case k=>k_is)
  have d_law_right:L2.DefN (L2.KOf KX) mg "_law_right" K75.f0i ["_law_text", "_law_due_here"]:=by
   dsimp only [L2.KOf]
   refine' L2.c0b KX G ?a ?l ?c ?k (fun _ _ _ _ _ _ us hl=>match us,hl with | [_,_],_=>rfl)
   (case a=>k_is); (case l=>k_is); (case c=>k_is); (case k=>k_is)
  have d_law:L2.DefN (L2.KOf KX) mg "law" K75.e1h ["_law_script"]:=by
   dsimp only [L2.KOf]
   refine' L2.c0b KX G ?a ?l ?c ?k (fun _ _ _ _ _ _ us hl=>match us,hl with | [_],_=>rfl)
   (case a=>k_is); (case l=>k_is); (case c=>k_is); (case k=>k_is)
  have B:L2.BI mg:=by
   refine' L2.q1c KX G ?z_len ?z_range ?z_isinstance ?z_int ?z_bool ?z_list ?z_tuple ?z_str ?z_sum ?z_all ?z_max ?z_min ?z_sorted ?z_set ?z_zip ?z_enumerate ?z_reversed ?z_dict ?z_any ?z_abs
   (case z_len=>k_is); (case z_range=>k_is); (case z_isinstance=>k_is); (case z_int=>k_is); (case z_bool=>k_is); (case z_list=>k_is); (case z_tuple=>k_is); (case z_str=>k_is); (case z_sum=>k_is); (case z_all=>k_is); (case z_max=>k_is); (case z_min=>k_is); (case z_sorted=>k_is); (case z_set=>k_is); (case z_zip=>k_is); (case z_enumerate=>k_is); (case z_reversed=>k_is); (case z_dict=>k_is); (case z_any=>k_is); (case z_abs=>k_is)
  have c_MOST_GIVENS:∃ u,mg "MOST_GIVENS" = some u∧L2.RelV (.int 12) u:=by
   refine' ⟨_,PySem.W.mg_of KX G ?a,?b⟩
   (case a=>k_is)
   (case b=>exact ⟨_,rfl⟩)
  have c_MOST_OUTS:∃ u,mg "MOST_OUTS" = some u∧L2.RelV (.int 24) u:=by
   refine' ⟨_,PySem.W.mg_of KX G ?a,?b⟩
   (case a=>k_is)
   (case b=>exact ⟨_,rfl⟩)
  have c_MOST_FIGURES:∃ u,mg "MOST_FIGURES" = some u∧L2.RelV (.int 3) u:=by
   refine' ⟨_,PySem.W.mg_of KX G ?a,?b⟩
   (case a=>k_is)
   (case b=>exact ⟨_,rfl⟩)
  have xf:K75.XF (L2.KOf KX) mg:=by
   dsimp only [L2.KOf]
   refine' K75.XF.mk KX G ?f0 ?f1 ?f2 ?f3 ?f4 ?f5 ?f6 ?f7 ?f8 ?f9 ?f10 ?f11 ?f12 ?f13_0 ?f13_1 ?f13_2 ?f13_3 ?f13_4 ?f13_5 ?f13_6 ?f13_7 ?f14_0 ?f14_1 ?f14_2 ?f15 ?f16 ?f17_0 ?f17_1 ?f17_2 ?f17_3 ?f17_4 ?f17_5 ?f17_6 ?f17_7 ?f18 ?f19 ?f20 ?f21 ?f22 ?f23 ?f24 ?f25 ?f26 ?f27 ?f28 ?f29 ?f30_0 ?f30_1 ?f30_2 ?f30_3 ?f30_4 ?f30_5 ?f30_6 ?f30_7 ?f30_8 ?f30_9
   (case f0=>k_is); (case f1=>k_is); (case f2=>k_is); (case f3=>k_is); (case f4=>k_is); (case f5=>k_is); (case f6=>k_is); (case f7=>k_is); (case f8=>k_is); (case f9=>k_is); (case f10=>k_is); (case f11=>k_is); (case f12=>k_is); (case f13_0=>k_is); (case f13_1=>k_is); (case f13_2=>k_is); (case f13_3=>k_is); (case f13_4=>kernel_rfl); (case f13_5=>k_is); (case f13_6=>k_is); (case f13_7=>k_is); (case f14_0=>k_is); (case f14_1=>k_is); (case f14_2=>k_is); (case f15=>k_exc); (case f16=>k_is); (case f17_0=>k_is); (case f17_1=>k_is); (case f17_2=>k_is); (case f17_3=>k_is); (case f17_4=>k_is); (case f17_5=>k_is); (case f17_6=>k_is); (case f17_7=>k_is); (case f18=>kit_is); (case f19=>kit_is); (case f20=>kit_is); (case f21=>kit_is); (case f22=>kit_is); (case f23=>kit_is); (case f24=>kit_is); (case f25=>kit_is); (case f26=>kit_is); (case f27=>kit_is); (case f28=>kit_is); (case f29=>kit_is); (case f30_0=>k_is); (case f30_1=>k_is); (case f30_2=>k_is); (case f30_3=>k_is); (case f30_4=>k_is); (case f30_5=>k_is); (case f30_6=>k_is); (case f30_7=>k_is); (case f30_8=>k_is); (case f30_9=>k_is)
  refine L2.k1a d_law hmg fun base=>?_
  exact K75.fin d_givens_of d_row_of d_joined d_wish_text d_row_text d_read_wish d_text_rows d_read_many d_refuse_unended d_are_givens d_numbers_behind d_number_of d_law_tape d_law_draw d_law_whole d_law_wish_rows d_law_wish d_law_wish_text d_law_alone d_law_signs d_law_word d_law_bent_row d_law_bent d_law_number d_law_numbers d_law_due d_law_right d_law c_MOST_GIVENS c_MOST_OUTS c_MOST_FIGURES xf B
#print axioms PySem.Challenge.cw_fewjoins_k75_texts_of_no_wish_holds

