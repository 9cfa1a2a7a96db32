import PyProof.Rows.All
import Wide.All
import OpenK.AllK
import Wide.FinOn
import Lean
import PyProof.EqAt
import PyProof.EqKinds
import PyProof.TupleCall
import PyProof.NeKinds
import PyProof.ListMulAny
import PyProof.Rows.CallKwBuiltin
import PyProof.MinMaxWalk
import PyProof.SeqI3
import PyProof.Rows.TupAdd
import PyProof.MeetsDict
import PyProof.DictList
import PyProof.ZipIter
import PyProof.Rows.ZipGen
import PyProof.ListRange
import PyProof.TupleOfStr
import PyProof.Rows.FStr
import PyProof.Rows.StrJoin2
import PyProof.Rows.Range3
import PyProof.EnumMake
import PyProof.EnumFor
import PyProof.EnumStmt
import KE.KUnpackStar
import KE.KDictList
import PyProof.Rows.SortWalk
import KE.RegKIsAll
import PyProof.NsDelKeeps
import PyProof.Rows.CountFlat
import KE.KRevIter
import PyProof.Draws
import PyProof.ExcInit
import PyProof.InstStoreFacts
import PyProof.DictCompW
import PyProof.DictIter
import PyProof.DictWalks
import PyProof.Rows.SetFrom
import PyProof.SetRoads
import KE.KDictOf
import PySem.Challenge.RW_fewjoins_k17_refusals_made
set_option Elab.async false
set_option linter.all false
set_option maxRecDepth 100000
namespace L2
open PySem PySem.Spec PyProof.Rows
abbrev Key := Sum Int Str
def keyIs : Key → Value → Bool
  | .inl k, v => Value.isInt k v
  | .inr x, v => Value.isStrOf x v
def keyH (w : World) : Key → Int
  | .inl k => hashInt k
  | .inr x => hashStr w x
theorem keyIs_shape : ∀ {k : Key} {v : Value}, keyIs k v = true → (∃ i t, k = Sum.inl i ∧ v = Value.int i t) ∨ (∃ x t, k = Sum.inr x ∧ v = Value.str x t)
  | .inl i, v, h => by
    obtain ⟨t, e⟩ := Value.isInt_shape (k := i) (v := v) h
    exact .inl ⟨i, t, rfl, e⟩
  | .inr x, v, h => by
    obtain ⟨t, e⟩ := Value.isStrOf_shape (x := x) (v := v) h
    exact .inr ⟨x, t, rfl, e⟩
theorem keyIs_int (i : Int) (t : Tok) : keyIs (.inl i) (.int i t) = true := by simp [keyIs, Value.isInt]
theorem keyIs_str (x : Str) (t : Tok) : keyIs (.inr x) (.str x t) = true := by simp [keyIs, Value.isStrOf]
theorem key_ll (a b : Int) : decide ((Sum.inl a : Key) = Sum.inl b) = (a == b) := by
  by_cases e : a = b
  · subst e; simp
  · have h : ¬ (Sum.inl a : Key) = Sum.inl b := fun q => e (Sum.inl.inj q)
    rw [decide_eq_false h]
    exact (beq_eq_false_iff_ne.mpr e).symm
theorem key_rr (a b : Str) : decide ((Sum.inr a : Key) = Sum.inr b) = decide (a = b) := by
  by_cases e : a = b
  · subst e; simp
  · have h : ¬ (Sum.inr a : Key) = Sum.inr b := fun q => e (Sum.inr.inj q)
    rw [decide_eq_false h, decide_eq_false e]
theorem key_lr (a : Int) (b : Str) : decide ((Sum.inl a : Key) = Sum.inr b) = false := decide_eq_false (fun q => nomatch q)
theorem key_rl (a : Str) (b : Int) : decide ((Sum.inr a : Key) = Sum.inl b) = false := decide_eq_false (fun q => nomatch q)
def mixKind (prog : Program) (w : World) : PySem.KeyKind prog w Key where
  is := keyIs
  hash := keyH w
  inj := fun v a b ha hb => by
    rcases keyIs_shape ha with ⟨i, t, rfl, rfl⟩ | ⟨x, t, rfl, rfl⟩
    · rcases keyIs_shape hb with ⟨j, u, rfl, e⟩ | ⟨y, u, rfl, e⟩
      · injection e with e1 _; rw [e1]
      · exact nomatch e
    · rcases keyIs_shape hb with ⟨j, u, rfl, e⟩ | ⟨y, u, rfl, e⟩
      · exact nomatch e
      · injection e with e1 _; rw [e1]
  byValue := fun k v h => by
    rcases keyIs_shape h with ⟨i, t, rfl, rfl⟩ | ⟨x, t, rfl, rfl⟩ <;> rfl
  pyHash := fun hv h => by
    rcases keyIs_shape hv with ⟨i, t, rfl, rfl⟩ | ⟨x, t, rfl, rfl⟩
    · exact wpAny_pyHash_int h
    · exact wpAny_pyHash_str h
  eqBool := fun hu hv h => by
    rcases keyIs_shape hu with ⟨i, t, rfl, rfl⟩ | ⟨x, t, rfl, rfl⟩
    · rcases keyIs_shape hv with ⟨j, u, rfl, rfl⟩ | ⟨y, u, rfl, rfl⟩
      · rw [key_ll] at h; exact wpAny_eqBool_int h
      · rw [key_lr] at h; exact SeqAt.EqAt.int_str i t y u _ _ _ _ h
    · rcases keyIs_shape hv with ⟨j, u, rfl, rfl⟩ | ⟨y, u, rfl, rfl⟩
      · rw [key_rl] at h; exact SeqAt.EqAt.str_int x t j u _ _ _ _ h
      · rw [key_rr] at h; exact wpAny_eqBool_str h
  «strs» := fun k x t v h => by
    rcases keyIs_shape h with ⟨i, u, rfl, e⟩ | ⟨y, u, rfl, e⟩
    · exact nomatch e
    · injection e with e1 _
      subst e1
      cases v <;> rfl
theorem mixKind_int (prog : Program) (w : World) (i : Int) (t : Tok) : (mixKind prog w).is (.inl i) (.int i t) = true := keyIs_int i t
theorem mixKind_str (prog : Program) (w : World) (x : Str) (t : Tok) : (mixKind prog w).is (.inr x) (.str x t) = true := keyIs_str x t
end L2
namespace L2
open PySem PySem.Spec PyProof.Rows
inductive V where
  | non | bl (b : Bool) | int (i : Int) | str (x : Str) | byt (b : Array UInt8) | flt (b : UInt64) | ref (a : Addr) | ty (n : String)
  deriving DecidableEq
def RelV : V → Value → Prop
  | .non, u => u = Value.none
  | .bl b, u => u = Value.bool b
  | .int i, u => ∃ t, u = Value.int i t
  | .str x, u => ∃ t, u = Value.str x t
  | .byt b, u => ∃ t, u = Value.bytes b t
  | .flt b, u => ∃ t, u = Value.float b t
  | .ref a, u => u = Value.ref a
  | .ty n, u => u = Value.type n
abbrev Vals : List V → List Value → Prop := Paired RelV
theorem Vals.length {xs : List V} {us : List Value} (r : Vals xs us) : xs.length = us.length := Paired.length r
theorem Vals.get : ∀ {xs : List V} {us : List Value} {i : Nat} {x : V}, Vals xs us → xs[i]? = some x → ∃ u, us[i]? = some u ∧ RelV x u
  | _, _, _, _, .nil, e => by simp at e
  | _, _, 0, _, .cons r _, e => by simp at e; subst e; exact ⟨_, rfl, r⟩
  | _, _, i + 1, x, .cons _ t, e => by
    obtain ⟨u, h1, h2⟩ := Vals.get (i := i) (x := x) t (by simpa using e)
    exact ⟨u, by simpa using h1, h2⟩
theorem Vals.set {x : V} {u : Value} (r : RelV x u) : ∀ {xs : List V} {us : List Value} (i : Nat), Vals xs us → Vals (xs.set i x) (us.set i u)
  | _, _, _, .nil => .nil
  | _, _, 0, .cons _ t => .cons r t
  | _, _, i + 1, .cons q t => .cons q (Vals.set r i t)
theorem Vals.append : ∀ {xs ys : List V} {us ws : List Value}, Vals xs us → Vals ys ws → Vals (xs ++ ys) (us ++ ws)
  | _, _, _, _, .nil, s => s
  | _, _, _, _, .cons r t, s => .cons r (Vals.append t s)
theorem Vals.take : ∀ {xs : List V} {us : List Value} (n : Nat), Vals xs us → Vals (xs.take n) (us.take n)
  | _, _, 0, _ => .nil
  | _, _, _ + 1, .nil => .nil
  | _, _, n + 1, .cons r t => .cons r (Vals.take n t)
theorem Vals.drop : ∀ {xs : List V} {us : List Value} (n : Nat), Vals xs us → Vals (xs.drop n) (us.drop n)
  | _, _, 0, r => r
  | _, _, _ + 1, .nil => .nil
  | _, _, n + 1, .cons _ t => Vals.drop n t
def RelO : Option V → Option Value → Prop
  | some v, some u => RelV v u
  | none, none => True
  | _, _ => False
def KV {κ : Type} : List (κ × V) → List (κ × Value) → Prop := Paired fun (p : κ × V) (q : κ × Value) => p.1 = q.1 ∧ RelV p.2 q.2
def kV : Key → V
  | .inl i => .int i
  | .inr x => .str x
inductive HO where
  | lst (xs : List V)
  | tup (xs : List V)
  | dK (kvs : List (Key × V)) | dT (kvs : List (List Key × V))
  | set (S : Int → Bool) (n : Nat)
  | ins (C dx : Addr) (fs : List (Str × V))
  | own (x : Addr)
  | xd (fs : List (Str × V))
  | met (f x : Addr)
  | rng (lo hi : Int)
  | frz (o : Obj) (u : HO)
  | tbl (ps : Array Value)
  | ext (φ : Heap → Prop)
abbrev Hp := Addr → Option HO
def upd (H : Hp) (a : Addr) (o : HO) : Hp := fun b => if b = a then some o else H b
theorem upd_same {H : Hp} {a : Addr} {o : HO} : upd H a o a = some o := by unfold upd; rw [if_pos rfl]
theorem upd_ne {H : Hp} {a b : Addr} {o : HO} (h : b ≠ a) : upd H a o b = H b := by unfold upd; rw [if_neg h]
theorem upd_upd {H : Hp} {a : Addr} {o u : HO} : upd (upd H a o) a u = upd H a u := by
  funext b; unfold upd; split <;> rfl
theorem ne_of {H : Hp} {a b : Addr} {o u : HO} (h : H a = some o) (h' : H b = some u) (d : o ≠ u) : a ≠ b := by
  intro e; subst e; rw [h] at h'; exact d (Option.some.inj h')
theorem ne_of_none {H : Hp} {a b : Addr} {o : HO} (h : H a = some o) (h' : H b = none) : a ≠ b := by
  intro e; subst e; rw [h] at h'; cases h'
section
variable (P : Program) (w : World)
def ObjOk (H : Hp) (h : Heap) (a : Addr) : HO → Prop
  | .lst xs => xs.length ≤ sizeLine ∧ ∃ (its : List Value) (n : Nat), Vals xs its ∧ h.get? a = some { cls := .type "list", data := .seq its.toArray n }
  | .tup xs => xs.length ≤ sizeLine ∧ ∃ its : List Value, Vals xs its ∧ IsTup h a its.toArray
  | .dK kvs => kvs.length ≤ sizeLine ∧ (a == sysModules) = false ∧ ∃ vs, KV kvs vs ∧ h.DictOf (mixKind P w) a vs
  | .dT kvs => kvs.length ≤ sizeLine ∧ (a == sysModules) = false ∧ ∃ xs : List (List Key × Addr × Value),
      Paired (fun (p : List Key × V) (q : List Key × Addr × Value) => p.1 = q.1 ∧ H q.2.1 = some (.tup (p.1.map kV)) ∧ RelV p.2 q.2.2) kvs xs ∧
      ∃ o es ep, h.get? a = some o ∧ o.ExactDict ∧ o.data = .dict es ep ∧ es.toList = xs.map (entryOfKey (tupleKind (mixKind P w))) ∧ (xs.map (·.1)).Nodup
  | .set S n => h.SetOf (intKind P w) a S n
  | .ins C dx fs => H dx = some (.own a) ∧ fs.length ≤ 1000 ∧ dx ≠ a ∧ h.get? a = some (PySem.W.instObj C dx) ∧
      ∃ mA, h.Ns1 dx mA ∧ (∀ f, RelO (fs.lookup f) (mA f)) ∧ PySem.Within mA (fs.map (·.1))
  | .own _ => ∃ o, h.get? a = some o
  | .xd fs => ∃ mA, h.Ns1 a mA ∧ ∀ f, RelO (fs.lookup f) (mA f)
  | .rng lo hi => ∃ t u v, h.get? a = some { cls := .type "range", data := .fields #[.int lo t, .int hi u, .int 1 v] }
  | .frz o u => h.get? a = some o ∧ ObjOk H h a u
  | .tbl ps => h.get? a = some { cls := .none, data := .fields ps }
  | .met f x => h.get? a = some (PySem.W.methodObj (.ref f) (.ref x))
  | .ext φ => φ h ∧ (∃ o, h.get? a = some o) ∧ ∀ h1 h2 : Heap, φ h1 → (∀ o, h1.get? a = some o → h2.get? a = some o) → φ h2
def HOk (H : Hp) (h : Heap) : Prop := ∀ a o, H a = some o → ObjOk P w H h a o
end
section
variable {P : Program} {w : World} {H H' : Hp} {h h' : Heap} {a : Addr} {o : HO}
theorem ObjOk.lt (x : ObjOk P w H h a o) : a < h.objs.size := by
  cases o with
  | lst xs => obtain ⟨_, _, _, _, e⟩ := x; exact Heap.lt_size e
  | tup xs => obtain ⟨_, _, _, p⟩ := x; exact p.lt
  | dK kvs => obtain ⟨_, _, _, _, o, _, _, e, _⟩ := x; exact Heap.lt_size e
  | dT kvs => obtain ⟨_, _, _, _, o, _, _, e, _⟩ := x; exact Heap.lt_size e
  | set S n => obtain ⟨o, _, _, _, e, _⟩ := x; exact Heap.lt_size e
  | ins C dx fs => obtain ⟨_, _, _, e, _⟩ := x; exact Heap.lt_size e
  | own y => obtain ⟨_, e⟩ := x; exact Heap.lt_size e
  | xd fs => obtain ⟨_, ⟨_, _, _, e, _⟩, _⟩ := x; exact Heap.lt_size e
  | rng lo hi => obtain ⟨_, _, _, e⟩ := x; exact Heap.lt_size e
  | frz ob u => obtain ⟨e, _⟩ := x; exact Heap.lt_size e
  | tbl ps => exact Heap.lt_size (show h.get? a = some _ from x)
  | met f y => exact Heap.lt_size (show h.get? a = some _ from x)
  | ext φ => obtain ⟨_, ⟨_, e⟩, _⟩ := x; exact Heap.lt_size e
theorem Paired.mapP {α β : Type} {F G : α → β → Prop} : ∀ {l₁ : List α} {l₂ : List β}, Paired F l₁ l₂ → (∀ a b, F a b → G a b) → Paired G l₁ l₂
  | _, _, .nil, _ => .nil
  | _, _, .cons r t, f => .cons (f _ _ r) (Paired.mapP t f)
theorem ObjOk.stay (x : ObjOk P w H h a o) (k : ∀ b u, (b = a ∨ H b = some (.own a)) → h.get? b = some u → h'.get? b = some u)
    (ho : ∀ b, H b = some (.own a) → H' b = some (.own a)) (ht : ∀ b xs, H b = some (.tup xs) → H' b = some (.tup xs)) : ObjOk P w H' h' a o := by
  induction o with
  | lst xs => obtain ⟨z, its, n, r, e⟩ := x; exact ⟨z, its, n, r, k _ _ (.inl rfl) e⟩
  | tup xs => obtain ⟨z, its, r, ob, e, c⟩ := x; exact ⟨z, its, r, ob, k _ _ (.inl rfl) e, c⟩
  | dK kvs => obtain ⟨z, y, vs, r, ob, es, ep, e, c⟩ := x; exact ⟨z, y, vs, r, ob, es, ep, k _ _ (.inl rfl) e, c⟩
  | dT kvs =>
    obtain ⟨z, y, xs, r, ob, es, ep, e, c⟩ := x
    exact ⟨z, y, xs, Paired.mapP r fun p q z => ⟨z.1, ht _ _ z.2.1, z.2.2⟩, ob, es, ep, k _ _ (.inl rfl) e, c⟩
  | set S n => obtain ⟨ob, es, ep, t, e, c⟩ := x; exact ⟨ob, es, ep, t, k _ _ (.inl rfl) e, c⟩
  | ins C dx fs =>
    obtain ⟨d, z, ne, e, mA, ⟨od, es, ep, e2, c⟩, r⟩ := x
    exact ⟨ho _ d, z, ne, k _ _ (.inl rfl) e, mA, ⟨od, es, ep, k _ _ (.inr d) e2, c⟩, r⟩
  | own y => obtain ⟨ob, e⟩ := x; exact ⟨ob, k _ _ (.inl rfl) e⟩
  | xd fs => obtain ⟨mA, ⟨od, es, ep, e, c⟩, r⟩ := x; exact ⟨mA, ⟨od, es, ep, k _ _ (.inl rfl) e, c⟩, r⟩
  | rng lo hi => obtain ⟨t, u, v, e⟩ := x; exact ⟨t, u, v, k _ _ (.inl rfl) e⟩
  | frz ob u ih => obtain ⟨e, q⟩ := x; exact ⟨k _ _ (.inl rfl) e, ih q⟩
  | tbl ps =>
    have e : h.get? a = some { cls := .none, data := .fields ps } := x
    show h'.get? a = some { cls := .none, data := .fields ps }
    exact k a _ (.inl rfl) e
  | met f y =>
    have e : h.get? a = some (PySem.W.methodObj (.ref f) (.ref y)) := x
    show h'.get? a = some (PySem.W.methodObj (.ref f) (.ref y))
    exact k a _ (.inl rfl) e
  | ext φ => obtain ⟨p, ⟨o, e⟩, st⟩ := x; exact ⟨st _ _ p fun o q => k _ _ (.inl rfl) q, ⟨o, k _ _ (.inl rfl) e⟩, st⟩
theorem HOk.lt (x : HOk P w H h) (e : H a = some o) : a < h.objs.size := (x a o e).lt
theorem HOk.fresh (x : HOk P w H h) (e : h.objs.size ≤ a) : H a = none := by
  cases q : H a with
  | none => rfl
  | some u => exact absurd (Nat.lt_of_lt_of_le (x.lt q) e) (Nat.lt_irrefl _)
theorem HOk.kept (x : HOk P w H h) (k : ∀ b u, h.get? b = some u → h'.get? b = some u) : HOk P w H h' := fun a o e =>
  (x a o e).stay (fun b u _ q => k b u q) (fun _ q => q) fun _ _ q => q
theorem HOk.laid (x : HOk P w H h) (k : ∀ b u, h.get? b = some u → h'.get? b = some u) (hp : h.objs.size ≤ a) (new : ObjOk P w (upd H a o) h' a o) : HOk P w (upd H a o) h' := fun b u e => by
  have hn := x.fresh hp
  by_cases hb : b = a
  · subst hb; rw [upd_same] at e; cases e; exact new
  · rw [upd_ne hb] at e
    exact (x b u e).stay (fun c v _ q => k c v q) (fun c q => by rw [upd_ne (ne_of_none q hn)]; exact q) fun c xs q => by rw [upd_ne (ne_of_none q hn)]; exact q
end
def Rd (H : Hp) (a : Addr) (u : HO) : Prop := H a = some u ∨ ∃ o, H a = some (.frz o u)
theorem Rd.of {H : Hp} {a : Addr} {u : HO} (h : H a = some u) : Rd H a u := .inl h
theorem Rd.ok {P : Program} {w : World} {H : Hp} {h : Heap} {a : Addr} {u : HO} (r : Rd H a u) (x : HOk P w H h) : ObjOk P w H h a u := by
  rcases r with r | ⟨o, r⟩
  · exact x a u r
  · obtain ⟨_, q⟩ := x a _ r
    exact q
def Mut : Option HO → Prop
  | some (.lst _) => True
  | some (.dK _) => True
  | some (.dT _) => True
  | some (.set _ _) => True
  | some (.ins _ _ _) => True
  | some (.ext _) => True
  | _ => False
section
variable {P : Program} {w : World} {H : Hp} {h h' : Heap} {x e : Addr} {o' : HO}
theorem HOk.write (ok : HOk P w H h) (mu : Mut (H x)) (he : e = x ∨ H e = some (.own x)) (k : ∀ b u, b ≠ e → h.get? b = some u → h'.get? b = some u) (heo : ∃ u, h'.get? e = some u)
    (new : ObjOk P w (upd H x o') h' x o') : HOk P w (upd H x o') h' := fun b u q => by
  have nown : ∀ c y, H c = some (.own y) → c ≠ x := fun c y r z => by subst z; rw [r] at mu; exact mu
  have ntup : ∀ c xs, H c = some (.tup xs) → c ≠ x := fun c xs r z => by subst z; rw [r] at mu; exact mu
  by_cases hb : b = x
  · subst hb; rw [upd_same] at q; cases q; exact new
  · rw [upd_ne hb] at q
    by_cases hbe : b = e
    · have q' : H b = some (.own x) := by
        rcases he with z | z
        · exact absurd (hbe.trans z) hb
        · rw [hbe]; exact z
      rw [q] at q'; cases q'
      obtain ⟨v, hv⟩ := heo
      exact ⟨v, by rw [hbe]; exact hv⟩
    · refine (ok b u q).stay (fun c v hc r => k c v ?_ r) (fun c r => by rw [upd_ne (nown c b r)]; exact r) fun c xs r => by rw [upd_ne (ntup c xs r)]; exact r
      rcases hc with rfl | hc
      · exact hbe
      · rintro rfl
        rcases he with z | z
        · exact nown c b hc z
        · rw [hc] at z; cases z; exact hb rfl
end
structure Un (fs ex : List Addr) (H H' : Hp) (h h' : Heap) : Prop where
  keep : ∀ b o, h.get? b = some o → H b = none → b ∉ fs → b ∉ ex → h'.get? b = some o
  slot : ∀ b o, h.get? b = some o → H b = none → b ∈ fs → b ∉ ex → ∃ sl, h'.get? b = some { o with slots := sl }
  free : ∀ b o, h.get? b = some o → H b = none → b ∉ ex → H' b = none
  there : ∀ b o, h.get? b = some o → b ∉ ex → ∃ o', h'.get? b = some o'
  tups : ∀ b xs, H b = some (.tup xs) → H' b = some (.tup xs)
  frzs : ∀ b o u, H b = some (.frz o u) → H' b = some (.frz o u)
  tbls : ∀ b ps, H b = some (.tbl ps) → ∃ more, H' b = some (.tbl (ps ++ more))
section
variable {fs fs' ex ex' : List Addr} {H H1 H2 : Hp} {h h1 h2 h' : Heap} {a x e : Addr} {o : HO}
theorem Un.any (u : Un fs ex H H1 h h1) {b : Addr} {ob : Obj} (q : h.get? b = some ob) (n : H b = none) (hx : b ∉ ex) : ∃ sl, h1.get? b = some { ob with slots := sl } := by
  by_cases hb : b ∈ fs
  · exact u.slot b ob q n hb hx
  · exact ⟨ob.slots, u.keep b ob q n hb hx⟩
theorem Un.trans (a : Un fs ex H H1 h h1) (b : Un fs ex H1 H2 h1 h2) : Un fs ex H H2 h h2 where
  keep := fun c ob q n hc hx => b.keep c ob (a.keep c ob q n hc hx) (a.free c ob q n hx) hc hx
  slot := fun c ob q n hc hx => by
    obtain ⟨sl, e1⟩ := a.slot c ob q n hc hx
    obtain ⟨sl', e2⟩ := b.slot c _ e1 (a.free c ob q n hx) hc hx
    exact ⟨sl', e2⟩
  free := fun c ob q n hx => by
    obtain ⟨o', e1⟩ := a.there c ob q hx
    exact b.free c o' e1 (a.free c ob q n hx) hx
  there := fun c ob q hx => by
    obtain ⟨o', e1⟩ := a.there c ob q hx
    exact b.there c o' e1 hx
  tups := fun c xs q => b.tups c xs (a.tups c xs q)
  frzs := fun c ob xs q => b.frzs c ob xs (a.frzs c ob xs q)
  tbls := fun c ps q => by
    obtain ⟨m1, e1⟩ := a.tbls c ps q
    obtain ⟨m2, e2⟩ := b.tbls c _ e1
    exact ⟨m1 ++ m2, by rw [e2, Array.append_assoc]⟩
theorem Un.kept (k : ∀ b u, h.get? b = some u → h'.get? b = some u) : Un fs ex H H h h' :=
  ⟨fun b ob q _ _ _ => k b ob q, fun b ob q _ _ _ => ⟨ob.slots, k b ob q⟩, fun _ _ _ n _ => n, fun b ob q _ => ⟨ob, k b ob q⟩, fun _ _ q => q, fun _ _ _ q => q, fun _ ps q => ⟨#[], by rw [q]; simp⟩⟩
theorem Un.refl : Un fs ex H H h h := Un.kept fun _ _ q => q
theorem Un.laid (k : ∀ b u, h.get? b = some u → h'.get? b = some u) (hp : h.objs.size ≤ a) (hn : H a = none) : Un fs ex H (upd H a o) h h' where
  keep := fun b u q _ _ _ => k b u q
  slot := fun b u q _ _ _ => ⟨u.slots, k b u q⟩
  free := fun b u q n _ => by rw [upd_ne (Nat.ne_of_lt (Nat.lt_of_lt_of_le (Heap.lt_size q) hp))]; exact n
  there := fun b u q _ => ⟨u, k b u q⟩
  tups := fun b xs q => by rw [upd_ne (ne_of_none q hn)]; exact q
  frzs := fun b u xs q => by rw [upd_ne (ne_of_none q hn)]; exact q
  tbls := fun b ps q => ⟨#[], by rw [upd_ne (ne_of_none q hn), q]; simp⟩
theorem Un.write (mu : Mut (H x)) (he : e = x ∨ H e = some (.own x)) (k : ∀ b u, b ≠ e → h.get? b = some u → h'.get? b = some u) (heo : ∃ u, h'.get? e = some u) : Un fs ex H (upd H x o) h h' := by
  have hx : ∀ b, H b = none → b ≠ x := fun b n z => by subst z; rw [n] at mu; exact mu
  have hb : ∀ b, H b = none → b ≠ e := fun b n z => by
    subst z
    rcases he with r | r
    · exact hx b n r
    · rw [n] at r; cases r
  have hm : ∀ b u, H b = some u → ¬ Mut (some u) → b ≠ x := fun b u q nm z => by subst z; rw [q] at mu; exact nm mu
  refine ⟨fun b u q n _ _ => k b u (hb b n) q, fun b u q n _ _ => ⟨u.slots, k b u (hb b n) q⟩, fun b u q n _ => by rw [upd_ne (hx b n)]; exact n, fun b u q _ => ?_,
    fun b xs q => by rw [upd_ne (hm b _ q fun z => z)]; exact q, fun b u xs q => by rw [upd_ne (hm b _ q fun z => z)]; exact q, fun b ps q => ⟨#[], by rw [upd_ne (hm b _ q fun z => z), q]; simp⟩⟩
  by_cases hbe : b = e
  · subst hbe; exact heo
  · exact ⟨u, k b u hbe q⟩
theorem Un.mono (u : Un fs ex H H1 h h1) (hs : ∀ b ∈ fs, b ∈ fs') (hx : ∀ b ∈ ex, b ∈ ex') : Un fs' ex' H H1 h h1 :=
  ⟨fun b ob q n hb he => u.keep b ob q n (fun z => hb (hs b z)) fun z => he (hx b z), fun _ _ q n _ he => u.any q n fun z => he (hx _ z), fun b ob q n he => u.free b ob q n fun z => he (hx b z), fun b ob q he => u.there b ob q fun z => he (hx b z), u.tups, u.frzs, u.tbls⟩
end
def trk (h : Heap) (H : Hp) : List Addr := (List.range h.objs.size).filter fun a => (H a).isSome
def hidT (h : Heap) (H : Hp) : Heap := PySem.W.hideAll h (trk h H)
theorem hidT_size (h : Heap) (H : Hp) : (hidT h H).objs.size = h.objs.size := PySem.W.hideAll_size _ _
theorem hidT_get {h : Heap} {H : Hp} {b : Addr} {o : Obj} (e : h.get? b = some o) (n : H b = none) : (hidT h H).get? b = some o :=
  PySem.W.hideAll_get _ e fun hm => by
    have q : (H b).isSome = true := (List.mem_filter.mp hm).2
    rw [n] at q; simp at q
theorem of_hidT {h : Heap} {H : Hp} {b : Addr} {o : Obj} (e : (hidT h H).get? b = some o) : h.get? b = some o ∧ H b = none := by
  have e' : h.get? b = some o := PySem.W.of_hideAll (trk h H) e
  refine ⟨e', ?_⟩
  cases q : H b with
  | none => rfl
  | some x =>
    have hm : b ∈ trk h H := List.mem_filter.mpr ⟨List.mem_range.mpr (Heap.lt_size e'), by simp [q]⟩
    have z : (hidT h H).get? b = none := PySem.W.hideAll_none (trk h H) hm
    rw [z] at e; cases e
def allNews (g h : Heap) (L : Addr) : List (Addr × Obj) := (List.range h.objs.size).filterMap fun a => if a = L ∨ (g.get? a).isSome = true then none else (h.get? a).map fun o => (a, o)
def rest (g h : Heap) (L d : Addr) : List (Addr × Obj) := (allNews g h L).filter fun p => decide (p.1 ≠ d)
end L2
namespace L2
open PySem PySem.Spec PyProof.Rows
structure Mod (K : PySem.W.Frag) (mg : Str → Option Value) (base : Heap) : Prop where
  kin : K.In base
  glob : base.Ns mainGlobals mg
  blt : ∃ mb, base.Ns builtinsNs mb ∧ ∀ x : Str, x ≠ "__name__" → mb x = bootBuiltins x
  nolimit : base.NoLimit
structure Cx where
  prog : Program
  w : World
  K : PySem.W.Frag
  mg : Str → Option Value
  base : Heap
  A : Around
  N : List Str
  s₀ : Shared
  H₀ : Hp
  env : Env
  outer : List Env
  stack : List Env
  ex : List Addr
  fn : Str → Bool
  calm : Bool
  pn : List (Addr × Obj)
  xe : Value → Shared → Prop
def frs (l : List Env) : List Addr := l.filterMap (·.frame)
abbrev Cx.fs (X : Cx) : List Addr := frs X.outer
def Vis (sc : Scope) (x : Str) : Prop := sc.names.lookup x = some .local ∨ sc.names.lookup x = some .cell ∨ sc.names.lookup x = some .free
def Loc (sc : Scope) (x : Str) : Prop := sc.names.lookup x = some .local ∨ sc.names.lookup x = some .cell
def Look (env : Env) (h : Heap) (m : Str → Option Value) (x : Str) (u : Value) : Prop :=
  (env.kindOf x = some .local ∧ m x = some u) ∨ ((env.kindOf x = some .cell ∨ env.kindOf x = some .free) ∧ ∃ c, env.cells.lookup x = some c ∧ h.IsCell c (some u))
structure Cx.Ok (X : Cx) : Prop where
  mod : Mod X.K X.mg X.base
  kind : X.env.scope.kind = .function
  glob : X.env.globals = mainGlobals
  blt : X.env.builtins = builtinsNs
  above : X.s₀.heap.objs.size ≤ X.env.locals
  inj : ∀ x y c, X.env.cells.lookup x = some c → X.env.cells.lookup y = some c → x = y
  has : ∀ x, (X.env.kindOf x = some .cell ∨ X.env.kindOf x = some .free) → ∃ c, X.env.cells.lookup x = some c
  cab : ∀ x c, X.fn x = true → X.env.cells.lookup x = some c → X.s₀.heap.objs.size ≤ c
  hd : X.calm = true → X.A.handled = none
  frames : X.A.frames = some X.stack
  stk : X.stack = X.outer ∨ (X.stack = X.env :: X.outer ∧ X.env.frame = some X.env.locals)
  exf : ∀ b ∈ X.ex, b ≠ X.env.locals ∧ ∀ x c, X.env.cells.lookup x = some c → c ≠ b
  bs : ∀ b o, X.base.get? b = some o → X.s₀.heap.get? b = some o ∧ X.H₀ b = none
  bsz : X.base.objs.size ≤ X.s₀.heap.objs.size
  noex : ∀ b o, X.base.get? b = some o → b ∉ X.ex
  exfs : ∀ b ∈ X.ex, b ∉ X.fs
  funs : X.s₀.heap.FunFrames X.base X.outer
  frf : ∀ b ∈ X.fs, X.H₀ b = none
structure Inv (X : Cx) (pins : List (Addr × Obj)) (σ : List (Option V)) (H : Hp) (s : Shared) : Prop where
  ok : X.Ok
  os : s.os = X.s₀.os
  bare : AllBare s.gens
  base : Un X.fs X.ex X.H₀ H X.s₀.heap s.heap
  loc : ∃ m, s.heap.Ns X.env.locals m ∧ ∀ (i : Nat) (x : Str) (v : V), X.N[i]? = some x → σ[i]? = some (some v) → Vis X.env.scope x → ∃ u, RelV v u ∧ Look X.env s.heap m x u
  cell : ∀ x c, X.env.cells.lookup x = some c → ∃ v, s.heap.IsCell c v
  free : H X.env.locals = none
  freeC : ∀ x c, X.env.cells.lookup x = some c → H c = none
  pin : ∀ p ∈ X.pn ++ pins, s.heap.get? p.1 = some p.2 ∧ H p.1 = none ∧ p.1 ≠ X.env.locals ∧ p.1 ∉ X.fs ∧ ∀ v, p.2.data ≠ .cell v
  hok : HOk X.prog X.w H s.heap
  len : σ.length = X.N.length
section
variable {X : Cx} {pins : List (Addr × Obj)} {σ : List (Option V)} {H H' : Hp} {s : Shared} {h' : Heap}
theorem Cx.Ok.nofr (ok : X.Ok) {b : Addr} {o : Obj} (e : X.base.get? b = some o) : b ∉ X.fs := fun hb => by
  have := (ok.funs.mem hb).1
  rw [e] at this; cases this
theorem Inv.bs (I : Inv X pins σ H s) : ∀ b o, X.base.get? b = some o → s.heap.get? b = some o ∧ H b = none := fun b o e =>
  ⟨I.base.keep b o (I.ok.bs b o e).1 (I.ok.bs b o e).2 (I.ok.nofr e) (I.ok.noex b o e), I.base.free b o (I.ok.bs b o e).1 (I.ok.bs b o e).2 (I.ok.noex b o e)⟩
theorem Inv.bk (I : Inv X pins σ H s) : ∀ b o, X.base.get? b = some o → s.heap.get? b = some o := fun b o e => (I.bs b o e).1
theorem Inv.mod (I : Inv X pins σ H s) : Mod X.K X.mg X.base := I.ok.mod
theorem Inv.kIn (I : Inv X pins σ H s) : X.K.In s.heap := I.ok.mod.kin.keeps I.bk
theorem Inv.nolimit (I : Inv X pins σ H s) : s.heap.NoLimit := I.ok.mod.nolimit.keeps I.bk
theorem Inv.fr (I : Inv X pins σ H s) : ∃ m, Fr X.base X.env.locals s.heap m :=
  let ⟨m, hn, _⟩ := I.loc
  ⟨m, hn, I.bk, Nat.le_trans I.ok.bsz I.ok.above⟩
theorem Inv.lt (I : Inv X pins σ H s) : X.env.locals < s.heap.objs.size := let ⟨_, hn, _⟩ := I.loc; hn.lt
theorem Inv.sz (I : Inv X pins σ H s) : X.s₀.heap.objs.size ≤ s.heap.objs.size := Nat.le_trans I.ok.above (Nat.le_of_lt I.lt)
theorem Inv.nofs (I : Inv X pins σ H s) {a : Addr} (h : s.heap.objs.size ≤ a) : a ∉ X.fs := fun hb => by
  obtain ⟨_, o, ho, _⟩ := I.ok.funs.mem hb
  exact absurd (Nat.lt_of_lt_of_le (Heap.lt_size ho) (Nat.le_trans I.sz h)) (Nat.lt_irrefl _)
theorem Inv.cne (I : Inv X pins σ H s) : ∀ x c, X.env.cells.lookup x = some c → c ≠ X.env.locals := fun x c e z => by
  obtain ⟨v, o, ho, hd⟩ := I.cell x c e
  obtain ⟨m, ⟨o', es, ep, ho', hd', _⟩, _⟩ := I.loc
  rw [z, ho'] at ho; cases ho; rw [hd'] at hd; cases hd
theorem Inv.funs (I : Inv X pins σ H s) : s.heap.FunFrames X.base X.outer := by
  have all : ∀ (l : List Env), (∀ b ∈ frs l, b ∈ X.fs) → X.s₀.heap.FunFrames X.base l → s.heap.FunFrames X.base l := by
    intro l
    induction l with
    | nil => intro _ _; trivial
    | cons env r ih =>
      intro hs hl
      obtain ⟨hk, ⟨L, o, hf, hn, ho, hd⟩, hr⟩ := hl
      have hL : L ∈ X.fs := hs L (by unfold frs; rw [List.filterMap_cons, hf]; exact List.mem_cons_self)
      obtain ⟨sl, e⟩ := I.base.slot L o ho (I.ok.frf L hL) hL fun z => I.ok.exfs L z hL
      exact ⟨hk, ⟨L, _, hf, hn, e, hd⟩, ih (fun b hb => hs b (by unfold frs; rw [List.filterMap_cons, hf]; exact List.mem_cons_of_mem _ hb)) hr⟩
  exact all X.outer (fun _ hb => hb) I.ok.funs
theorem Inv.stack (I : Inv X pins σ H s) : s.heap.FunFrames X.base X.stack := by
  rcases I.ok.stk with e | ⟨e, hf⟩
  · rw [e]; exact I.funs
  · rw [e]
    obtain ⟨m, hn, _⟩ := I.loc
    refine .cons (by rw [I.ok.kind]; decide) hf hn ?_ I.funs
    exact Heap.get?_none_of_le (Nat.le_trans I.ok.bsz I.ok.above)
theorem Inv.stkSub (I : Inv X pins σ H s) : ∀ b ∈ frs X.stack, b ∈ X.env.locals :: X.fs := fun b hb => by
  rcases I.ok.stk with e | ⟨e, hf⟩
  · rw [e] at hb; exact List.mem_cons_of_mem _ hb
  · rw [e] at hb
    unfold frs at hb
    rw [List.filterMap_cons, hf] at hb
    exact hb
theorem Inv.stkFree (I : Inv X pins σ H s) : ∀ b ∈ frs X.stack, H b = none := fun b hb => by
  rcases List.mem_cons.mp (I.stkSub b hb) with e | hb
  · rw [e]; exact I.free
  · obtain ⟨_, o, ho, _⟩ := I.ok.funs.mem hb
    exact I.base.free b o ho (I.ok.frf b hb) fun z => I.ok.exfs b z hb
theorem Inv.step {g' : Array GenState} {t' : Nat} {d' : Drawn} {ch : List Addr} (I : Inv X pins σ H s)
    (hch : ∀ b ∈ ch, (b ∈ X.ex ∨ X.s₀.heap.objs.size ≤ b) ∧ b ≠ X.env.locals ∧ (∀ x c, X.env.cells.lookup x = some c → c ≠ b) ∧ ∀ p ∈ X.pn ++ pins, p.1 ≠ b)
    (keep : ∀ b o, b ≠ X.env.locals → b ∉ X.fs → b ∉ ch → s.heap.get? b = some o → H b = none → h'.get? b = some o)
    (slot : ∀ b o, b ≠ X.env.locals → b ∈ X.fs → b ∉ ch → s.heap.get? b = some o → H b = none → ∃ sl, h'.get? b = some { o with slots := sl }) (free : ∀ b o, b ∉ ch → s.heap.get? b = some o → H b = none → H' b = none)
    (there : ∀ b o, b ∉ ch → s.heap.get? b = some o → ∃ o', h'.get? b = some o')
    (tups : ∀ b xs, H b = some (.tup xs) → H' b = some (.tup xs)) (frzs : ∀ b o u, H b = some (.frz o u) → H' b = some (.frz o u)) (tbls : ∀ b ps, H b = some (.tbl ps) → ∃ more, H' b = some (.tbl (ps ++ more)))
    (ns : ∀ m, s.heap.Ns X.env.locals m → h'.Ns X.env.locals m) (hok : HOk X.prog X.w H' h') (hg : AllBare g') :
    Inv X pins σ H' { s with heap := h', gens := g', drawn := d', toks := t' } := by
  have neL : ∀ b o, X.s₀.heap.get? b = some o → b ≠ X.env.locals := fun b o e => Nat.ne_of_lt (Nat.lt_of_lt_of_le (Heap.lt_size e) I.ok.above)
  have neC : ∀ b o, X.s₀.heap.get? b = some o → b ∉ X.ex → b ∉ ch := fun b o e hx hb => by
    rcases (hch b hb).1 with z | z
    · exact hx z
    · exact absurd (Nat.lt_of_lt_of_le (Heap.lt_size e) z) (Nat.lt_irrefl _)
  have cellK : ∀ x c, X.env.cells.lookup x = some c → ∀ v, s.heap.IsCell c v → h'.IsCell c v := fun x c e v ⟨o, ho, hd⟩ => by
    have nch : c ∉ ch := fun z => (hch c z).2.2.1 x c e rfl
    by_cases hc : c ∈ X.fs
    · obtain ⟨sl, q⟩ := slot c o (I.cne x c e) hc nch ho (I.freeC x c e)
      exact ⟨_, q, hd⟩
    · exact ⟨o, keep c o (I.cne x c e) hc nch ho (I.freeC x c e), hd⟩
  refine ⟨I.ok, I.os, hg, ⟨fun b o e n hb hx => ?_, fun b o e n hb hx => ?_, fun b o e n hx => ?_, fun b o e hx => ?_, fun b xs e => tups b xs (I.base.tups b xs e), fun b o xs e => frzs b o xs (I.base.frzs b o xs e), fun b ps e => ?_⟩, ?_, fun x c e => ?_, ?_, fun x c e => ?_, fun p hp => ?_, hok, I.len⟩
  · exact keep b o (neL b o e) hb (neC b o e hx) (I.base.keep b o e n hb hx) (I.base.free b o e n hx)
  · obtain ⟨sl, e1⟩ := I.base.slot b o e n hb hx
    obtain ⟨sl', e2⟩ := slot b _ (neL b o e) hb (neC b o e hx) e1 (I.base.free b o e n hx)
    exact ⟨sl', e2⟩
  · obtain ⟨o', e1⟩ := I.base.there b o e hx
    exact free b o' (neC b o e hx) e1 (I.base.free b o e n hx)
  · obtain ⟨o', e1⟩ := I.base.there b o e hx
    exact there b o' (neC b o e hx) e1
  · obtain ⟨m1, e1⟩ := I.base.tbls b ps e
    obtain ⟨m2, e2⟩ := tbls b _ e1
    exact ⟨m1 ++ m2, by rw [e2, Array.append_assoc]⟩
  · obtain ⟨m, hn, hl⟩ := I.loc
    refine ⟨m, ns m hn, fun i x v e1 e2 e3 => ?_⟩
    obtain ⟨u, r, l⟩ := hl i x v e1 e2 e3
    refine ⟨u, r, ?_⟩
    rcases l with l | ⟨k, c, e, z⟩
    · exact .inl l
    · exact .inr ⟨k, c, e, cellK x c e _ z⟩
  · obtain ⟨v, z⟩ := I.cell x c e
    exact ⟨v, cellK x c e v z⟩
  · obtain ⟨m, ⟨o, _, _, ho, _⟩, _⟩ := I.loc
    exact free _ o (fun z => (hch _ z).2.1 rfl) ho I.free
  · obtain ⟨v, o, ho, hd⟩ := I.cell x c e
    exact free c o (fun z => (hch c z).2.2.1 x c e rfl) ho (I.freeC x c e)
  · obtain ⟨e, n, ne, nf, d⟩ := I.pin p hp
    have nch : p.1 ∉ ch := fun z => (hch p.1 z).2.2.2 p hp rfl
    exact ⟨keep p.1 p.2 ne nf nch e n, free p.1 p.2 nch e n, ne, nf, d⟩
theorem Inv.un {t' : Nat} (I : Inv X pins σ H s) (u : Un X.fs [] H H' s.heap h') (hok : HOk X.prog X.w H' h') : Inv X pins σ H' { s with heap := h', toks := t' } := by
  obtain ⟨m, ⟨o, es, ep, ho, r⟩, _⟩ := id I.loc
  obtain ⟨sl, hL⟩ := u.any ho I.free (by simp)
  exact I.step (g' := s.gens) (d' := s.drawn) (ch := []) (fun _ z => nomatch z) (fun b o _ hb _ e n => u.keep b o e n hb (by simp)) (fun b o _ hb _ e n => u.slot b o e n hb (by simp)) (fun b o _ e n => u.free b o e n (by simp)) (fun b o _ e => u.there b o e (by simp)) u.tups u.frzs u.tbls (fun m' hm => by
    obtain ⟨o', es', ep', ho', r'⟩ := hm
    rw [ho] at ho'; cases ho'
    exact ⟨_, es', ep', hL, r'⟩) hok I.bare
theorem Inv.call {g' : Array GenState} {t' : Nat} {d' : Drawn} {ch : List Addr} (I : Inv X pins σ H s) (u : Un (frs X.stack) ch H H' s.heap h') (hok : HOk X.prog X.w H' h') (hg : AllBare g')
    (hch : ∀ b ∈ ch, (b ∈ X.ex ∨ X.s₀.heap.objs.size ≤ b) ∧ b ≠ X.env.locals ∧ (∀ x c, X.env.cells.lookup x = some c → c ≠ b) ∧ ∀ p ∈ X.pn ++ pins, p.1 ≠ b) :
    Inv X pins σ H' { s with heap := h', gens := g', drawn := d', toks := t' } := by
  obtain ⟨m, ⟨o, es, ep, ho, r⟩, _⟩ := id I.loc
  obtain ⟨sl, hL⟩ := u.any ho I.free fun z => (hch _ z).2.1 rfl
  exact I.step (ch := ch) hch (fun b o hL hb hc e n => u.keep b o e n (fun z => (List.mem_cons.mp (I.stkSub b z)).elim hL hb) hc) (fun b o _ _ hc e n => u.any e n hc) (fun b o hc e n => u.free b o e n hc) (fun b o hc e => u.there b o e hc) u.tups u.frzs u.tbls (fun m' hm => by
    obtain ⟨o', es', ep', ho', r'⟩ := hm
    rw [ho] at ho'; cases ho'
    exact ⟨_, es', ep', hL, r'⟩) hok hg
theorem Inv.turned {t' : Nat} {it : Addr} (I : Inv X pins σ H s) (k : ∀ b o, b ≠ it → s.heap.get? b = some o → h'.get? b = some o) (hn : H it = none) (hL : it ≠ X.env.locals)
    (h1 : it ∈ X.ex ∨ X.s₀.heap.objs.size ≤ it) (h2 : ∀ x c, X.env.cells.lookup x = some c → c ≠ it) (h3 : ∀ p ∈ X.pn ++ pins, p.1 ≠ it) : Inv X pins σ H { s with heap := h', toks := t' } := by
  have nit : ∀ b u, H b = some u → b ≠ it := fun b u e z => by rw [z, hn] at e; cases e
  refine I.step (g' := s.gens) (d' := s.drawn) (ch := [it]) (fun b hb => ?_) (fun b o _ _ hc e _ => k b o (fun z => hc (by simp [z])) e) (fun b o _ _ hc e _ => ⟨o.slots, k b o (fun z => hc (by simp [z])) e⟩) (fun _ _ _ _ n => n)
    (fun b o hc e => ⟨o, k b o (fun z => hc (by simp [z])) e⟩) (fun _ _ e => e) (fun _ _ _ e => e) (fun b ps e => ⟨#[], by rw [e]; simp⟩) (fun m hm => ?_) (fun b u e => ?_) I.bare
  · have e : b = it := by simpa using hb
    subst e
    exact ⟨h1, hL, h2, h3⟩
  · obtain ⟨o, es, ep, ho, r⟩ := hm
    exact ⟨o, es, ep, k _ o (Ne.symm hL) ho, r⟩
  · refine (I.hok b u e).stay (fun c v hc q => k c v ?_ q) (fun _ q => q) fun _ _ q => q
    rcases hc with z | z
    · rw [z]; exact nit b u e
    · exact nit c _ z
theorem Inv.tok (I : Inv X pins σ H s) (t : Nat) : Inv X pins σ H { s with toks := t } := I.un (h' := s.heap) (t' := t) Un.refl I.hok
theorem Inv.kept {t' : Nat} (I : Inv X pins σ H s) (k : ∀ b u, s.heap.get? b = some u → h'.get? b = some u) : Inv X pins σ H { s with heap := h', toks := t' } := I.un (Un.kept k) (I.hok.kept k)
theorem Inv.laid {a : Addr} {o : HO} {t' : Nat} (I : Inv X pins σ H s) (k : ∀ b u, s.heap.get? b = some u → h'.get? b = some u) (hp : s.heap.objs.size ≤ a) (new : ObjOk X.prog X.w (upd H a o) h' a o) :
    Inv X pins σ (upd H a o) { s with heap := h', toks := t' } := I.un (Un.laid k hp (I.hok.fresh hp)) (I.hok.laid k hp new)
theorem Inv.write {x e : Addr} {o : HO} {t' : Nat} (I : Inv X pins σ H s) (mu : Mut (H x)) (he : e = x ∨ H e = some (.own x)) (k : ∀ b u, b ≠ e → s.heap.get? b = some u → h'.get? b = some u) (heo : ∃ u, h'.get? e = some u)
    (new : ObjOk X.prog X.w (upd H x o) h' x o) : Inv X pins σ (upd H x o) { s with heap := h', toks := t' } := I.un (Un.write mu he k heo) (I.hok.write mu he k heo new)
theorem Inv.weak {σ' : List (Option V)} (I : Inv X pins σ H s) (hl : σ'.length = σ.length) (w : ∀ (i : Nat) v, σ'[i]? = some (some v) → σ[i]? = some (some v)) : Inv X pins σ' H s :=
  ⟨I.ok, I.os, I.bare, I.base, let ⟨m, hn, hl'⟩ := I.loc; ⟨m, hn, fun i x v e1 e2 e3 => hl' i x v e1 (w i v e2) e3⟩, I.cell, I.free, I.freeC, I.pin, I.hok, hl.trans I.len⟩
theorem Inv.pins_of {pins' : List (Addr × Obj)} (I : Inv X pins σ H s) (h : ∀ p ∈ pins', s.heap.get? p.1 = some p.2 ∧ H p.1 = none ∧ p.1 ≠ X.env.locals ∧ p.1 ∉ X.fs ∧ ∀ v, p.2.data ≠ .cell v) : Inv X pins' σ H s :=
  ⟨I.ok, I.os, I.bare, I.base, I.loc, I.cell, I.free, I.freeC, fun p hp => (List.mem_append.mp hp).elim (fun z => I.pin p (List.mem_append_left _ z)) (h p), I.hok, I.len⟩
theorem nodup_ix {N : List Str} (hN : N.Nodup) {i j : Nat} {x : Str} (a : N[i]? = some x) (b : N[j]? = some x) : i = j := by
  obtain ⟨h1, e1⟩ := List.getElem?_eq_some_iff.mp a
  obtain ⟨h2, e2⟩ := List.getElem?_eq_some_iff.mp b
  exact (List.getElem_inj hN).mp (e1.trans e2.symm)
theorem store_ok2 {M : Model} {A : Around} {E : Value → Shared → Prop} {i : Nat} {x : Str} {v : V} {u : Value} {Q : Unit → Shared → Prop} (I : Inv X pins σ H s) (hN : X.N.Nodup) (hi : X.N[i]? = some x) (hx : Loc X.env.scope x) (r : RelV v u)
    (h : ∀ s', Inv X pins (σ.set i (some v)) H s' → (∃ a, Heap.SameBut a s.heap s'.heap ∧ (a = X.env.locals ∨ X.env.cells.lookup x = some a)) → Q () s') (hf : X.fn x = true ∨ X.env.scope.names.lookup x = some .local := by first | exact .inl rfl | exact .inr rfl | assumption) : wpAny M A (storeName X.env x u) Q E s := by
  obtain ⟨m, hn, hl⟩ := id I.loc
  have hcls : (X.env.scope.kind == .class || (X.env.scope.kind == .module && X.env.locals != X.env.globals)) = false := by rw [I.ok.kind]; rfl
  have hiσ : i < σ.length := by rw [I.len]; exact (List.getElem?_eq_some_iff.mp hi).1
  have cne := I.cne
  have tracked : ∀ {a : Addr} {h' : Heap}, (∃ o, s.heap.get? a = some o ∧ H a = none) → Heap.SameBut a s.heap h' → HOk X.prog X.w H h' := fun {a h'} ha hs b ob e => by
    obtain ⟨_, _, hfree⟩ := ha
    refine (I.hok b ob e).stay (fun c w' hc q => (hs.2 c ?_).trans q) (fun _ q => q) fun _ _ q => q
    rintro rfl
    rcases hc with rfl | hc
    · rw [hfree] at e; cases e
    · rw [hfree] at hc; cases hc
  rcases hx with hk | hk
  · refine wpAny_storeName_local hk hn (fun h' hn' hs => ?_) hcls
    obtain ⟨oL, _, _, hoL, _⟩ := id hn
    refine h _ ⟨I.ok, I.os, I.bare, ⟨fun b o e n hb hx => ?_, fun b o e n hb hx => ?_, I.base.free, fun b o e hx => ?_, I.base.tups, I.base.frzs, I.base.tbls⟩, ⟨_, hn', fun j y v' e1 e2 e3 => ?_⟩, fun y c e => ?_, I.free, I.freeC, fun p hp => ?_, tracked ⟨oL, hoL, I.free⟩ hs, by simpa using I.len⟩ ⟨_, hs, .inl rfl⟩
    · exact (hs.2 b (Nat.ne_of_lt (Nat.lt_of_lt_of_le (Heap.lt_size e) I.ok.above))).trans (I.base.keep b o e n hb hx)
    · obtain ⟨sl, e1⟩ := I.base.slot b o e n hb hx
      exact ⟨sl, (hs.2 b (Nat.ne_of_lt (Nat.lt_of_lt_of_le (Heap.lt_size e) I.ok.above))).trans e1⟩
    · obtain ⟨o', e1⟩ := I.base.there b o e hx
      exact ⟨o', (hs.2 b (Nat.ne_of_lt (Nat.lt_of_lt_of_le (Heap.lt_size e) I.ok.above))).trans e1⟩
    · by_cases hj : j = i
      · subst hj
        rw [hi] at e1; cases e1
        rw [List.getElem?_set_self hiσ] at e2
        cases e2
        exact ⟨u, r, .inl ⟨hk, by simp⟩⟩
      · rw [List.getElem?_set_ne (Ne.symm hj)] at e2
        obtain ⟨u', r', q⟩ := hl j y v' e1 e2 e3
        refine ⟨u', r', ?_⟩
        rcases q with ⟨k, e⟩ | ⟨k, c, e, z⟩
        · refine .inl ⟨k, ?_⟩
          have : y ≠ x := fun e => hj (nodup_ix hN e1 (e ▸ hi))
          simp [this, e]
        · exact .inr ⟨k, c, e, z.sameBut hs (cne y c e)⟩
    · obtain ⟨w', z⟩ := I.cell y c e
      exact ⟨w', z.sameBut hs (cne y c e)⟩
    · obtain ⟨e, n, ne, nf, d⟩ := I.pin p hp
      exact ⟨(hs.2 p.1 ne).trans e, n, ne, nf, d⟩
  · have hfn : X.fn x = true := by
      rcases hf with z | z
      · exact z
      · rw [z] at hk; cases hk
    obtain ⟨c, hc⟩ := I.ok.has x (.inl hk)
    obtain ⟨w', z⟩ := I.cell x c hc
    refine wpAny_storeName_cell I.ok.kind hk hc z (fun h' hc' hs => ?_)
    obtain ⟨oc, hoc, hocd⟩ := id z
    refine h { s with heap := h' } ⟨I.ok, I.os, I.bare, ⟨fun b o e n hb hx => ?_, fun b o e n hb hx => ?_, I.base.free, fun b o e hx => ?_, I.base.tups, I.base.frzs, I.base.tbls⟩, ⟨m, hn.sameBut hs (Ne.symm (cne x c hc)), fun j y v' e1 e2 e3 => ?_⟩, fun y c' e => ?_, I.free, I.freeC, fun p hp => ?_, tracked ⟨oc, hoc, I.freeC x c hc⟩ hs, by simpa using I.len⟩ ⟨c, hs, .inr hc⟩
    · exact (hs.2 b (Nat.ne_of_lt (Nat.lt_of_lt_of_le (Heap.lt_size e) (I.ok.cab x c hfn hc)))).trans (I.base.keep b o e n hb hx)
    · obtain ⟨sl, e1⟩ := I.base.slot b o e n hb hx
      exact ⟨sl, (hs.2 b (Nat.ne_of_lt (Nat.lt_of_lt_of_le (Heap.lt_size e) (I.ok.cab x c hfn hc)))).trans e1⟩
    · obtain ⟨o', e1⟩ := I.base.there b o e hx
      exact ⟨o', (hs.2 b (Nat.ne_of_lt (Nat.lt_of_lt_of_le (Heap.lt_size e) (I.ok.cab x c hfn hc)))).trans e1⟩
    · by_cases hj : j = i
      · subst hj
        rw [hi] at e1; cases e1
        rw [List.getElem?_set_self hiσ] at e2
        cases e2
        exact ⟨u, r, .inr ⟨.inl hk, c, hc, hc'⟩⟩
      · rw [List.getElem?_set_ne (Ne.symm hj)] at e2
        obtain ⟨u', r', q⟩ := hl j y v' e1 e2 e3
        refine ⟨u', r', ?_⟩
        rcases q with q | ⟨k, c', e, z'⟩
        · exact .inl q
        · refine .inr ⟨k, c', e, z'.sameBut hs ?_⟩
          rintro rfl
          exact hj (nodup_ix hN e1 (I.ok.inj _ _ _ e hc ▸ hi))
    · by_cases hcc : c' = c
      · subst hcc; exact ⟨_, hc'⟩
      · obtain ⟨w2, z2⟩ := I.cell y c' e
        exact ⟨w2, z2.sameBut hs hcc⟩
    · obtain ⟨e, n, ne, nf, d⟩ := I.pin p hp
      refine ⟨(hs.2 p.1 ?_).trans e, n, ne, nf, d⟩
      intro q
      rw [q, hoc] at e
      have q' : oc = p.2 := Option.some.inj e
      exact d w' (by rw [← q']; exact hocd)
theorem store_ok {M : Model} {A : Around} {E : Value → Shared → Prop} {i : Nat} {x : Str} {v : V} {u : Value} {Q : Unit → Shared → Prop} (I : Inv X pins σ H s) (hN : X.N.Nodup) (hi : X.N[i]? = some x) (hx : Loc X.env.scope x) (r : RelV v u)
    (h : ∀ s', Inv X pins (σ.set i (some v)) H s' → Q () s') (hf : X.fn x = true ∨ X.env.scope.names.lookup x = some .local := by first | exact .inl rfl | exact .inr rfl | assumption) : wpAny M A (storeName X.env x u) Q E s :=
  store_ok2 I hN hi hx r (fun s' I' _ => h s' I') hf
theorem Inv.call' {s' : Shared} {ch : List Addr} (I : Inv X pins σ H s) (ho : s'.os = s.os) (u : Un (frs X.stack) ch H H' s.heap s'.heap) (hok : HOk X.prog X.w H' s'.heap) (hg : AllBare s'.gens)
    (hch : ∀ b ∈ ch, (b ∈ X.ex ∨ X.s₀.heap.objs.size ≤ b) ∧ b ≠ X.env.locals ∧ (∀ x c, X.env.cells.lookup x = some c → c ≠ b) ∧ ∀ p ∈ X.pn ++ pins, p.1 ≠ b) : Inv X pins σ H' s' := by
  obtain ⟨h', g', d', t', o'⟩ := s'
  have e : o' = s.os := ho
  subst e
  exact I.call (g' := g') (t' := t') (d' := d') u hok hg hch
end
abbrev XK := Value → Option Addr → Hp → Prop
abbrev St := List (Option V)
abbrev VK := V → Hp → Prop
abbrev TE := St → Hp → VK → Prop
abbrev TT := St → Hp → (Bool → Hp → Prop) → Prop
abbrev TA := St → Hp → (List V → Hp → Prop) → Prop
structure Ends where
  nx : St → Hp → Prop
  rt : VK
  bk : St → Hp → Prop := fun _ _ => False
  ct : St → Hp → Prop := fun _ _ => False
abbrev TS := Ends → St → Hp → Prop
def EP (X : Cx) (pins : List (Addr × Obj)) (σ : St) (Q : VK) (u : Value) (s' : Shared) : Prop := ∃ v H', Inv X pins σ H' s' ∧ RelV v u ∧ Q v H'
def TP (X : Cx) (pins : List (Addr × Obj)) (σ : St) (Q : Bool → Hp → Prop) (b : Bool) (s' : Shared) : Prop := ∃ H', Inv X pins σ H' s' ∧ Q b H'
def AP (X : Cx) (pins : List (Addr × Obj)) (σ : St) (Q : List V → Hp → Prop) (us : List Value) (s' : Shared) : Prop := ∃ vs H', Inv X pins σ H' s' ∧ Vals vs us ∧ Q vs H'
def SP (X : Cx) (pins : List (Addr × Obj)) (D : Ends) (f : Flow) (s' : Shared) : Prop :=
  match f with
  | .next => ∃ σ' H', Inv X pins σ' H' s' ∧ D.nx σ' H'
  | .brk => ∃ σ' H', Inv X pins σ' H' s' ∧ D.bk σ' H'
  | .cont => ∃ σ' H', Inv X pins σ' H' s' ∧ D.ct σ' H'
  | .ret u => ∃ v σ' H', Inv X pins σ' H' s' ∧ RelV v u ∧ D.rt v H'
def PE (X : Cx) (e : Expr) (t : TE) : Prop :=
  ∀ (pins : List (Addr × Obj)) (s : Shared) (σ : St) (H : Hp) (Q : VK), Inv X pins σ H s → t σ H Q → wpAny (model X.prog X.w) X.A (eval e X.env) (EP X pins σ Q) X.xe s
def PT (X : Cx) (e : Expr) (t : TT) : Prop :=
  ∀ (pins : List (Addr × Obj)) (s : Shared) (σ : St) (H : Hp) (Q : Bool → Hp → Prop), Inv X pins σ H s → t σ H Q → wpAny (model X.prog X.w) X.A (isTrue e X.env (eval e X.env)) (TP X pins σ Q) X.xe s
def PW (X : Cx) (e : Expr) (t : TT) : Prop :=
  ∀ (whole : Sem Value) (pins : List (Addr × Obj)) (s : Shared) (σ : St) (H : Hp) (Q : Bool → Hp → Prop), Inv X pins σ H s → t σ H Q → wpAny (model X.prog X.w) X.A (isTrue e X.env whole) (TP X pins σ Q) X.xe s
theorem PW.pt {X : Cx} {e : Expr} {t : TT} (h : PW X e t) : PT X e t := h _
def PA (X : Cx) (es : List Expr) (t : TA) : Prop :=
  ∀ (pos : Pos) (pins : List (Addr × Obj)) (s : Shared) (σ : St) (H : Hp) (Q : List V → Hp → Prop), Inv X pins σ H s → t σ H Q → wpAny (model X.prog X.w) X.A (spliced (backTo pos (starEach es X.env))) (AP X pins σ Q) X.xe s
def PS (X : Cx) (st : Stmt) (t : TS) : Prop :=
  ∀ (pins : List (Addr × Obj)) (s : Shared) (σ : St) (H : Hp) (D : Ends), Inv X pins σ H s → t D σ H → wpAny (model X.prog X.w) X.A (exec st X.env) (SP X pins D) X.xe s
def PSs (X : Cx) (st : List Stmt) (t : TS) : Prop :=
  ∀ (pins : List (Addr × Obj)) (s : Shared) (σ : St) (H : Hp) (D : Ends), Inv X pins σ H s → t D σ H → wpAny (model X.prog X.w) X.A (execs st X.env) (SP X pins D) X.xe s
theorem thn {α : Type} {t : Sem α} {Q Q' : α → Shared → Prop} {M : Model} {A : Around} {E : Value → Shared → Prop} {s : Shared} (h : wpAny M A t Q E s) (hQ : ∀ a s, Q a s → Q' a s) : wpAny M A t Q' E s := wpAny_mono h hQ fun _ _ x => x
end L2
namespace L2
open PySem PySem.Spec PyProof.Rows
section
variable {X : Cx}
def tVar (i : Nat) : TE := fun σ H Q => ∃ v, σ[i]? = some (some v) ∧ Q v H
def tC (v : V) : TE := fun _ H Q => Q v H
theorem pe_var {i : Nat} {x : Str} {pos : Pos} (hN : X.N[i]? = some x) (hv : Vis X.env.scope x) (hd : (x == ("__debug__" : Str)) = false := by decide) (hcd : (x == ("__classdict__" : Str)) = false := by decide) : PE X (.Name x pos) (tVar i) := by
  intro pins s σ H Q I h
  obtain ⟨v, e, h⟩ := h
  obtain ⟨m, hn, hl⟩ := I.loc
  obtain ⟨u, r, l⟩ := hl i x v hN e hv
  have fin : EP X pins σ Q u s := ⟨v, H, I, r, h⟩
  rcases l with ⟨hk, hm⟩ | ⟨hk, c, hc, hcell⟩
  · exact wpAny_Name (wpAny_loadName_local I.ok.kind hk hn hm fin) hd
  · rcases hk with hk | hk
    · exact wpAny_Name (wpAny_loadName_cell I.ok.kind hk hc hcell fin) hd
    · exact wpAny_Name (wpAny_loadName_free I.ok.kind hk hc hcell fin hcd) hd
theorem pe_int {i j pos} : PE X (.Constant (.int i) j pos) (tC (.int i)) := fun _ _ _ H _ I h => wpAny_Constant_int ⟨.int i, H, I.tok _, ⟨_, rfl⟩, h⟩
theorem pe_bl {b j pos} : PE X (.Constant (.bool b) j pos) (tC (.bl b)) := fun _ _ _ H _ I h => Constant_bool ⟨.bl b, H, I, rfl, h⟩
theorem pe_str {x j pos} : PE X (.Constant (.str x) j pos) (tC (.str x)) := fun _ _ _ H _ I h => Calls.Constant_str ⟨.str x, H, I.tok _, ⟨_, rfl⟩, h⟩
def Gl (X : Cx) (x : Str) : Prop := X.env.kindOf x = some .globalImplicit
theorem ld_glob {E : Value → Shared → Prop} {pins : List (Addr × Obj)} {s : Shared} {σ : St} {H : Hp} {x : Str} {u : Value} {pos : Pos} {Q : Value → Shared → Prop} (I : Inv X pins σ H s) (hg : Gl X x) (hm : X.mg x = some u) (h : Q u s)
    (hd : (x == ("__debug__" : Str)) = false := by decide) : wpAny (model X.prog X.w) X.A (eval (.Name x pos) X.env) Q E s :=
  Calls.Name_function_global I.ok.kind hg (Calls.loadGlobal_global (by rw [I.ok.glob]; exact I.mod.glob.keeps I.bk) hm h) hd
theorem ld_blt {E : Value → Shared → Prop} {pins : List (Addr × Obj)} {s : Shared} {σ : St} {H : Hp} {x : Str} {u : Value} {pos : Pos} {Q : Value → Shared → Prop} (I : Inv X pins σ H s) (hg : Gl X x) (hm : X.mg x = none) (hv : bootBuiltins x = some u) (h : Q u s)
    (hn : x ≠ "__name__" := by decide) (hd : (x == ("__debug__" : Str)) = false := by decide) : wpAny (model X.prog X.w) X.A (eval (.Name x pos) X.env) Q E s := by
  obtain ⟨mb, h1, h2⟩ := I.mod.blt
  exact Calls.Name_function_global I.ok.kind hg (Calls.loadGlobal_builtin (by rw [I.ok.glob]; exact I.mod.glob.keeps I.bk) hm (by rw [I.ok.blt]; exact h1.keeps I.bk) ((h2 x hn).trans hv) h) hd
theorem pe_glob {x : Str} {v : V} {u : Value} {pos : Pos} (hg : Gl X x) (hm : X.mg x = some u) (r : RelV v u) (hd : (x == ("__debug__" : Str)) = false := by decide) : PE X (.Name x pos) (tC v) :=
  fun _ _ _ H _ I h => ld_glob I hg hm ⟨v, H, I, r, h⟩ hd
theorem pe_bltn {x : Str} {v : V} {u : Value} {pos : Pos} (hg : Gl X x) (hm : X.mg x = none) (hv : bootBuiltins x = some u) (r : RelV v u) (hn : x ≠ "__name__" := by decide) (hd : (x == ("__debug__" : Str)) = false := by decide) : PE X (.Name x pos) (tC v) :=
  fun _ _ _ H _ I h => ld_blt I hg hm hv ⟨v, H, I, r, h⟩ hn hd
variable {a b : Expr} {ta tb : TE} {pos : Pos}
def tB (t : TE) : TT := fun σ H Q => t σ H fun x H1 => ∃ c, x = .bl c ∧ Q c H1
theorem pt_val {e : Expr} {t : TE} (h : PE X e t) (he : ∀ whole, isTrue e X.env whole = (do let v ← whole; standAt e.pos; holding [v] (truthy v)) := by intro _; rfl) : PT X e (tB t) := by
  intro pins s σ H Q I hw
  refine isTrue_plain (thn (h pins s σ H _ I hw) fun v s1 ⟨x, H1, I1, r1, q1⟩ => ?_) (he _)
  obtain ⟨d, rfl, q⟩ := q1
  cases r1
  exact wpAny_truthy_bool ⟨H1, I1, q⟩
variable {tA tB' : TT} {rest : List Expr}
def tAnd (t u : TT) : TT := fun σ H Q => t σ H fun c H1 => if c = true then u σ H1 Q else Q false H1
def tOr (t u : TT) : TT := fun σ H Q => t σ H fun c H1 => if c = true then Q true H1 else u σ H1 Q
def tNot (t : TT) : TT := fun σ H Q => t σ H fun c H1 => Q (!c) H1
theorem pw_and1 (ha : PT X a tA) : PW X (.BoolOp .And [a] pos) tA := by
  intro wh pins s σ H Q I h
  refine isTrue_and (thn (ha pins s σ H Q I h) fun c s1 e => ?_)
  cases c with
  | true => exact isTrue_and_nil e
  | false => exact e
theorem pw_or1 (ha : PT X a tA) : PW X (.BoolOp .Or [a] pos) tA := by
  intro wh pins s σ H Q I h
  refine isTrue_or (thn (ha pins s σ H Q I h) fun c s1 e => ?_)
  cases c with
  | false => exact isTrue_or_nil e
  | true => exact e
theorem pw_and (ha : PT X a tA) (hb : PW X (.BoolOp .And (b :: rest) pos) tB') : PW X (.BoolOp .And (a :: b :: rest) pos) (tAnd tA tB') := by
  intro wh pins s σ H Q I h
  refine isTrue_and (thn (ha pins s σ H _ I h) fun c s1 ⟨H1, I1, q1⟩ => ?_)
  cases c with
  | true => exact hb wh pins s1 σ H1 Q I1 q1
  | false => exact ⟨H1, I1, q1⟩
theorem pw_or (ha : PT X a tA) (hb : PW X (.BoolOp .Or (b :: rest) pos) tB') : PW X (.BoolOp .Or (a :: b :: rest) pos) (tOr tA tB') := by
  intro wh pins s σ H Q I h
  refine isTrue_or (thn (ha pins s σ H _ I h) fun c s1 ⟨H1, I1, q1⟩ => ?_)
  cases c with
  | true => exact ⟨H1, I1, q1⟩
  | false => exact hb wh pins s1 σ H1 Q I1 q1
theorem pt_not (ha : PT X a tA) : PT X (.UnaryOp .Not a pos) (tNot tA) := by
  intro pins s σ H Q I h
  exact isTrue_not (ha pins s σ H (fun c H1 => Q (!c) H1) I h)
end
end L2
namespace L2
open PySem PySem.Spec PyProof.Rows
def SqL (K : PySem.W.Frag) (H : Hp) (a : Addr) (xs : List V) : Prop :=
  Rd H a (.lst xs) ∨
    ∃ (o : Obj) (its : Array Value) (n : Nat), K.lookup a = some o ∧ o.cls = .type "list" ∧ o.dict = none ∧ o.data = .seq its n ∧ its.size ≤ sizeLine ∧ Vals xs its.toList
def SqT (K : PySem.W.Frag) (H : Hp) (a : Addr) (xs : List V) : Prop :=
  Rd H a (.tup xs) ∨
    ∃ (o : Obj) (its : Array Value) (n : Nat), K.lookup a = some o ∧ o.cls = .type "tuple" ∧ o.data = .seq its n ∧ its.size ≤ sizeLine ∧ Vals xs its.toList
def absV : Value → Option V
  | .none => some .non
  | .bool b => some (.bl b)
  | .int i _ => some (.int i)
  | .str x _ => some (.str x)
  | .bytes b _ => some (.byt b)
  | .float b _ => some (.flt b)
  | .ref a => some (.ref a)
  | .type n => some (.ty n)
  | _ => none
theorem RelV.abs {x : V} {u : Value} (r : RelV x u) : absV u = some x := by
  cases x with
  | non => cases r; rfl
  | bl _ => cases r; rfl
  | int _ => obtain ⟨t, rfl⟩ := r; rfl
  | str _ => obtain ⟨t, rfl⟩ := r; rfl
  | byt _ => obtain ⟨t, rfl⟩ := r; rfl
  | flt _ => obtain ⟨t, rfl⟩ := r; rfl
  | ref _ => cases r; rfl
  | ty _ => cases r; rfl
theorem RelV.inj {x y : V} {u : Value} (r : RelV x u) (q : RelV y u) : x = y := Option.some.inj (r.abs.symm.trans q.abs)
theorem Vals.inj : ∀ {xs ys : List V} {us : List Value}, Vals xs us → Vals ys us → xs = ys
  | _, _, _, .nil, .nil => rfl
  | _, _, _, .cons r t, .cons r' t' => by rw [r.inj r', Vals.inj t t']
section
variable {X : Cx} {pins : List (Addr × Obj)} {σ : St} {H : Hp} {s : Shared} {a : Addr} {xs ys : List V}
theorem SqL.of {K : PySem.W.Frag} (h : H a = some (.lst xs)) : SqL K H a xs := .inl (.inl h)
theorem SqT.of {K : PySem.W.Frag} (h : H a = some (.tup xs)) : SqT K H a xs := .inl (.inl h)
theorem Inv.list (I : Inv X pins σ H s) (h : SqL X.K H a xs) : ∃ its : List Value, Vals xs its ∧ PlainL s.heap a its.toArray ∧ xs.length ≤ sizeLine := by
  rcases h with h | ⟨o, its, n, hk, hc, hd, hs, hz, r⟩
  · obtain ⟨z, its, n, r, e⟩ := h.ok I.hok
    exact ⟨its, r, ⟨_, n, e, rfl, rfl, rfl⟩, z⟩
  · refine ⟨its.toList, r, ⟨o, n, I.kIn a o hk, hc, hd, by simpa using hs⟩, ?_⟩
    have e := r.length
    simp only [Array.length_toList] at e
    omega
theorem Inv.tuple (I : Inv X pins σ H s) (h : SqT X.K H a xs) : ∃ its : List Value, Vals xs its ∧ IsTup s.heap a its.toArray ∧ xs.length ≤ sizeLine := by
  rcases h with h | ⟨o, its, n, hk, hc, hs, hz, r⟩
  · obtain ⟨z, its, r, p⟩ := h.ok I.hok
    exact ⟨its, r, p, z⟩
  · refine ⟨its.toList, r, ⟨o, I.kIn a o hk, hc, n, by simpa using hs⟩, ?_⟩
    have e := r.length
    simp only [Array.length_toList] at e
    omega
theorem Inv.list_inj (I : Inv X pins σ H s) (h : SqL X.K H a xs) (h' : SqL X.K H a ys) : xs = ys := by
  obtain ⟨its, r, ⟨o, n, e, _, _, d⟩, _⟩ := I.list h
  obtain ⟨its', r', ⟨o', n', e', _, _, d'⟩, _⟩ := I.list h'
  rw [e] at e'; cases e'
  rw [d] at d'
  injection d' with d1 _
  have : its = its' := by simpa using congrArg Array.toList d1
  subst this
  exact r.inj r'
theorem Inv.tuple_inj (I : Inv X pins σ H s) (h : SqT X.K H a xs) (h' : SqT X.K H a ys) : xs = ys := by
  obtain ⟨its, r, ⟨o, e, _, n, d⟩, _⟩ := I.tuple h
  obtain ⟨its', r', ⟨o', e', _, n', d'⟩, _⟩ := I.tuple h'
  rw [e] at e'; cases e'
  rw [d] at d'
  injection d' with d1 _
  have : its = its' := by simpa using congrArg Array.toList d1
  subst this
  exact r.inj r'
end
abbrev Cx.wish (X : Cx) (E : Value → Shared → Prop) : Cx := { X with xe := E }
abbrev Cx.nox (X : Cx) : Cx := X.wish fun _ _ => False
theorem Cx.Ok.wish {X : Cx} (ok : X.Ok) (E : Value → Shared → Prop) : (X.wish E).Ok :=
  ⟨ok.mod, ok.kind, ok.glob, ok.blt, ok.above, ok.inj, ok.has, ok.cab, ok.hd, ok.frames, ok.stk, ok.exf, ok.bs, ok.bsz, ok.noex, ok.exfs, ok.funs, ok.frf⟩
theorem Cx.Ok.unwish {X : Cx} {E : Value → Shared → Prop} (ok : (X.wish E).Ok) : X.Ok :=
  ⟨ok.mod, ok.kind, ok.glob, ok.blt, ok.above, ok.inj, ok.has, ok.cab, ok.hd, ok.frames, ok.stk, ok.exf, ok.bs, ok.bsz, ok.noex, ok.exfs, ok.funs, ok.frf⟩
section
variable {X : Cx} {pins : List (Addr × Obj)} {σ : St} {H : Hp} {s : Shared} {E : Value → Shared → Prop}
theorem Inv.wish (I : Inv X pins σ H s) (E : Value → Shared → Prop) : Inv (X.wish E) pins σ H s := ⟨I.ok.wish E, I.os, I.bare, I.base, I.loc, I.cell, I.free, I.freeC, I.pin, I.hok, I.len⟩
theorem Inv.unwish (I : Inv (X.wish E) pins σ H s) : Inv X pins σ H s := ⟨I.ok.unwish, I.os, I.bare, I.base, I.loc, I.cell, I.free, I.freeC, I.pin, I.hok, I.len⟩
theorem SP.unwish {D : Ends} {f : Flow} {s' : Shared} (h : SP (X.wish E) pins D f s') : SP X pins D f s' := by
  cases f with
  | next => obtain ⟨σ', H', I, q⟩ := h; exact ⟨σ', H', I.unwish, q⟩
  | brk => obtain ⟨σ', H', I, q⟩ := h; exact ⟨σ', H', I.unwish, q⟩
  | cont => obtain ⟨σ', H', I, q⟩ := h; exact ⟨σ', H', I.unwish, q⟩
  | ret u => obtain ⟨v, σ', H', I, r, q⟩ := h; exact ⟨v, σ', H', I.unwish, r, q⟩
theorem PE.nox {e : Expr} {t : TE} (h : PE X.nox e t) : PE X e t := fun pins s σ H Q I hw =>
  wpAny_mono (h pins s σ H Q (I.wish _) hw) (fun _ _ ⟨v, H', I', r, q⟩ => ⟨v, H', I'.unwish, r, q⟩) fun _ _ z => False.elim z
theorem PT.nox {e : Expr} {t : TT} (h : PT X.nox e t) : PT X e t := fun pins s σ H Q I hw =>
  wpAny_mono (h pins s σ H Q (I.wish _) hw) (fun _ _ ⟨H', I', q⟩ => ⟨H', I'.unwish, q⟩) fun _ _ z => False.elim z
theorem PSs.nox {st : List Stmt} {t : TS} (h : PSs X.nox st t) : PSs X st t := fun pins s σ H D I hw =>
  wpAny_mono (h pins s σ H D (I.wish _) hw) (fun _ _ q => q.unwish) fun _ _ z => False.elim z
end
section
variable {X : Cx} {st : Stmt} {rest : List Stmt} {t u : TS} {e : Expr} {te : TE} {pos : Pos}
def tNext : TS := fun D σ H => D.nx σ H
def tSeq (t u : TS) : TS := fun D σ H => t { D with nx := u D } σ H
theorem pss_nil : PSs X [] tNext := fun _ _ σ H _ I h => wpAny_execs_nil ⟨σ, H, I, h⟩
theorem pss_cons (h1 : PS X st t) (h2 : PSs X rest u) : PSs X (st :: rest) (tSeq t u) := by
  intro pins s σ H D I h
  refine wpAny_execs_cons (thn (h1 pins s σ H { D with nx := u D } I h) fun f s1 q => ?_)
  cases f with
  | next =>
    obtain ⟨σ', H', I', q⟩ := q
    exact h2 pins s1 σ' H' D I' q
  | ret v => exact q
  | brk => exact q
  | cont => exact q
theorem pss_one (h1 : PS X st t) : PSs X [st] t := by
  intro pins s σ H D I h
  refine wpAny_execs_cons (thn (h1 pins s σ H D I h) fun f s1 q => ?_)
  cases f with
  | next => exact wpAny_execs_nil q
  | ret v => exact q
  | brk => exact q
  | cont => exact q
theorem Inv.quiet {pins : List (Addr × Obj)} {σ : St} {H : Hp} {s : Shared} (I : Inv X pins σ H s) : interactive X.env = false := by simp [interactive, I.ok.kind]
def tDrop (te : TE) : TS := fun D σ H => te σ H fun _ H1 => D.nx σ H1
theorem ps_expr (he : PE X e te) (hs : swapsWith e none pos.line X.env = pure false := by rfl) : PS X (.Expr e pos) (tDrop te) := by
  intro pins s σ H D I h
  exact wpAny_Expr_any (thn (he pins s σ H _ I h) fun v s1 ⟨x, H1, I1, r1, q1⟩ => ⟨σ, H1, I1, q1⟩) I.quiet hs
def tRet (te : TE) : TS := fun D σ H => te σ H D.rt
theorem ps_ret (he : PE X e te) : PS X (.Return (some e) pos) (tRet te) := by
  intro pins s σ H D I h
  exact wpAny_Return_some (thn (he pins s σ H _ I h) fun v s1 ⟨x, H1, I1, r1, q1⟩ => ⟨x, σ, H1, I1, r1, q1⟩)
def tIfS (c : TT) (t u : TS) : TS := fun D σ H => c σ H fun b H1 => if b = true then t D σ H1 else u D σ H1
theorem ps_if {c : Expr} {a b : List Stmt} {tc : TT} (hc : PT X c tc) (ha : PSs X a t) (hb : PSs X b u) : PS X (.If c a b pos) (tIfS tc t u) := by
  intro pins s σ H D I h
  refine wpAny_If (thn (hc pins s σ H _ I h) fun d s1 ⟨H1, I1, q1⟩ => ?_)
  cases d with
  | true => exact ha pins s1 σ H1 D I1 q1
  | false => exact hb pins s1 σ H1 D I1 q1
end
abbrev TG := V → St → Hp → (St → Hp → Prop) → Prop
def PG (X : Cx) (target : Expr) (t : TG) : Prop :=
  ∀ (pins : List (Addr × Obj)) (s : Shared) (σ : St) (H : Hp) (v : V) (u : Value) (Q : St → Hp → Prop), Inv X pins σ H s → RelV v u → t v σ H Q →
    wpAny (model X.prog X.w) X.A (assign target X.env u) (fun _ s' => ∃ σ' H', Inv X pins σ' H' s' ∧ Q σ' H') X.xe s
section
variable {X : Cx} {pos : Pos}
def gName (i : Nat) : TG := fun v σ H Q => Q (σ.set i (some v)) H
theorem pg_name {i : Nat} {x : Str} (hN : X.N.Nodup) (hi : X.N[i]? = some x) (hx : Loc X.env.scope x) (hf : X.fn x = true ∨ X.env.scope.names.lookup x = some .local := by first | exact .inl rfl | exact .inr rfl | assumption) : PG X (.Name x pos) (gName i) := by
  intro pins s σ H v u Q I r h
  exact wpAny_assign_Name (store_ok I hN hi hx r (fun s' I' => ⟨_, H, I', h⟩) hf)
def tAsg (te : TE) (g : TG) : TS := fun D σ H => te σ H fun x H1 => g x σ H1 D.nx
theorem ps_set {i : Nat} {x : Str} {e : Expr} {te : TE} {pos' : Pos} (hN : X.N.Nodup) (hi : X.N[i]? = some x) (hx : Loc X.env.scope x) (he : PE X e te) (hs : swapsWith e (some (.Name x pos')) pos.line X.env = pure false := by rfl) (hf : X.fn x = true ∨ X.env.scope.names.lookup x = some .local := by first | exact .inl rfl | exact .inr rfl | assumption) :
    PS X (.Assign [.Name x pos'] e pos) (tAsg te (gName i)) := by
  intro pins s σ H D I h
  refine wpAny_Assign_Name (thn (he pins s σ H _ I h) fun v s1 ⟨y, H1, I1, r1, q1⟩ => ?_) hs
  exact store_ok I1 hN hi hx r1 (fun s2 I2 => ⟨_, H1, I2, q1⟩) hf
end
section
variable {X : Cx} {pos : Pos}
end
structure It where
  go : Nat → Hp → Prop
  yld : Nat → Hp → V → Hp → Prop
  stop : Nat → Hp → Prop
def FpOk (X : Cx) (pins : List (Addr × Obj)) (H : Hp) (b : Addr) : Prop :=
  H b = none ∧ b ≠ X.env.locals ∧ b ∉ X.fs ∧ (b ∈ X.ex ∨ X.s₀.heap.objs.size ≤ b) ∧ (∀ x c, X.env.cells.lookup x = some c → c ≠ b) ∧ ∀ p ∈ X.pn ++ pins, p.1 ≠ b
theorem Inv.fpOk {X : Cx} {pins : List (Addr × Obj)} {σ : St} {H H' : Hp} {s : Shared} {b : Addr} (I : Inv X pins σ H s) (hb : s.heap.objs.size ≤ b) (hn : H' b = none) : FpOk X pins H' b := by
  refine ⟨hn, Nat.ne_of_gt (Nat.lt_of_lt_of_le I.lt hb), I.nofs hb, .inr (Nat.le_trans I.sz hb), fun x c e z => ?_, fun p hp z => ?_⟩
  · obtain ⟨v, q⟩ := I.cell x c e
    exact absurd (Nat.lt_of_lt_of_le q.lt (by rw [z]; exact hb)) (Nat.lt_irrefl _)
  · exact absurd (Nat.lt_of_lt_of_le (Heap.lt_size (I.pin p hp).1) (by rw [z]; exact hb)) (Nat.lt_irrefl _)
structure Turn (P : Program) (w : World) (K : PySem.W.Frag) (tg : Expr) (J : It) (fp : List Addr) (it : Addr) (tn : Nat → Heap → Prop) : Prop where
  mem : it ∈ fp
  obj : ∀ i h, tn i h → ∀ b ∈ fp, ∃ o, h.get? b = some o ∧ ∀ v, o.data ≠ .cell v
  keep : ∀ i h h', tn i h → (∀ b ∈ fp, ∀ o, h.get? b = some o → h'.get? b = some o) → tn i h'
  item : ∀ (X : Cx), X.prog = P → X.w = w → X.K = K → X.calm = true → ∀ (i : Nat) (pins : List (Addr × Obj)) (s : Shared) (σ : St) (H : Hp) (E : Value → Shared → Prop), Inv X pins σ H s → (∀ b ∈ fp, FpOk X pins H b) → tn i s.heap → J.go i H →
    wpAny (model P w) X.A (pyNext (.ref it)) (fun r s1 => ∃ u, r = some u ∧
      wpAny (model P w) X.A (letOwnedTupleGo tg (.ref it) u) (fun _ s2 => ∃ x H', Inv X pins σ H' s2 ∧ RelV x u ∧ J.yld i H x H' ∧ tn (i + 1) s2.heap ∧ ∀ b ∈ fp, H' b = none) E s1) E s
  done : ∀ (X : Cx), X.prog = P → X.w = w → X.K = K → X.calm = true → ∀ (i : Nat) (pins : List (Addr × Obj)) (s : Shared) (σ : St) (H : Hp) (E : Value → Shared → Prop), Inv X pins σ H s → (∀ b ∈ fp, FpOk X pins H b) → tn i s.heap → J.stop i H →
    wpAny (model P w) X.A (pyNext (.ref it)) (fun r s1 => r = none ∧ Inv X pins σ H s1) E s
  self : ∀ (A : Around) (i : Nat) (s : Shared) (Q : Value → Shared → Prop) (E : Value → Shared → Prop), tn i s.heap → Q (.ref it) s → wpAny (model P w) A (pyIter (.ref it)) Q E s
abbrev TI := St → Hp → (It → Hp → Prop) → Prop
def PIE (X : Cx) (pins : List (Addr × Obj)) (σ : St) (tg : Expr) (R : It → Hp → Prop) (itv : Value) (s2 : Shared) : Prop :=
  ∃ (it : Addr) (fp : List Addr) (tn : Nat → Heap → Prop) (J : It) (H' : Hp), itv = .ref it ∧ Inv X pins σ H' s2 ∧ Turn X.prog X.w X.K tg J fp it tn ∧ tn 0 s2.heap ∧ (∀ b ∈ fp, FpOk X pins H' b) ∧ R J H'
def PI (X : Cx) (tg iter : Expr) (wi : TI) : Prop :=
  ∀ (pins : List (Addr × Obj)) (s : Shared) (σ : St) (H : Hp) (R : It → Hp → Prop), Inv X pins σ H s → wi σ H R →
    wpAny (model X.prog X.w) X.A (eval iter X.env) (fun v s1 => wpAny (model X.prog X.w) X.A (pyIter v) (PIE X pins σ tg R) X.xe s1) X.xe s
theorem go_of {M : Model} {A : Around} {E : Value → Shared → Prop} {s : Shared} {tg : Expr} {it : Addr} {u : Value} {o : Obj} {n : String} {vs : Array Value} {Q : Unit → Shared → Prop} (ho : s.heap.get? it = some o) (hc : o.cls = .type n) (hd : o.data = .fields vs)
    (hn : ["enumerate", "zip", "dict_itemiterator", "dict_reverseitemiterator", "odict_iterator", "itertools.zip_longest", "itertools.pairwise"].contains n = false) (hQ : Q () s) : wpAny M A (letOwnedTupleGo tg (.ref it) u) Q E s := by
  unfold letOwnedTupleGo
  cases tg <;> first
    | exact wpAny_pure hQ
    | (cases u <;> first
        | exact wpAny_pure hQ
        | (refine wpAny_bind (wpAny_load ho ?_)
           rw [hc, hd]
           show wpAny M A (if (["enumerate", "zip", "dict_itemiterator", "dict_reverseitemiterator", "odict_iterator", "itertools.zip_longest", "itertools.pairwise"].contains n && vs[0]? == some (rawInt _)) = true then _ else _) Q E s
           rw [if_neg (by intro h; rw [hn, Bool.false_and] at h; cases h)]
           exact wpAny_pure hQ))
def Itr (lo : Int) (n : Nat) : It := ⟨fun i _ => i < n, fun i H x H' => H' = H ∧ x = .int (lo + i), fun i _ => n ≤ i⟩
theorem turn_range {P : Program} {w : World} {K : PySem.W.Frag} {tg : Expr} (it : Addr) (lo : Int) (n : Nat) : Turn P w K tg (Itr lo n) [it] it (fun i h => IsRangeIter h it (lo + (i : Nat) * 1) ((n : Int) - (i : Nat)) 1) where
  mem := by simp
  obj := fun i h st b hb => by
    have e : b = it := by simpa using hb
    subst e
    exact ⟨_, st, fun v z => by
      have z' : Data.fields _ = Data.cell v := z
      cases z'⟩
  keep := fun i h h' st k => k it (by simp) _ st
  item := by
    intro X hP hw hK hc i pins s σ H E I hf st hg
    subst hP hw hK
    obtain ⟨f0, f1, f2, f3, f4, f5⟩ := hf it (by simp)
    have W := Walks.range (prog := X.prog) (w := X.w) (I.ok.hd hc) it lo 1 n
    refine W.item i s _ _ hg st fun v h' tk hv st' kk => ?_
    obtain ⟨t, rfl⟩ := hv
    have I1 : Inv X pins σ H { s with heap := h', toks := tk } := I.turned (fun b o hb e => kk b o (by simpa using hb) e) f0 f1 f3 f4 f5
    refine ⟨_, rfl, go_of (s := { s with heap := h', toks := tk }) (n := "range_iterator") st' rfl rfl (by decide) ⟨.int (lo + i), H, I1, ⟨t, ?_⟩, ⟨rfl, rfl⟩, st', fun b hb => (hf b hb).1⟩⟩
    rw [Int.mul_one]
  done := by
    intro X hP hw hK hc i pins s σ H E I hf st hg
    subst hP hw hK
    obtain ⟨f0, f1, f2, f3, f4, f5⟩ := hf it (by simp)
    exact wpAny_pyNext_range_end (I.ok.hd hc) st (by have : n ≤ i := hg; omega) fun h' eb => ⟨rfl, I.turned (t' := s.toks) (fun b o hb e => eb b o hb e) f0 f1 f3 f4 f5⟩
  self := fun _ _ _ _ _ st h => wpAny_pyIter_rangeiter st h
end L2
namespace L2
open PySem PySem.Spec PyProof.Rows
section
variable {X : Cx} {tg : Expr}
theorem range_it {pins : List (Addr × Obj)} {σ : St} {H : Hp} {s : Shared} {R : It → Hp → Prop} {E : Value → Shared → Prop} {lo hi : Int} {t u v : Tok} {tk : Nat} (I : Inv X pins σ H s) (h1 : -(2 ^ 62) ≤ lo) (h2 : lo < 2 ^ 62) (h3 : -(2 ^ 62) ≤ hi) (h4 : hi < 2 ^ 62)
    (q : R (Itr lo (hi - lo).toNat) H) : wpAny (model X.prog X.w) X.A (pyIter (.ref s.heap.objs.size)) (PIE X pins σ tg R) E { s with heap := s.heap.push { cls := .type "range", data := .fields #[.int lo t, .int hi u, .int 1 v] }, toks := tk } := by
  refine wpAny_pyIter_range (IsRange.new ..) (small_one h1 h2 h3 h4) ?_
  have I1 : Inv X pins σ H { s with heap := s.heap.push { cls := .type "range", data := .fields #[.int lo t, .int hi u, .int 1 v] }, toks := tk } := I.kept fun b o e => Heap.get?_push_of_some _ e
  refine ⟨(s.heap.push { cls := .type "range", data := .fields #[.int lo t, .int hi u, .int 1 v] }).objs.size, [(s.heap.push { cls := .type "range", data := .fields #[.int lo t, .int hi u, .int 1 v] }).objs.size], _, _, H, rfl,
    I1.kept (t' := tk) fun b o e => Heap.get?_push_of_some _ e, turn_range _ lo (hi - lo).toNat, ?_, fun b hb => ?_, q⟩
  · have e1 : lo + ((0 : Nat) : Int) * 1 = lo := by simp
    have e2 : (((hi - lo).toNat : Nat) : Int) - ((0 : Nat) : Int) = Builtin.Range.rangeSize lo hi 1 := by rw [rangeSize_one]; split <;> omega
    show IsRangeIter _ _ (lo + ((0 : Nat) : Int) * 1) ((((hi - lo).toNat : Nat) : Int) - ((0 : Nat) : Int)) 1
    rw [e1, e2]
    exact Heap.get?_push_size _ rfl
  · have e : b = (s.heap.push { cls := .type "range", data := .fields #[.int lo t, .int hi u, .int 1 v] }).objs.size := by simpa using hb
    subst e
    exact I1.fpOk (Nat.le_refl _) (I1.hok.fresh (Nat.le_refl _))
def iRng1 (ta : TA) : TI := fun σ H R => ta σ H fun vs H1 => ∃ j : Int, vs = [.int j] ∧ -(2 ^ 62) ≤ j ∧ j < 2 ^ 62 ∧ R (Itr 0 j.toNat) H1
theorem pi_range1 {a : Expr} {ta : TA} {p pos : Pos} (hg : Gl X "range") (hm : X.mg "range" = none) (ha : PA X [a] ta) (hs : starEach [a] X.env = [(false, eval a X.env)] := by rfl) : PI X tg (.Call (.Name "range" p) [a] [] pos) (iRng1 ta) := by
  intro pins s σ H R I h
  refine Call_ (ld_blt I hg hm boot_range (PyProof.Rows.callWith_type1 (thn (ha pos pins s σ H _ I h) fun us s1 ⟨vs, H1, I1, r1, q1⟩ => ?_) hs rfl))
  obtain ⟨j, e, q1, q2, q⟩ := q1
  subst e
  cases r1 with
  | cons r rr =>
    cases rr
    obtain ⟨t, rfl⟩ := r
    exact call_range_1 (range_it I1 (by omega) (by omega) q1 q2 (by simpa using q))
def tFor (wi : TI) (g : TG) (tb : TS) : TS := fun D σ H => wi σ H fun J H1 => ∃ W : Nat → Nat → St → Hp → Prop, (∃ m, W 0 m σ H1) ∧ ∀ i m σ H, W i m σ H →
  (J.stop i H ∧ D.nx σ H) ∨ (J.go i H ∧ ∃ N : St → Hp → Prop, (∀ σ' H', N σ' H' → ∃ m', m' < m ∧ W (i + 1) m' σ' H') ∧ ∀ x H', J.yld i H x H' → g x σ H' fun σ2 H2 => tb { D with nx := N, ct := N, bk := D.nx } σ2 H2)
def pinsAt (fp : List Addr) (h : Heap) : List (Addr × Obj) := fp.filterMap fun b => (h.get? b).map fun o => (b, o)
theorem mem_pinsAt {fp : List Addr} {h : Heap} {b : Addr} {o : Obj} (hb : b ∈ fp) (e : h.get? b = some o) : (b, o) ∈ pinsAt fp h := List.mem_filterMap.mpr ⟨b, hb, by rw [e]; rfl⟩
theorem of_pinsAt {fp : List Addr} {h : Heap} {p : Addr × Obj} (hp : p ∈ pinsAt fp h) : p.1 ∈ fp ∧ h.get? p.1 = some p.2 := by
  obtain ⟨b, hb, e⟩ := List.mem_filterMap.mp hp
  cases q : h.get? b with
  | none => rw [q] at e; cases e
  | some o =>
    rw [q] at e
    have e' : (b, o) = p := Option.some.inj e
    subst e'
    exact ⟨hb, q⟩
theorem Inv.pinned {pins : List (Addr × Obj)} {σ : St} {H : Hp} {s : Shared} {fp : List Addr} (I : Inv X pins σ H s) (hf : ∀ b ∈ fp, FpOk X pins H b) (ho : ∀ b ∈ fp, ∃ o, s.heap.get? b = some o ∧ ∀ v, o.data ≠ .cell v) : Inv X (pins ++ pinsAt fp s.heap) σ H s :=
  I.pins_of fun p hp => (List.mem_append.mp hp).elim (fun z => I.pin p (List.mem_append_right _ z)) fun z => by
    obtain ⟨hb, e⟩ := of_pinsAt z
    obtain ⟨f0, f1, f2, _⟩ := hf p.1 hb
    obtain ⟨o, e', d⟩ := ho p.1 hb
    rw [e] at e'; cases e'
    exact ⟨e, f0, f1, f2, d⟩
theorem Inv.unpinned {pins pl : List (Addr × Obj)} {σ : St} {H : Hp} {s : Shared} (I : Inv X (pins ++ pl) σ H s) : Inv X pins σ H s := I.pins_of fun p hp => I.pin p (List.mem_append_right _ (List.mem_append_left _ hp))
theorem ps_for {iter : Expr} {body : List Stmt} {wi : TI} {g : TG} {tb : TS} {pos : Pos} (hp : PassesOwn (model X.prog X.w) X.A X.env X.xe) (hc : X.calm = true) (hi : PI X tg iter wi) (hg : PG X tg g) (hb : PSs X body tb)
    (hs : ∀ x, foldedSetIterable iter X.env x = pure x := by intro _; rfl) : PS X (.For tg iter body [] pos) (tFor wi g tb) := by
  intro pins s σ H D I h
  refine wpAny_For (thn (hi pins s σ H _ I h) fun v s1 h1 => thn h1 fun itv s2 h2 => ?_) hs
  obtain ⟨it, fp, tn, J, H2, e, I2, T, st2, f2, W, ⟨m0, w0⟩, turn⟩ := h2
  subst e
  have stat : ∀ {H' : Hp}, (∀ b ∈ fp, H' b = none) → ∀ b ∈ fp, FpOk X pins H' b := fun hn b hb => ⟨hn b hb, (f2 b hb).2⟩
  refine codeAny_forLoop_any (fun n s' => ∃ i σ' H', Inv X pins σ' H' s' ∧ tn i s'.heap ∧ (∀ b ∈ fp, H' b = none) ∧ W i n σ' H') ?_ m0 ⟨0, σ, H2, I2, st2, fun b hb => (f2 b hb).1, w0⟩
  rintro n s3 ⟨i, σ3, H3, I3, st3, fr3, w3⟩
  rcases turn i n σ3 H3 w3 with ⟨stop, qn⟩ | ⟨go, N, hN, step⟩
  · refine wpAny_passesOwn hp (thn (T.done X rfl rfl rfl hc i pins s3 σ3 H3 X.xe I3 (stat fr3) st3 stop) fun r s4 ⟨hr, I4⟩ => ?_)
    subst hr
    exact wpAny_execs_nil ⟨σ3, H3, I4, qn⟩
  · refine wpAny_passesOwn hp (thn (T.item X rfl rfl rfl hc i pins s3 σ3 H3 X.xe I3 (stat fr3) st3 go) fun r s4 ⟨u, hr, h4⟩ => ?_)
    subst hr
    refine wpAny_passesOwn hp (thn h4 fun _ s5 ⟨x, H5, I5, r5, y5, st5, fr5⟩ => ?_)
    have I5' := I5.pinned (stat fr5) (T.obj _ _ st5)
    refine wpAny_passesOwn hp (thn (hg _ s5 σ3 H5 x u _ I5' r5 (step x H5 y5)) fun _ s6 ⟨σ6, H6, I6, q6⟩ => ?_)
    refine wpAny_passesOwn hp (thn (hb _ s6 σ6 H6 _ I6 q6) fun f s7 q7 => ?_)
    have again : ∀ {σ7 : St} {H7 : Hp}, Inv X (pins ++ pinsAt fp s5.heap) σ7 H7 s7 → N σ7 H7 → ∃ m, m < n ∧ ∃ i σ' H', Inv X pins σ' H' s7 ∧ tn i s7.heap ∧ (∀ b ∈ fp, H' b = none) ∧ W i m σ' H' := fun {σ7 H7} I7 n7 => by
      obtain ⟨m', hm, w7⟩ := hN σ7 H7 n7
      refine ⟨m', hm, i + 1, σ7, H7, I7.unpinned, T.keep _ _ _ st5 fun b hb o e => (I7.pin (b, o) (List.mem_append_right _ (List.mem_append_right _ (mem_pinsAt hb e)))).1, fun b hb => ?_, w7⟩
      obtain ⟨o, e, d⟩ := T.obj _ _ st5 b hb
      exact (I7.pin (b, o) (List.mem_append_right _ (List.mem_append_right _ (mem_pinsAt hb e)))).2.1
    cases f with
    | next => obtain ⟨σ7, H7, I7, n7⟩ := q7; exact again I7 n7
    | cont => obtain ⟨σ7, H7, I7, n7⟩ := q7; exact again I7 n7
    | brk => obtain ⟨σ7, H7, I7, q7⟩ := q7; exact ⟨σ7, H7, I7.unpinned, q7⟩
    | ret v => obtain ⟨x7, σ7, H7, I7, r7, q7⟩ := q7; exact ⟨x7, σ7, H7, I7.unpinned, r7, q7⟩
end
end L2
namespace L2
open PySem PySem.Spec PyProof.Rows
abbrev R2 := V → V → Hp → VK → Prop
def OpR (X : Cx) (f : Value → Value → Sem Value) (r : R2) : Prop :=
  ∀ (pins : List (Addr × Obj)) (s : Shared) (σ : St) (H : Hp) (x y : V) (v u : Value) (Q : VK), Inv X pins σ H s → RelV x v → RelV y u → r x y H Q →
    wpAny (model X.prog X.w) X.A (f v u) (EP X pins σ Q) X.xe s
def CallR (X : Cx) (f : Value) (r : List V → Hp → VK → Prop) : Prop :=
  ∀ (pins : List (Addr × Obj)) (s : Shared) (σ : St) (H : Hp) (xs : List V) (us : List Value) (Q : VK), Inv X pins σ H s → Vals xs us → r xs H Q →
    wpAny (model X.prog X.w) X.A (call f us) (EP X pins σ Q) X.xe s
def tOp (r : R2) (ta tb : TE) : TE := fun σ H Q => ta σ H fun x H1 => tb σ H1 fun y H2 => r x y H2 Q
def rI (C : Int → Int → Prop) (g : Int → Int → V) : R2 := fun x y H Q => ∃ i j, x = .int i ∧ y = .int j ∧ C i j ∧ Q (g i j) H
def rI0 (g : Int → Int → V) : R2 := fun x y H Q => ∃ i j, x = .int i ∧ y = .int j ∧ Q (g i j) H
section
variable {X : Cx} {a b c : Expr} {ta tb tc : TE} {pos : Pos}
theorem binT (ha : PE X a ta) (hb : PE X b tb) {pins : List (Addr × Obj)} {s : Shared} {σ : St} {H : Hp} {R : V → V → Hp → Prop} (I : Inv X pins σ H s)
    (h : ta σ H fun x H1 => tb σ H1 fun y H2 => R x y H2) {Q : Value → Shared → Prop} {f : Value → Value → Sem Value}
    (hf : ∀ v u s2 x y H2, Inv X pins σ H2 s2 → RelV x v → RelV y u → R x y H2 → wpAny (model X.prog X.w) X.A (f v u) Q X.xe s2) :
    wpAny (model X.prog X.w) X.A (eval a X.env) (fun v s₁ => wpAny (model X.prog X.w) X.A (eval b X.env) (fun u s₂ => wpAny (model X.prog X.w) X.A (f v u) Q X.xe s₂) X.xe s₁) X.xe s := by
  refine thn (ha pins s σ H _ I h) fun v s1 ⟨x, H1, I1, r1, q1⟩ => ?_
  refine thn (hb pins s1 σ H1 _ I1 q1) fun u s2 ⟨y, H2, I2, r2, q2⟩ => ?_
  exact hf v u s2 x y H2 I2 r1 r2 q2
theorem pe_op {op : Operator} {r : R2} (ho : OpR X (binaryOp op) r) (ha : PE X a ta) (hb : PE X b tb) : PE X (.BinOp a op b pos) (tOp r ta tb) := by
  intro pins s σ H Q I h
  exact wpAny_BinOp (binT ha hb I h fun v u s2 x y H2 I2 rx ry q => ho pins s2 σ H2 x y v u Q I2 rx ry q)
theorem opI {f : Value → Value → Sem Value} {C : Int → Int → Prop} {g : Int → Int → Int}
    (rule : ∀ (i j : Int) (t u : Tok) (s : Shared) (Q : Value → Shared → Prop) (E : Value → Shared → Prop), C i j → Q (.int (g i j) s.toks) { s with toks := s.toks + 1 } → wpAny (model X.prog X.w) X.A (f (.int i t) (.int j u)) Q E s) :
    OpR X f (rI C fun i j => .int (g i j)) := by
  intro pins s σ H x y v u Q I rx ry h
  obtain ⟨i, j, rfl, rfl, hc, q⟩ := h
  obtain ⟨t, rfl⟩ := rx
  obtain ⟨t', rfl⟩ := ry
  exact rule i j t t' s _ _ hc ⟨.int (g i j), H, I.tok _, ⟨_, rfl⟩, q⟩
theorem opI0 {f : Value → Value → Sem Value} {g : Int → Int → Int}
    (rule : ∀ (i j : Int) (t u : Tok) (s : Shared) (Q : Value → Shared → Prop) (E : Value → Shared → Prop), Q (.int (g i j) s.toks) { s with toks := s.toks + 1 } → wpAny (model X.prog X.w) X.A (f (.int i t) (.int j u)) Q E s) :
    OpR X f (rI0 fun i j => .int (g i j)) := by
  intro pins s σ H x y v u Q I rx ry h
  obtain ⟨i, j, rfl, rfl, q⟩ := h
  obtain ⟨t, rfl⟩ := rx
  obtain ⟨t', rfl⟩ := ry
  exact rule i j t t' s _ _ ⟨.int (g i j), H, I.tok _, ⟨_, rfl⟩, q⟩
theorem opB0 {f : Value → Value → Sem Value} {g : Int → Int → Bool}
    (rule : ∀ (i j : Int) (t u : Tok) (s : Shared) (Q : Value → Shared → Prop) (E : Value → Shared → Prop), Q (.bool (g i j)) s → wpAny (model X.prog X.w) X.A (f (.int i t) (.int j u)) Q E s) :
    OpR X f (rI0 fun i j => .bl (g i j)) := by
  intro pins s σ H x y v u Q I rx ry h
  obtain ⟨i, j, rfl, rfl, q⟩ := h
  obtain ⟨t, rfl⟩ := rx
  obtain ⟨t', rfl⟩ := ry
  exact rule i j t t' s _ _ ⟨.bl (g i j), H, I, rfl, q⟩
def CPow (i j : Int) : Prop := 0 ≤ j ∧ j ≤ 1000000 ∧ i.natAbs < 2 ^ 64
def CMul (i j : Int) : Prop := (-(2 ^ 64) < i ∧ i < 2 ^ 64) ∨ (-(2 ^ 64) < j ∧ j < 2 ^ 64)
theorem CMul.ok {i j : Int} (h : CMul i j) : IntMulOk i j := by
  rcases h with ⟨h1, h2⟩ | ⟨h1, h2⟩
  · exact .of_left (intBits_le_64 h1 h2)
  · exact .of_right (intBits_le_64 h1 h2)
theorem op_add : OpR X (binaryOp .Add) (rI0 fun i j => .int (i + j)) := opI0 fun _ _ _ _ _ _ _ q => add_int q
theorem op_sub : OpR X (binaryOp .Sub) (rI0 fun i j => .int (i - j)) := opI0 fun _ _ _ _ _ _ _ q => sub_int q
theorem op_mul : OpR X (binaryOp .Mult) (rI CMul fun i j => .int (i * j)) := opI fun _ _ _ _ _ _ _ hc q => mul_int q hc.ok
theorem op_mod : OpR X (binaryOp .Mod) (rI (fun _ j => 0 < j) fun i j => .int (i % j)) := opI fun i j _ _ _ _ _ hc q => by
  have h1 : (0 : Int) < j := hc
  exact mod_int' (by omega) (by rw [Int.fmod_eq_emod_of_nonneg i (by omega)]; exact q)
theorem op_pow : OpR X (binaryOp .Pow) (rI CPow fun i j => .int (i ^ j.toNat)) := opI fun _ _ _ _ _ _ _ hc q => pow_int_small hc.1 hc.2.1 hc.2.2 q
end
section
variable {X : Cx} {a b c : Expr} {ta tb tc : TE} {pos : Pos}
theorem op_lt : OpR X (compareOp .Lt) (rI0 fun i j => .bl (decide (i < j))) := opB0 fun _ _ _ _ _ _ _ q => lt_int q
theorem op_gt : OpR X (compareOp .Gt) (rI0 fun i j => .bl (decide (j < i))) := opB0 fun _ _ _ _ _ _ _ q => gt_int q
theorem op_ge : OpR X (compareOp .GtE) (rI0 fun i j => .bl (decide (j ≤ i))) := opB0 fun _ _ _ _ _ _ _ q => ge_int q
theorem OpR.or {f : Value → Value → Sem Value} {r r' : R2} (h : OpR X f r) (h' : OpR X f r') : OpR X f (fun x y H Q => r x y H Q ∨ r' x y H Q) := by
  intro pins s σ H x y v u Q I rx ry q
  rcases q with q | q
  · exact h pins s σ H x y v u Q I rx ry q
  · exact h' pins s σ H x y v u Q I rx ry q
theorem nomark (b : Expr) {op : CmpOp} (h : op ≠ .In := by decide) (h2 : op ≠ .NotIn := by decide) : behindInMarks op b = false := by
  have e1 : (op == CmpOp.In) = false := by cases op <;> first | rfl | exact absurd rfl h
  have e2 : (op == CmpOp.NotIn) = false := by cases op <;> first | rfl | exact absurd rfl h2
  cases b <;> simp [behindInMarks, e1, e2]
theorem pe_cmpR {op : CmpOp} {r : R2} (ho : OpR X (compareOp op) r) (ha : PE X a ta) (hb : PE X b tb) (hm : behindInMarks op b = false) : PE X (.Compare a [op] [b] pos) (tOp r ta tb) := by
  intro pins s σ H Q I h
  exact wpAny_Compare1 (binT ha hb I h fun v u s2 x y H2 I2 rx ry q => ho pins s2 σ H2 x y v u Q I2 rx ry q) hm
def tTest (t : TE) : TT := fun σ H Q => t σ H fun x H' => ∃ k, x = .bl k ∧ Q k H'
theorem pt_cmpR {op : CmpOp} {r : R2} (ho : OpR X (compareOp op) r) (ha : PE X a ta) (hb : PE X b tb) (hm : behindInMarks op b = false) : PT X (.Compare a [op] [b] pos) (tTest (tOp r ta tb)) := by
  intro pins s σ H Q I h
  refine wpAny_isTrue_Compare1 (thn (ha pins s σ H _ I h) fun v s1 ⟨x, H1, I1, r1, q1⟩ => thn (hb pins s1 σ H1 _ I1 q1) fun u s2 ⟨y, H2, I2, r2, q2⟩ =>
    thn (ho pins s2 σ H2 x y v u _ I2 r1 r2 q2) fun c s3 ⟨z, H3, I3, r3, k, e, q3⟩ => ?_) hm
  subst e
  cases r3
  exact wpAny_truthy_bool ⟨H3, I3, q3⟩
theorem line63 : (sizeLine : Nat) < 2 ^ 63 := by rw [sizeLine_eq]; decide
def PlainIxT (b : Expr) : Prop := ∀ o i, subscripted b false o i = operate [o, i] (getItem o i)
theorem pe_item_str (ha : PE X a ta) (hb : PE X b tb) (hs : PlainIxT b) :
    PE X (.Subscript a b pos) (tOp (fun x y H Q => ∃ z i c, x = .str z ∧ y = .int i ∧ 0 ≤ i ∧ i < 2 ^ 63 ∧ i < z.length ∧ z.cps[i.toNat]? = some c ∧ Q (.str ⟨#[c]⟩) H) ta tb) := by
  intro pins s σ H Q I h
  refine Subscript_ (binT ha hb I h fun v u s2 x y H2 I2 rx ry q => ?_)
  obtain ⟨z, i, c, rfl, rfl, h0, h63, h1, hc, q⟩ := q
  obtain ⟨t, rfl⟩ := rx
  obtain ⟨t', rfl⟩ := ry
  have e : seqIndex? i z.length = some i.toNat := PySem.StrLaws.seqIndex_nonneg h0 h1
  exact tail_any (typeIs_str s2 z t) slot_str_getitem.lookup (getItem_str (c := c) (by
    have e1 : decide (i < -(2 ^ 63 : Int)) = false := decide_eq_false (by omega)
    have e2 : decide (i ≥ 2 ^ 63) = false := decide_eq_false (by omega)
    rw [e1, e2] <;> rfl) (by rw [e]; exact hc) ⟨.str ⟨#[c]⟩, H2, I2.tok _, ⟨_, rfl⟩, q⟩) (hs _ _)
theorem vals1 {x : V} {us : List Value} (r : Vals [x] us) : ∃ u, us = [u] ∧ RelV x u := by
  cases r with
  | cons r1 r2 => cases r2; exact ⟨_, rfl, r1⟩
end
end L2
namespace L2
open PySem PySem.Spec PyProof.Rows
section
variable {prog : Program} {w : World} {A : Around} {E : Value → Shared → Prop} {s : Shared} {K : PySem.W.Frag} {x dx C f : Addr} {mA : Str → Option Value} {name : Str} {v : Value}
end
theorem RelO.some_of {v : V} {o : Option Value} (r : RelO (some v) o) : ∃ u, o = some u ∧ RelV v u := by
  cases o with
  | none => exact (show False from r).elim
  | some u => exact ⟨u, rfl, r⟩
theorem handed_of {v : V} {u : Value} (r : RelV v u) : PySem.W.handedIn u = true := by
  cases v with
  | non => cases (show u = Value.none from r); rfl
  | bl b => cases (show u = Value.bool b from r); rfl
  | int i => obtain ⟨t, e⟩ := (show ∃ t, u = Value.int i t from r); cases e; rfl
  | str x => obtain ⟨t, e⟩ := (show ∃ t, u = Value.str x t from r); cases e; rfl
  | byt b => obtain ⟨t, e⟩ := (show ∃ t, u = Value.bytes b t from r); cases e; rfl
  | flt b => obtain ⟨t, e⟩ := (show ∃ t, u = Value.float b t from r); cases e; rfl
  | ref a => cases (show u = Value.ref a from r); rfl
  | ty n => cases (show u = Value.type n from r); rfl
section
variable {P : Program} {w : World} {H H' : Hp} {h h' : Heap} {a C dx : Addr} {fs fs' : List (Str × V)}
end
structure Cls (K : PySem.W.Frag) (C : Addr) : Prop where
  pg : PySem.W.plainGet K C Str.empty = true
  hd : PySem.W.hasDictIn K C = true
  po : PySem.W.plainOver K C = true
  sa : PySem.W.findIn K (.ref C) "__setattr__" = some (some (.builtin "object.__setattr__"))
theorem Cls.get {K : PySem.W.Frag} {C : Addr} (c : Cls K C) (f : Str) : PySem.W.plainGet K C f = true := c.pg
section
variable {X : Cx} {pins : List (Addr × Obj)} {σ : St} {H : Hp} {s : Shared} {a C dx : Addr} {fs : List (Str × V)} {f : Str} {v : V} {A : Around} {E : Value → Shared → Prop}
theorem Inv.made (I : Inv X pins σ H s) : Inv X pins σ (upd (upd H s.heap.objs.size (.own (s.heap.objs.size + 1))) (s.heap.objs.size + 1) (.ins C s.heap.objs.size []))
    { s with heap := (s.heap.push PySem.W.emptyDict).push (PySem.W.instObj C s.heap.objs.size) } := by
  have e1 : (s.heap.push PySem.W.emptyDict).get? s.heap.objs.size = some PySem.W.emptyDict := Heap.get?_push_size s.heap rfl
  have e2 : ((s.heap.push PySem.W.emptyDict).push (PySem.W.instObj C s.heap.objs.size)).get? (s.heap.objs.size + 1) = some (PySem.W.instObj C s.heap.objs.size) := by
    have := Heap.get?_push_size (s.heap.push PySem.W.emptyDict) (o := PySem.W.instObj C s.heap.objs.size) rfl
    rwa [Heap.size_push] at this
  have e3 : (s.heap.push PySem.W.emptyDict).Ns s.heap.objs.size (fun _ => none) := ⟨PySem.W.emptyDict, #[], _, e1, rfl, (fun e he => absurd he (by simp)), fun _ => rfl⟩
  have I1 := I.laid (a := s.heap.objs.size) (o := .own (s.heap.objs.size + 1)) (h' := s.heap.push PySem.W.emptyDict) (t' := s.toks) (fun b u q => Heap.get?_push_of_some _ q) (Nat.le_refl _) ⟨_, e1⟩
  refine I1.laid (a := s.heap.objs.size + 1) (o := .ins C s.heap.objs.size []) (t' := s.toks) (fun b u q => Heap.get?_push_of_some _ q) (Nat.le_of_eq (Heap.size_push _ _)) ?_
  have ne : s.heap.objs.size ≠ s.heap.objs.size + 1 := Nat.ne_of_lt (Nat.lt_succ_self _)
  refine ⟨by rw [upd_ne ne, upd_same], Nat.zero_le _, ne, e2, fun _ => none, (Heap.Ns1.of_empty e3).at fun o q => Heap.get?_push_of_some _ q, fun _ => True.intro, fun y hy => absurd rfl hy⟩
theorem attr_of {prog : Program} {w : World} {env : Env} {e : Expr} {f : Str} {pos : Pos} {s : Shared} {Q : Value → Shared → Prop} (hb : attributeBase e f env (eval e env) = eval e env)
    (h : wpAny (model prog w) A (eval e env) (fun o s₁ => wpAny (model prog w) A (getAttr o f true) Q E s₁) E s) : wpAny (model prog w) A (eval (.Attribute e f pos) env) Q E s :=
  Attribute_any_ h (by rw [arm_eval_Attribute, hb])
end
section
variable {X : Cx} {o e value : Expr} {f : Str} {pos pos' tpos : Pos} {ta tv : TE}
end
section
variable {X : Cx} {pins : List (Addr × Obj)} {σ : St} {H : Hp} {s : Shared} {A : Around} {E : Value → Shared → Prop} {Q : Value → Shared → Prop} {c : Value} {b : Bool}
end
end L2
namespace L2
open PySem PySem.Spec PyProof.Rows
structure Room (k : Nat) (A : Around) : Prop where
  hd : A.handled = none
  dp : A.depth + 3 * k + 5 < recursionLimit
  un : A.units + 16 * k + 200 < cLine
theorem Room.mono {j k : Nat} {A : Around} (r : Room k A) (h : j ≤ k) : Room j A := ⟨r.hd, by have := r.dp; omega, by have := r.un; omega⟩
theorem Room.deeper {k : Nat} {A : Around} (r : Room (k + 1) A) (env : Env) : Room k (A.deeper env) :=
  ⟨r.hd, by have := r.dp; show A.depth + 1 + 3 * k + 5 < _; omega, by have := r.un; show A.units + 3 + 16 * k + 200 < _; omega⟩
theorem Room.in1 {k : Nat} {A : Around} (r : Room (k + 1) A) : Room k A.in1 :=
  ⟨r.hd, by have := r.dp; show A.depth + 3 * k + 5 < _; omega, by have := r.un; show A.units + 1 + 16 * k + 200 < _; omega⟩
theorem make_depth {A : Around} {C : Addr} {us : List Value} {kw : List (Str × Value)} : (A.under (.builtin "type.__call__" ⟨.ref C :: us, kw⟩)).depth = A.depth + 1 := by
  first | rfl | simp [Around.under, Code.weight, Code.isCreation, Code.isGuard, Code.isCaller, Code.frames, Code.isFrame, guardIds]
theorem make_units {A : Around} {C : Addr} {us : List Value} {kw : List (Str × Value)} : (A.under (.builtin "type.__call__" ⟨.ref C :: us, kw⟩)).units = A.units + 1 := by
  first | rfl | simp [Around.under, Code.cUnits, Code.frames, Code.isFrame]
theorem Room.make {k : Nat} {A : Around} (r : Room (k + 1) A) (C : Addr) (us : List Value) (kw : List (Str × Value)) : Room k (A.under (.builtin "type.__call__" ⟨.ref C :: us, kw⟩)) :=
  ⟨r.hd, by have := r.dp; rw [make_depth]; omega, by have := r.un; rw [make_units]; omega⟩
theorem Room.depth {k : Nat} {A : Around} (r : Room k A) : A.depth < recursionLimit := by have := r.dp; omega
theorem Room.units {k : Nat} {A : Around} (r : Room k A) : A.units + 64 < cLine := by have := r.un; omega
def tNil : TA := fun _ H Q => Q [] H
def tCons (ta : TE) (tr : TA) : TA := fun σ H Q => ta σ H fun x H1 => tr σ H1 fun xs H2 => Q (x :: xs) H2
section
variable {X : Cx} {e : Expr} {es : List Expr} {te : TE} {t : TA} {pos : Pos}
theorem pa_nil : PA X [] tNil := fun _ _ _ _ H Q I h => Calls.spliced_nil ⟨[], H, I, .nil, h⟩
theorem pa_cons (ha : PE X e te) (hr : PA X es t) (hs : starEach (e :: es) X.env = (false, eval e X.env) :: starEach es X.env := by rfl) : PA X (e :: es) (tCons te t) := by
  intro pos pins s σ H Q I h
  rw [hs]
  show wpAny _ _ (spliced ((false, eval e X.env) :: backTo pos (starEach es X.env))) _ _ s
  refine Calls.spliced_cons (thn (ha pins s σ H _ I h) fun u s1 ⟨x, H1, I1, r1, q1⟩ => ?_)
  exact thn (hr pos pins s1 σ H1 _ I1 q1) fun us s2 ⟨xs, H2, I2, r2, q2⟩ => ⟨x :: xs, H2, I2, .cons r1 r2, q2⟩
def tLst (t : TA) : TE := fun σ H Q => t σ H fun xs H1 => xs.length ≤ sizeLine ∧ ∀ p, H1 p = none → Q (.ref p) (upd H1 p (.lst xs))
theorem pe_lst (h : PA X es t) : PE X (.List es pos) (tLst t) := by
  intro pins s σ H Q I hq
  refine wpAny_List_spliced (thn (h pos pins s σ H _ I hq) fun us s1 ⟨xs, H1, I1, r, z, q⟩ => ⟨by rw [← r.length]; exact z, ?_⟩)
  have hf : H1 s1.heap.objs.size = none := I1.hok.fresh (Nat.le_refl _)
  refine ⟨.ref s1.heap.objs.size, upd H1 s1.heap.objs.size (.lst xs), I1.laid (t' := s1.toks) (fun b u e => Heap.get?_push_of_some _ e) (Nat.le_refl _) ?_, rfl, q _ hf⟩
  exact ⟨z, us, 0, r, Heap.get?_push_size _ rfl⟩
end
abbrev Sp := List V → Hp → VK → XK → Prop
abbrev CXT := List Env → Hp → Shared → XK → Value → Shared → Prop
structure Env0 (P : Program) (w : World) (K : PySem.W.Frag) (mg : Str → Option Value) (base : Heap) (A : Around) (outer : List Env) (s : Shared) (H : Hp) : Prop where
  frames : A.frames = some outer
  mod : Mod K mg base
  bs : ∀ b o, base.get? b = some o → s.heap.get? b = some o ∧ H b = none
  bsz : base.objs.size ≤ s.heap.objs.size
  funs : s.heap.FunFrames base outer
  frf : ∀ b ∈ frs outer, H b = none
  hok : HOk P w H s.heap
  bare : AllBare s.gens
def CE (outer : List Env) (P : Program) (w : World) (H : Hp) (s : Shared) (Q : VK) (u : Value) (s' : Shared) : Prop :=
  ∃ v H', s'.os = s.os ∧ AllBare s'.gens ∧ Un (frs outer) [] H H' s.heap s'.heap ∧ HOk P w H' s'.heap ∧ RelV v u ∧ Q v H'
def CR (CX : CXT) (outer : List Env) (P : Program) (w : World) (H : Hp) (s : Shared) (Q : VK) (E : XK) (r : Result) (s' : Shared) : Prop :=
  match r with
  | .ok (.ret u) => CE outer P w H s Q u s'
  | .ok _ => False
  | .error e => CX outer H s E e s'
structure FnOk (P : Program) (w : World) (K : PySem.W.Frag) (mg : Str → Option Value) (base : Heap) (CX : CXT) (k : Nat) (f : Addr) (fd : FuncData) (ps : List Str) (sp : Sp) : Prop where
  len : ∀ vs H Q E, sp vs H Q E → vs.length = ps.length
  run : ∀ (A : Around) (outer : List Env) (s : Shared) (H : Hp) (args : Args) (us : List Value) (vs : List V) (Q : VK) (E : XK), Room k A → Env0 P w K mg base A outer s H → BindsTo s fd args (ps.zip us) → Vals vs us → sp vs H Q E →
    codeAny (model P w) A (.call (.ref f) args) (CR CX outer P w H s Q E) s
theorem FnOk.mono {P : Program} {w : World} {K : PySem.W.Frag} {mg : Str → Option Value} {base : Heap} {CX : CXT} {j k : Nat} {f : Addr} {fd : FuncData} {ps : List Str} {sp : Sp} (F : FnOk P w K mg base CX j f fd ps sp) (h : j ≤ k) :
    FnOk P w K mg base CX k f fd ps sp := ⟨F.len, fun A outer s H args us vs Q E hr => F.run A outer s H args us vs Q E (hr.mono h)⟩
theorem FnOk.imp {P : Program} {w : World} {K : PySem.W.Frag} {mg : Str → Option Value} {base : Heap} {CX : CXT} {k : Nat} {f : Addr} {fd : FuncData} {ps : List Str} {sp sp' : Sp} (F : FnOk P w K mg base CX k f fd ps sp)
    (h : ∀ vs H Q E, sp' vs H Q E → sp vs H Q E) : FnOk P w K mg base CX k f fd ps sp' :=
  ⟨fun vs H Q E q => F.len vs H Q E (h _ _ _ _ q), fun A outer s H args us vs Q E hr he hb hv hs => F.run A outer s H args us vs Q E hr he hb hv (h _ _ _ _ hs)⟩
theorem Env0.make {P : Program} {w : World} {K : PySem.W.Frag} {mg : Str → Option Value} {base : Heap} {A : Around} {outer : List Env} {s : Shared} {H : Hp} (e : Env0 P w K mg base A outer s H) (C : Addr) (us : List Value) (kw : List (Str × Value)) :
    Env0 P w K mg base (A.under (.builtin "type.__call__" ⟨.ref C :: us, kw⟩)) outer s H := ⟨by first | exact e.frames | (simpa [Around.under, Code.envs, Code.isFrame, pushEnvs] using e.frames), e.mod, e.bs, e.bsz, e.funs, e.frf, e.hok, e.bare⟩
theorem Env0.in1 {P : Program} {w : World} {K : PySem.W.Frag} {mg : Str → Option Value} {base : Heap} {A : Around} {outer : List Env} {s : Shared} {H : Hp} (e : Env0 P w K mg base A outer s H) :
    Env0 P w K mg base A.in1 outer s H := ⟨e.frames, e.mod, e.bs, e.bsz, e.funs, e.frf, e.hok, e.bare⟩
section
variable {X : Cx} {pins : List (Addr × Obj)} {σ : St} {H : Hp} {s s' : Shared}
theorem Inv.env0 (I : Inv X pins σ H s) : Env0 X.prog X.w X.K X.mg X.base X.A X.stack s H :=
  ⟨I.ok.frames, I.ok.mod, I.bs, Nat.le_trans I.ok.bsz I.sz, I.stack, I.stkFree, I.hok, I.bare⟩
theorem Inv.after {Q : VK} {u : Value} (I : Inv X pins σ H s) (h : CE X.stack X.prog X.w H s Q u s') : EP X pins σ Q u s' := by
  obtain ⟨v, H', os, bare, un, hok, r, q⟩ := h
  obtain ⟨hh, g, d, t, os'⟩ := s'
  obtain rfl : os' = s.os := os
  exact ⟨v, H', I.call (h' := hh) (g' := g) (d' := d) (t' := t) (ch := []) un hok bare (fun b z => absurd z (by simp)), r, q⟩
end
def tCall (sp : Sp) (dvs : List V) (E : XK) (t : TA) : TE := fun σ H Q => t σ H fun vs H1 => sp (vs ++ dvs) H1 Q E
def Binds (K : PySem.W.Frag) (fd : FuncData) (ps : List Str) (ds : List Value) : Prop :=
  ∀ (s : Shared) (us : List Value), K.In s.heap → (us ++ ds).length = ps.length → BindsTo s fd ⟨us, []⟩ (ps.zip (us ++ ds))
theorem Binds.all {K : PySem.W.Frag} {fd : FuncData} {ps : List Str} (h : ∀ us : List Value, us.length = ps.length → bindArgs fd ⟨us, []⟩ = pure (ps.zip us)) : Binds K fd ps [] := fun s us _ hl => by
  rw [List.append_nil] at hl ⊢
  exact .of_eq (h us hl)
def Passes (CX : CXT) (X : Cx) (E : XK) : Prop := ∀ (pins : List (Addr × Obj)) (σ : St) (H : Hp) (s : Shared) (e : Value) (s' : Shared), Inv X pins σ H s → CX X.stack H s E e s' → X.xe e s'
section
variable {X : Cx} {CX : CXT} {k : Nat} {f C : Addr} {fd : FuncData} {ps : List Str} {sp : Sp} {dvs : List V} {ds : List Value} {E : XK} {x m : Str} {p pos apos : Pos} {e o : Expr} {es : List Expr} {ta : TE} {t : TA}
theorem run_fn {pins : List (Addr × Obj)} {σ : St} {H : Hp} {s : Shared} {Q : VK} {us : List Value} {vs : List V} (F : FnOk X.prog X.w X.K X.mg X.base CX k f fd ps sp) (hr : Room k X.A) (hb : Binds X.K fd ps ds) (hd : Vals dvs ds) (hx : Passes CX X E)
    (I : Inv X pins σ H s) (r : Vals vs us) (h : sp (vs ++ dvs) H Q E) : wpAny (model X.prog X.w) X.A (call (.ref f) us) (EP X pins σ Q) X.xe s := by
  have r2 : Vals (vs ++ dvs) (us ++ ds) := r.append hd
  have hl : (us ++ ds).length = ps.length := by rw [← r2.length]; exact F.len _ _ _ _ h
  refine wpAny_call (codeAny_mono (F.run X.A X.stack s H ⟨us, []⟩ (us ++ ds) (vs ++ dvs) Q E hr I.env0 (hb s us I.kIn hl) r2 h) fun r s' hq => ?_)
  cases r with
  | error e => exact hx pins σ H s e s' I hq
  | ok fl =>
    cases fl with
    | ret u => exact I.after hq
    | next => exact False.elim hq
    | brk => exact False.elim hq
    | cont => exact False.elim hq
theorem pe_call (F : FnOk X.prog X.w X.K X.mg X.base CX k f fd ps sp) (hr : Room k X.A) (hg : Gl X x) (hm : X.mg x = some (.ref f)) (hk : PySem.W.keepIn X.K (.ref f) = true) (hb : Binds X.K fd ps ds) (hd : Vals dvs ds) (hx : Passes CX X E)
    (ha : PA X (e :: es) t) (hdb : (x == ("__debug__" : Str)) = false := by decide) (he : starEach (e :: es) X.env = (false, eval e X.env) :: starEach es X.env := by rfl) (hpl : (backTo pos (starEach es X.env)).any (·.1) = false := by rfl) :
    PE X (.Call (.Name x p) (e :: es) [] pos) (tCall sp dvs E t) := by
  intro pins s σ H Q I h
  refine wpAny_Call_Name_kw (ld_glob I hg hm ?_ hdb)
  refine PySem.W.callWith_K (h₀ := X.base) I.ok.mod.kin hk (thn (ha pos pins s σ H _ I h) fun us s1 ⟨vs, H1, I1, r, q⟩ => ⟨I1.kIn, ?_⟩) he hpl
  exact run_fn F hr hb hd hx I1 r q
end
section
variable {X : Cx} {CX : CXT} {k : Nat} {f C : Addr} {fd : FuncData} {ps ks : List Str} {sp : Sp} {E : XK} {x m : Str} {p pos apos kpos : Pos} {e o : Expr} {es : List Expr} {kws : List Keyword} {te ta : TE} {t tk : TA} {nm : Option Str}
variable {g : List Value → List Value → List Value} {gV : List V → List V → List V}
end
structure FnScope (N P : List Str) (sc : Scope) : Prop where
  kind : sc.kind = .function
  co : sc.isCoroutine = false
  gen : sc.isGenerator = false
  nd : N.Nodup
  pre : N.take P.length = P
  par : ∀ x ∈ P, sc.names.lookup x = some .local ∨ sc.names.lookup x = some .cell
  nofree : ∀ y ∈ sc.names, y.2 ≠ .free
theorem bindL_out {kindOf : Str → Option NameKind} {x : Str} : ∀ {binds : List (Str × Value)} {m : Str → Option Value}, (∀ v, (x, v) ∉ binds) → bindL kindOf binds m x = m x
  | [], _, _ => rfl
  | (n, v) :: r, m, h => by
    unfold bindL
    rw [bindL_out fun w hw => h w (List.mem_cons_of_mem _ hw)]
    split
    · have : x ≠ n := by rintro rfl; exact h v List.mem_cons_self
      simp [this]
    · rfl
theorem bindC_out {kindOf : Str → Option NameKind} {x : Str} : ∀ {binds : List (Str × Value)} {m : Str → Option Value}, (∀ v, (x, v) ∉ binds) → bindC kindOf binds m x = m x
  | [], _, _ => rfl
  | (n, v) :: r, m, h => by
    unfold bindC
    rw [bindC_out fun w hw => h w (List.mem_cons_of_mem _ hw)]
    split
    · rfl
    · have : x ≠ n := by rintro rfl; exact h v List.mem_cons_self
      simp [this]
theorem bindL_get {kindOf : Str → Option NameKind} {x : Str} {v : Value} : ∀ {P : List Str} {vs : List Value} {i : Nat} {m : Str → Option Value}, P.Nodup → P[i]? = some x → vs[i]? = some v → kindOf x = some .local →
    bindL kindOf (P.zip vs) m x = some v
  | [], _, _, _, _, h, _, _ => by simp at h
  | _ :: _, [], _, _, _, _, h, _ => by simp at h
  | p :: P, w :: vs, 0, m, nd, h1, h2, hk => by
    simp at h1 h2; subst h1; subst h2
    show bindL kindOf ((p, w) :: P.zip vs) m p = _
    unfold bindL
    rw [bindL_out fun v hv => (List.nodup_cons.mp nd).1 (List.of_mem_zip hv).1, if_pos hk]
    simp
  | p :: P, w :: vs, i + 1, m, nd, h1, h2, hk => by
    show bindL kindOf ((p, w) :: P.zip vs) m x = _
    unfold bindL
    exact bindL_get (i := i) (List.nodup_cons.mp nd).2 (by simpa using h1) (by simpa using h2) hk
theorem bindC_get {kindOf : Str → Option NameKind} {x : Str} {v : Value} : ∀ {P : List Str} {vs : List Value} {i : Nat} {m : Str → Option Value}, P.Nodup → P[i]? = some x → vs[i]? = some v → kindOf x ≠ some .local →
    bindC kindOf (P.zip vs) m x = some v
  | [], _, _, _, _, h, _, _ => by simp at h
  | _ :: _, [], _, _, _, _, h, _ => by simp at h
  | p :: P, w :: vs, 0, m, nd, h1, h2, hk => by
    simp at h1 h2; subst h1; subst h2
    show bindC kindOf ((p, w) :: P.zip vs) m p = _
    unfold bindC
    rw [bindC_out fun v hv => (List.nodup_cons.mp nd).1 (List.of_mem_zip hv).1, if_neg hk]
    simp
  | p :: P, w :: vs, i + 1, m, nd, h1, h2, hk => by
    show bindC kindOf ((p, w) :: P.zip vs) m x = _
    unfold bindC
    exact bindC_get (i := i) (List.nodup_cons.mp nd).2 (by simpa using h1) (by simpa using h2) hk
def start (N : List Str) (vs : List V) : St := vs.map some ++ List.replicate (N.length - vs.length) none
def cxOf (CX : CXT) (P : Program) (w : World) (K : PySem.W.Frag) (mg : Str → Option Value) (base : Heap) (N : List Str) (qual : Str) (scope : Scope) (f : Addr) (cd : Value) (A : Around) (outer : List Env) (s : Shared) (H : Hp) (E : XK) : Cx where
  prog := P
  w := w
  K := K
  mg := mg
  base := base
  A := A.deeper (envOfC qual scope s.heap.objs.size f cd)
  N := N
  s₀ := s
  H₀ := H
  env := envOfC qual scope s.heap.objs.size f cd
  outer := outer
  stack := envOfC qual scope s.heap.objs.size f cd :: outer
  ex := []
  calm := true
  fn := fun _ => true
  pn := []
  xe := fun e s' => wpAny (model P w) (A.deeper (envOfC qual scope s.heap.objs.size f cd)) (leaving (envOfC qual scope s.heap.objs.size f cd) e) (fun _ s'' => CX outer H s E e s'') (fun e' s'' => CX outer H s E e' s'') s'
theorem cell_has {sc : Scope} {n : Nat} {x : Str} (h : sc.names.lookup x = some .cell) : ∃ c, (cellsFrom n sc.names []).lookup x = some c := by
  have q := PySem.W.cellsFrom_some sc.names n [] (.inl h)
  exact Option.isSome_iff_exists.mp q
theorem inv_start {CX : CXT} {P : Program} {w : World} {K : PySem.W.Frag} {mg : Str → Option Value} {base : Heap} {N ps : List Str} {qual : Str} {scope : Scope} {f : Addr} {cd : Value} {A : Around} {outer : List Env} {s s1 : Shared} {H : Hp} {E : XK} {us : List Value} {vs : List V}
    (S : FnScope N ps scope) (hd : A.handled = none) (e0 : Env0 P w K mg base A outer s H) (hl : vs.length = ps.length) (r : Vals vs us)
    (x : InCallC s s.heap.objs.size (bindL (envOfC qual scope s.heap.objs.size f cd).kindOf (ps.zip us) fun _ => none) (cellsFrom (s.heap.objs.size + 1) scope.names []) (bindC (envOfC qual scope s.heap.objs.size f cd).kindOf (ps.zip us) fun _ => none) s1) :
    Inv (cxOf CX P w K mg base N qual scope f cd A outer s H E) [] (start N vs) H s1 := by
  have hpl : ps.length ≤ N.length := by have := congrArg List.length S.pre; rw [List.length_take] at this; omega
  obtain ⟨h1, tk, rfl, hk⟩ := x.done
  have noA : ∀ b : Addr, b ∉ (cxOf CX P w K mg base N qual scope f cd A outer s H E).ex := fun b z => absurd (show b ∈ ([] : List Addr) from z) (by simp)
  refine ⟨⟨e0.mod, S.kind, rfl, rfl, Nat.le_refl _, fun y z c h1 h2 => ?_, fun y hy => ?_, fun y c _ h => ?_, fun _ => hd, Around.frames_deeper e0.frames, .inr ⟨rfl, rfl⟩, fun b z => absurd z (noA b), e0.bs, e0.bsz, fun b _ _ => noA b, fun b z => absurd z (noA b), e0.funs, e0.frf⟩,
    rfl, e0.bare, Un.kept hk, ⟨_, x.toInCall.ns, fun i y v h1 h2 h3 => ?_⟩, fun y c h => ⟨_, x.cell y c h⟩, e0.hok.fresh (Nat.le_refl _), fun y c h => ?_, fun p hp => absurd (show p ∈ ([] : List (Addr × Obj)) from hp) (by simp), e0.hok.kept hk, ?_⟩
  · exact name_of_addr x.apart (PySem.mem_of_lookup h1) (PySem.mem_of_lookup h2)
  · have hy : scope.names.lookup y = some .cell ∨ scope.names.lookup y = some .free := hy
    rcases hy with hy | hy
    · exact cell_has hy
    · exact absurd rfl (S.nofree _ (PySem.mem_of_lookup hy))
  · exact Nat.le_of_lt (x.above y c (PySem.mem_of_lookup h))
  · have hi : i < vs.length := by
      unfold start at h2
      by_cases hi : i < vs.length
      · exact hi
      · rw [List.getElem?_append_right (by simpa using hi)] at h2
        rw [List.getElem?_replicate] at h2
        split at h2 <;> cases h2
    have ha : vs[i]? = some v := by
      unfold start at h2
      rw [List.getElem?_append_left (by simpa using hi), List.getElem?_map] at h2
      cases e : vs[i]? with
      | none => rw [e] at h2; cases h2
      | some a => rw [e] at h2; cases h2; rfl
    obtain ⟨u, hu, rv⟩ := r.get ha
    have hp : ps[i]? = some y := by
      rw [← S.pre, List.getElem?_take_of_lt (by omega)]; exact h1
    have ndP : ps.Nodup := by rw [← S.pre]; exact S.nd.sublist (List.take_sublist _ _)
    refine ⟨u, rv, ?_⟩
    rcases S.par y (List.mem_of_getElem? hp) with k | k
    · exact .inl ⟨k, bindL_get ndP hp hu k⟩
    · obtain ⟨c, e⟩ := cell_has (n := s.heap.objs.size + 1) k
      refine .inr ⟨.inl k, c, e, ?_⟩
      have q := x.cell y c e
      rw [bindC_get ndP hp hu (by show scope.names.lookup y ≠ _; rw [k]; decide)] at q
      exact q
  · exact e0.hok.fresh (Nat.le_of_lt (x.above y c (PySem.mem_of_lookup h)))
  · unfold start
    show _ = N.length
    rw [List.length_append, List.length_map, List.length_replicate]
    omega
theorem fn_of {CX : CXT} {P : Program} {w : World} {K : PySem.W.Frag} {mg : Str → Option Value} {base : Heap} {k : Nat} {f : Addr} {name qual : Str} {params : Arguments} {body : List Stmt} {scope : Scope} {dV kV doc pm cdv ct oc : Value} {an od : Option Addr}
    {osl : Array (Option Value)} {N ps : List Str} {sp : Sp} (lk : K.lookup f = some ⟨oc, od, .func (PySem.W.fnOf name qual params body scope dV kV doc pm an cdv ct), osl⟩) (hcd : PySem.W.codeIn K cdv qual = true) (S : FnScope N ps scope)
    (len : ∀ vs H Q E, sp vs H Q E → vs.length = ps.length)
    (hbody : ∀ (A : Around) (outer : List Env) (s : Shared) (H : Hp) (vs : List V) (Q : VK) (E : XK), Room k (A.deeper (envOfC qual scope s.heap.objs.size f cdv)) → sp vs H Q E →
      ∃ t, PSs (cxOf CX P w K mg base N qual scope f cdv A outer s H E) body t ∧ t { nx := fun _ H' => Q .non H', rt := Q } (start N vs) H) :
    FnOk P w K mg base CX (k + 1) f (PySem.W.fnOf name qual params body scope dV kV doc pm an cdv ct) ps sp := by
  refine ⟨len, fun A outer s H args us vs Q E hr e0 hb r hsp => ?_⟩
  have hl := len _ _ _ _ hsp
  have KX : K.In s.heap := e0.mod.kin.keeps fun b o e => (e0.bs b o e).1
  have lim : s.heap.NoLimit := e0.mod.nolimit.keeps fun b o e => (e0.bs b o e).1
  have hkind : ∀ y ∈ ps.zip us, scope.names.lookup y.1 = some .local ∨ (scope.names.lookup y.1 = some .cell ∧ ((cellsFrom (s.heap.objs.size + 1) scope.names []).lookup y.1).isSome = true) := fun ⟨n, v⟩ hy => by
    rcases S.par n (List.of_mem_zip hy).1 with q | q
    · exact .inl q
    · exact .inr ⟨q, PySem.W.cellsFrom_some _ _ _ (.inl q)⟩
  refine codeAny_call_function hr.depth (KX _ _ lk) rfl S.co S.gen rfl (PySem.W.codeRec_of KX hcd) (hb _ _ _ _ ?_)
  refine wpAny_newFunctionEnv_cells S.kind hkind fun env he s1 x => ?_
  subst he
  refine ⟨lim.keeps x.toInCall.keep, codeAny_func ?_⟩
  obtain ⟨t, ht, hq⟩ := hbody A outer s H vs Q E (hr.deeper _) hsp
  have I : Inv (cxOf CX P w K mg base N qual scope f cdv A outer s H E) [] (start N vs) H s1 := inv_start S hr.hd e0 hl r x
  refine wpAny_mono (ht [] s1 (start N vs) H _ I hq) (fun fl s' hs => ?_) fun e s' hs => hs
  have fin : ∀ {σ' : St} {H' : Hp} {v : V} {u : Value}, Inv (cxOf CX P w K mg base N qual scope f cdv A outer s H E) [] σ' H' s' → RelV v u → Q v H' → CE outer P w H s Q u s' :=
    fun {σ' H' v u} J rv q => ⟨v, H', J.os, J.bare, J.base, J.hok, rv, q⟩
  cases fl with
  | ret u =>
    obtain ⟨v, σ', H', J, rv, q⟩ := hs
    exact fin J rv q
  | next =>
    obtain ⟨σ', H', J, q⟩ := hs
    exact fin (v := V.non) (u := Value.none) J rfl q
  | brk =>
    obtain ⟨_, _, _, q⟩ := hs
    exact False.elim q
  | cont =>
    obtain ⟨_, _, _, q⟩ := hs
    exact False.elim q
end L2
namespace L2
open PySem PySem.Spec PyProof.Rows
section
variable {X : Cx} {x : Str} {p pos : Pos} {e : Expr} {es : List Expr} {t : TA} {id T : String} {r : List V → Hp → VK → Prop}
def tCB (r : List V → Hp → VK → Prop) (t : TA) : TE := fun σ H Q => t σ H fun vs H1 => r vs H1 Q
theorem pe_callB (hc : CallR X (.builtin id) r) (hg : Gl X x) (hm : X.mg x = none) (hv : bootBuiltins x = some (.builtin id)) (ha : PA X (e :: es) t) (hn : x ≠ "__name__" := by decide) (hdb : (x == ("__debug__" : Str)) = false := by decide)
    (he : starEach (e :: es) X.env = (false, eval e X.env) :: starEach es X.env := by rfl) (hpl : (backTo pos (starEach es X.env)).any (·.1) = false := by rfl) : PE X (.Call (.Name x p) (e :: es) [] pos) (tCB r t) := by
  intro pins s σ H Q I h
  refine wpAny_Call_Name_kw (ld_blt I hg hm hv ?_ hn hdb)
  exact PyProof.Rows.callWith_builtin1 (thn (ha pos pins s σ H _ I h) fun us s1 ⟨vs, H1, I1, r1, q1⟩ => hc pins s1 σ H1 vs us Q I1 r1 q1) he hpl
theorem pe_callTy (hc : CallR X (.type T) r) (hg : Gl X x) (hm : X.mg x = none) (hv : bootBuiltins x = some (.type T)) (ha : PA X (e :: es) t) (hn : x ≠ "__name__" := by decide) (hdb : (x == ("__debug__" : Str)) = false := by decide)
    (he : starEach (e :: es) X.env = (false, eval e X.env) :: starEach es X.env := by rfl) (hpl : (backTo pos (starEach es X.env)).any (·.1) = false := by rfl) : PE X (.Call (.Name x p) (e :: es) [] pos) (tCB r t) := by
  intro pins s σ H Q I h
  refine wpAny_Call_Name_kw (ld_blt I hg hm hv ?_ hn hdb)
  exact PyProof.Rows.callWith_type1 (thn (ha pos pins s σ H _ I h) fun us s1 ⟨vs, H1, I1, r1, q1⟩ => hc pins s1 σ H1 vs us Q I1 r1 q1) he hpl
end
end L2
namespace HT
open PySem PyProof.Rows
section
open PySem.SeqAt
open PySem.AutoSeq1 (wpAny_loadPart')
open PySem.MeetsSeq PySem.MeetsSeq2 PySem.MeetsSeq3
end
section
variable {prog : Program} {w : World} {A : Around} {E : Value → Shared → Prop} {s : Shared}
def sIx (n d : Nat) : Option Int → Nat
  | none => d
  | some v => if v < 0 then (v + (n : Int)).toNat else min v.toNat n
theorem sIx_nat (n d k : Nat) : sIx n d (some (k : Int)) = min k n := by
  show (if (k : Int) < 0 then ((k : Int) + (n : Int)).toNat else min (k : Int).toNat n) = min k n
  rw [if_neg (by omega), Int.toNat_natCast]
end
end HT
namespace L2
open PySem PySem.Spec PyProof.Rows
abbrev TO := St → Hp → (Option Int → Hp → Prop) → Prop
def PO (X : Cx) (e : Option Expr) (t : TO) : Prop :=
  ∀ (pins : List (Addr × Obj)) (s : Shared) (σ : St) (H : Hp) (Q : Option Int → Hp → Prop), Inv X pins σ H s → t σ H Q →
    wpAny (model X.prog X.w) X.A (evalPart e X.env) (fun u s' => ∃ o H', Inv X pins σ H' s' ∧ IsPart u o ∧ Q o H') X.xe s
def tNoPart : TO := fun _ H Q => Q none H
def tPart (t : TE) : TO := fun σ H Q => t σ H fun x H1 => ∃ i, x = .int i ∧ Q (some i) H1
theorem intsAre_of {ns : List Int} : ∀ {us : List Value}, Vals (ns.map V.int) us → IntsAre us ns := by
  induction ns with
  | nil => intro us r; rw [List.map_nil] at r; cases r; exact .nil
  | cons n ns ih =>
    intro us r
    rw [List.map_cons] at r
    cases r with
    | cons r1 r2 =>
      obtain ⟨t, e⟩ := r1
      subst e
      exact .cons n t (ih r2)
section
variable {X : Cx} {e : Expr} {te : TE} {lo hi : Option Expr} {tl th : TO} {pos p2 : Pos}
theorem po_none : PO X none tNoPart := by
  intro pins s σ H Q I h
  rw [evalPart_none]
  exact wpAny_pure ⟨none, H, I, .none, h⟩
theorem po_some (h : PE X e te) : PO X (some e) (tPart te) := by
  intro pins s σ H Q I hw
  rw [evalPart_some]
  refine thn (h pins s σ H _ I hw) fun u s1 ⟨x, H1, I1, r1, q1⟩ => ?_
  obtain ⟨i, rfl, q⟩ := q1
  obtain ⟨t, rfl⟩ := r1
  exact ⟨some i, H1, I1, .int i t, q⟩
def SlR (X : Cx) (r : V → Option Int → Option Int → Hp → VK → Prop) : Prop :=
  ∀ (pins : List (Addr × Obj)) (s : Shared) (σ : St) (H : Hp) (x : V) (v vl vu : Value) (lo hi : Option Int) (sl : Addr) (Q : VK), Inv X pins σ H s → RelV x v → s.heap.IsSliceOf sl vl vu .none → IsPart vl lo → IsPart vu hi → r x lo hi H Q →
    ∃ T id, typeLookup (.type T) "__getitem__" = pure (some (.builtin id)) ∧ s.TypeIs v T ∧ wpAny (model X.prog X.w) X.A (getItem v (.ref sl)) (EP X pins σ Q) X.xe s
theorem SlR.or {r r' : V → Option Int → Option Int → Hp → VK → Prop} (h : SlR X r) (h' : SlR X r') : SlR X (fun x lo hi H Q => r x lo hi H Q ∨ r' x lo hi H Q) := by
  intro pins s σ H x v vl vu lo hi sl Q I rx hs pl pu q
  rcases q with q | q
  · exact h pins s σ H x v vl vu lo hi sl Q I rx hs pl pu q
  · exact h' pins s σ H x v vl vu lo hi sl Q I rx hs pl pu q
def tSl (r : V → Option Int → Option Int → Hp → VK → Prop) (te : TE) (tl th : TO) : TE := fun σ H Q => te σ H fun x H1 => tl σ H1 fun l H2 => th σ H2 fun u H3 => r x l u H3 Q
theorem pe_slice {r : V → Option Int → Option Int → Hp → VK → Prop} (hr : SlR X r) (he : PE X e te) (hl : PO X lo tl) (hu : PO X hi th) : PE X (.Subscript e (.Slice lo hi none p2) pos) (tSl r te tl th) := by
  intro pins s σ H Q I h
  refine Subscript_ (thn (he pins s σ H _ I h) fun v s1 ⟨x, H1, I1, r1, q1⟩ => ?_)
  refine wpAny_Slice (thn (hl pins s1 σ H1 _ I1 q1) fun vl s2 ⟨l, H2, I2, pl, q2⟩ => thn (hu pins s2 σ H2 _ I2 q2) fun vu s3 ⟨u, H3, I3, pu, q3⟩ => ?_)
  rw [evalPart_none]
  refine wpAny_pure ?_
  have I4 : Inv X pins σ H3 { s3 with heap := s3.heap.push { cls := .type "slice", data := .fields #[vl, vu, .none] } } := I3.kept (t' := s3.toks) fun b ob q => Heap.get?_push_of_some _ q
  obtain ⟨T, id, hT, ht, hg⟩ := hr pins { s3 with heap := s3.heap.push { cls := .type "slice", data := .fields #[vl, vu, .none] } } σ H3 x v vl vu l u s3.heap.objs.size Q I4 r1 (Heap.IsSliceOf.new ..) pl pu q3
  show wpAny (model X.prog X.w) X.A (subscriptTail e (.Slice lo hi none p2) v (.ref s3.heap.objs.size)) (EP X pins σ Q) X.xe { s3 with heap := s3.heap.push { cls := .type "slice", data := .fields #[vl, vu, .none] } }
  exact tail_any (ops := [.ref s3.heap.objs.size, v]) ht hT hg (by with_unfolding_all rfl)
def cutV (xs : List V) (lo hi : Option Int) : List V := (xs.drop (HT.sIx xs.length 0 lo)).take (HT.sIx xs.length xs.length hi - HT.sIx xs.length 0 lo)
theorem cutV_length (xs : List V) (lo hi : Option Int) : (cutV xs lo hi).length ≤ xs.length := by
  unfold cutV
  rw [List.length_take, List.length_drop]
  omega
end
end L2
namespace L2
open PySem PySem.Spec PyProof.Rows
def ixN (n : Nat) (i : Int) : Option Nat := if 0 ≤ i then (if i < n then some i.toNat else none) else if -(n : Int) ≤ i then some (i + n).toNat else none
def atI {α : Type} (xs : List α) (i : Int) : Option α := (ixN xs.length i).bind fun j => xs[j]?
theorem ixN_seq {n : Nat} {i : Int} {j : Nat} (h : ixN n i = some j) : seqIndex? i n = some j ∧ j < n ∧ -(n : Int) ≤ i ∧ i < n := by
  unfold ixN at h
  by_cases h0 : 0 ≤ i
  · rw [if_pos h0] at h
    by_cases h1 : i < n
    · rw [if_pos h1] at h
      have e : i.toNat = j := Option.some.inj h
      exact ⟨by rw [seqIndex_of h0 h1, e], by omega, by omega, h1⟩
    · rw [if_neg h1] at h; cases h
  · rw [if_neg h0] at h
    by_cases h1 : -(n : Int) ≤ i
    · rw [if_pos h1] at h
      have e : (i + n).toNat = j := Option.some.inj h
      exact ⟨by rw [seqIndex_neg (by omega) h1, e], by omega, h1, by omega⟩
    · rw [if_neg h1] at h; cases h
theorem atI_get {α : Type} {xs : List α} {i : Int} {v : α} (h : atI xs i = some v) : ∃ j, seqIndex? i xs.length = some j ∧ xs[j]? = some v ∧ j < xs.length ∧ -(xs.length : Int) ≤ i ∧ i < xs.length := by
  unfold atI at h
  cases e : ixN xs.length i with
  | none => rw [e] at h; cases h
  | some j =>
    rw [e] at h
    obtain ⟨h1, h2, h3, h4⟩ := ixN_seq e
    exact ⟨j, h1, h, h2, h3, h4⟩
theorem atI_nat {α : Type} {xs : List α} {j : Nat} {v : α} (h : xs[j]? = some v) : atI xs (j : Int) = some v := by
  have hj : j < xs.length := (List.getElem?_eq_some_iff.mp h).1
  have e : ixN xs.length (j : Int) = some j := by
    unfold ixN
    rw [if_pos (by omega), if_pos (by omega)]; simp
  unfold atI; rw [e]; exact h
def PlainIx (b : Expr) : Prop := ∀ o i, subscripted b false o i = operate [o, i] (getItem o i)
def IxR (X : Cx) (r : R2) : Prop :=
  ∀ (value slice : Expr) (pins : List (Addr × Obj)) (s : Shared) (σ : St) (H : Hp) (x y : V) (v u : Value) (Q : VK), Inv X pins σ H s → RelV x v → RelV y u → r x y H Q →
    subscripted slice false v u = operate [v, u] (getItem v u) → wpAny (model X.prog X.w) X.A (subscriptTail value slice v u) (EP X pins σ Q) X.xe s
def MtR (X : Cx) (id : String) (r : V → List V → Hp → VK → Prop) : Prop :=
  ∀ (pins : List (Addr × Obj)) (s : Shared) (σ : St) (H : Hp) (x : V) (xs : List V) (v : Value) (us : List Value) (Q : VK), Inv X pins σ H s → RelV x v → Vals xs us → r x xs H Q →
    wpAny (model X.prog X.w) X.A (call (.builtin id) (v :: us)) (EP X pins σ Q) X.xe s
section
variable {X : Cx} {a b : Expr} {ta tb : TE} {pos : Pos}
theorem IxR.or {r r' : R2} (h : IxR X r) (h' : IxR X r') : IxR X (fun x y H Q => r x y H Q ∨ r' x y H Q) := by
  intro value slice pins s σ H x y v u Q I rx ry q hs
  rcases q with q | q
  · exact h value slice pins s σ H x y v u Q I rx ry q hs
  · exact h' value slice pins s σ H x y v u Q I rx ry q hs
theorem MtR.or {id : String} {r r' : V → List V → Hp → VK → Prop} (h : MtR X id r) (h' : MtR X id r') : MtR X id (fun x xs H Q => r x xs H Q ∨ r' x xs H Q) := by
  intro pins s σ H x xs v us Q I rx rs q
  rcases q with q | q
  · exact h pins s σ H x xs v us Q I rx rs q
  · exact h' pins s σ H x xs v us Q I rx rs q
theorem pe_ix {r : R2} (hr : IxR X r) (ha : PE X a ta) (hb : PE X b tb) (hs : PlainIx b) : PE X (.Subscript a b pos) (tOp r ta tb) := by
  intro pins s σ H Q I h
  exact Subscript_ (binT ha hb I h fun v u s2 x y H2 I2 rx ry q => hr a b pins s2 σ H2 x y v u Q I2 rx ry q (hs _ _))
def rIxL (K : PySem.W.Frag) : R2 := fun x y H Q => ∃ p xs i v, x = .ref p ∧ y = .int i ∧ SqL K H p xs ∧ atI xs i = some v ∧ Q v H
def rIxT (K : PySem.W.Frag) : R2 := fun x y H Q => ∃ p xs i v, x = .ref p ∧ y = .int i ∧ SqT K H p xs ∧ atI xs i = some v ∧ Q v H
def rIxS : R2 := fun x y H Q => ∃ z i c, x = .str z ∧ y = .int i ∧ z.length ≤ sizeLine ∧ atI z.cps.toList i = some c ∧ Q (.str ⟨#[c]⟩) H
theorem ix_list : IxR X (rIxL X.K) := by
  intro value slice pins s σ H x y v u Q I rx ry h hs
  obtain ⟨p, xs, i, z, rfl, rfl, hq, he, q⟩ := h
  cases rx
  obtain ⟨t, rfl⟩ := ry
  obtain ⟨its, r, pl, hz⟩ := I.list hq
  obtain ⟨j, h1, h2, h3, h4, h5⟩ := atI_get he
  obtain ⟨w, ew, rw'⟩ := r.get h2
  have hl := r.length
  have hn := line63
  have fin : EP X pins σ Q w s := ⟨z, H, I, rw', q⟩
  by_cases h0 : 0 ≤ i
  · have hj : i.toNat = j := by
      rw [seqIndex_of h0 h5] at h1
      exact Option.some.inj h1
    exact item_listR pl.isList h0 (by omega) (by rw [hj]; simpa using ew) fin hs
  · have hj : (i + (its.toArray.size : Int)).toNat = j := by
      rw [seqIndex_neg (by omega) h4] at h1
      rw [List.size_toArray, ← hl]
      exact Option.some.inj h1
    exact subscriptTail_builtinR (x := w) pl.isList.typeIs slot_list_getitem.lookup
      (wpAny_getItem_list_neg (Q := fun r s' => r = w ∧ EP X pins σ Q r s') pl.isList (by omega) (by rw [List.size_toArray] <;> omega) (by omega) (by rw [hj]; simpa using ew) ⟨rfl, fin⟩) hs
theorem ix_tup : IxR X (rIxT X.K) := by
  intro value slice pins s σ H x y v u Q I rx ry h hs
  obtain ⟨p, xs, i, z, rfl, rfl, hq, he, q⟩ := h
  cases rx
  obtain ⟨t, rfl⟩ := ry
  obtain ⟨its, r, pl, hz⟩ := I.tuple hq
  obtain ⟨j, h1, h2, h3, h4, h5⟩ := atI_get he
  obtain ⟨w, ew, rw'⟩ := r.get h2
  have hl := r.length
  have hn := line63
  have fin : EP X pins σ Q w s := ⟨z, H, I, rw', q⟩
  exact subscriptTail_builtinR (x := w) pl.typeIs slot_tuple_getitem.lookup
    (getItem_tuple (j := j) (Q := fun r s' => r = w ∧ EP X pins σ Q r s') pl (by omega) (by omega) (by rw [List.size_toArray, ← hl]; exact h1) (by simpa using ew) ⟨rfl, fin⟩) hs
theorem ix_str : IxR X rIxS := by
  intro value slice pins s σ H x y v u Q I rx ry h hs
  obtain ⟨z, i, c, rfl, rfl, hz, he, q⟩ := h
  obtain ⟨t, rfl⟩ := rx
  obtain ⟨t', rfl⟩ := ry
  obtain ⟨j, h1, h2, h3, h4, h5⟩ := atI_get he
  have hl : z.cps.toList.length = z.length := by simp [Str.length]
  rw [hl] at h1 h4 h5
  have hn := line63
  exact tail_any (typeIs_str s z t) slot_str_getitem.lookup (getItem_str (c := c) (by
    have e1 : decide (i < -(2 ^ 63 : Int)) = false := decide_eq_false (by omega)
    have e2 : decide (i ≥ 2 ^ 63) = false := decide_eq_false (by omega)
    rw [e1, e2, Bool.or_false]) (by rw [h1]; simpa using h2) ⟨.str ⟨#[c]⟩, H, I.tok _, ⟨_, rfl⟩, q⟩) hs
def rIx (K : PySem.W.Frag) : R2 := fun x y H Q => rIxL K x y H Q ∨ rIxT K x y H Q ∨ rIxS x y H Q
theorem ix_seq : IxR X (rIx X.K) := ix_list.or (ix_tup.or ix_str)
theorem Inv.lst {pins : List (Addr × Obj)} {σ : St} {H : Hp} {s : Shared} {p : Addr} {xs : List V} (I : Inv X pins σ H s) (h : H p = some (.lst xs)) :
    ∃ (its : List Value) (n : Nat), Vals xs its ∧ s.heap.get? p = some { cls := .type "list", data := .seq its.toArray n } ∧ xs.length ≤ sizeLine := by
  obtain ⟨z, its, n, r, e⟩ := I.hok p _ h
  exact ⟨its, n, r, e, z⟩
theorem slice_bounds (lo hi : Option Int) (n : Nat) : (sliceBounds lo hi none n).1 = ((HT.sIx n 0 lo : Nat) : Int) ∧ (sliceBounds lo hi none n).2.1 = ((HT.sIx n n hi : Nat) : Int) ∧ (sliceBounds lo hi none n).2.2 = 1 := by
  refine ⟨?_, ?_, rfl⟩
  · cases lo with
    | none => simp [sliceBounds, HT.sIx]
    | some i =>
      simp only [sliceBounds, HT.sIx, Option.getD_none, show (1 : Int) > 0 by decide, if_true]
      by_cases h : i < 0
      · simp only [h, if_true] <;> omega
      · simp only [h, if_false] <;> omega
  · cases hi with
    | none => simp [sliceBounds, HT.sIx]
    | some i =>
      simp only [sliceBounds, HT.sIx, Option.getD_none, show (1 : Int) > 0 by decide, if_true]
      by_cases h : i < 0
      · simp only [h, if_true] <;> omega
      · simp only [h, if_false] <;> omega
theorem slicePick_cut (its : List Value) (lo hi : Option Int) : slicePick its.toArray lo hi none = ((its.drop (HT.sIx its.length 0 lo)).take (HT.sIx its.length its.length hi - HT.sIx its.length 0 lo)).toArray := by
  obtain ⟨h1, h2, h3⟩ := slice_bounds lo hi its.toArray.size
  unfold slicePick
  rw [h1, h2, h3]
  simp only [sliceRange_one, pick_run, List.size_toArray] <;> rfl
def rSlL (K : PySem.W.Frag) : V → Option Int → Option Int → Hp → VK → Prop := fun x lo hi H Q => ∃ a xs, x = .ref a ∧ SqL K H a xs ∧ ∀ p, H p = none → Q (.ref p) (upd H p (.lst (cutV xs lo hi)))
theorem sl_list : SlR X (rSlL X.K) := by
  intro pins s σ H x v vl vu lo hi sl Q I rx hs pl pu h
  obtain ⟨a, xs, rfl, hx, q⟩ := h
  cases rx
  obtain ⟨its, r, ht, hz⟩ := I.list hx
  have hlen := r.length
  refine ⟨"list", _, slot_list_getitem.lookup, ht.isList.typeIs, ?_⟩
  refine wpAny_getItem_list_slice ht.isList hs pl pu .none (by simp) ?_ (by rw [List.size_toArray] <;> omega)
  rw [slicePick_cut, ← hlen]
  refine ⟨.ref s.heap.objs.size, _, I.laid (t' := s.toks) (o := .lst (cutV xs lo hi)) (fun b ob q => Heap.get?_push_of_some _ q) (Nat.le_refl _) ?_, rfl, q _ (I.hok.fresh (Nat.le_refl _))⟩
  exact ⟨Nat.le_trans (cutV_length xs lo hi) hz, _, 0, (r.drop (HT.sIx xs.length 0 lo)).take (HT.sIx xs.length xs.length hi - HT.sIx xs.length 0 lo), Heap.get?_push_size _ rfl⟩
theorem call_len_seq : CallR X (.builtin "len") (fun xs H Q => ∃ p ys, xs = [.ref p] ∧ (SqL X.K H p ys ∨ SqT X.K H p ys) ∧ Q (.int ys.length) H) := by
  intro pins s σ H xs us Q I r h
  obtain ⟨p, ys, rfl, hq, q⟩ := h
  obtain ⟨u, rfl, rx⟩ := vals1 r
  cases rx
  have hn := line63
  rcases hq with hq | hq
  · obtain ⟨its, r', pl, hz⟩ := I.list hq
    have hlen := r'.length
    exact Calls.call_len_list pl.isList (by simp only [List.size_toArray] <;> omega) ⟨.int ys.length, H, I.tok _, ⟨s.toks + 1, by rw [List.size_toArray, hlen]⟩, q⟩
  · obtain ⟨its, r', pl, hz⟩ := I.tuple hq
    have hlen := r'.length
    exact len_tuple pl (by simp only [List.size_toArray] <;> omega) ⟨.int ys.length, H, I.tok _, ⟨s.toks + 1, by rw [List.size_toArray, hlen]⟩, q⟩
theorem CallR.or {f : Value} {r r' : List V → Hp → VK → Prop} (h : CallR X f r) (h' : CallR X f r') : CallR X f (fun xs H Q => r xs H Q ∨ r' xs H Q) := by
  intro pins s σ H xs us Q I rs q
  rcases q with q | q
  · exact h pins s σ H xs us Q I rs q
  · exact h' pins s σ H xs us Q I rs q
theorem call_list_of : CallR X (.type "list") (fun xs H Q => ∃ p ys, xs = [.ref p] ∧ (SqL X.K H p ys ∨ SqT X.K H p ys) ∧ ∀ l, H l = none → Q (.ref l) (upd H l (.lst ys))) := by
  intro pins s σ H xs us Q I r h
  obtain ⟨p, ys, rfl, hq, q⟩ := h
  obtain ⟨u, rfl, rx⟩ := vals1 r
  cases rx
  have fin : ∀ (its : List Value), Vals ys its → ys.length ≤ sizeLine → ∀ (h' : Heap) (c' : Nat), (∀ b o', s.heap.get? b = some o' → h'.get? b = some o') →
      h'.get? s.heap.objs.size = some { cls := .type "list", dict := none, data := .seq its.toArray c', slots := #[] } → EP X pins σ Q (.ref s.heap.objs.size) { s with heap := h' } := fun its r' hz h' c' kp e =>
    ⟨.ref s.heap.objs.size, _, I.laid (t' := s.toks) kp (Nat.le_refl _) (show ObjOk X.prog X.w _ h' _ (.lst ys) from ⟨hz, its, c', r', e⟩), rfl, q _ (I.hok.fresh (Nat.le_refl _))⟩
  rcases hq with hq | hq
  · obtain ⟨its, r', pl, hz⟩ := I.list hq
    have hlen := r'.length
    obtain ⟨o, ho, hc, n, hd⟩ := pl.isList
    exact call_list_seq p (.inl rfl) ho hc hd (fun h' c' kp e => fin its r' hz h' c' kp e) (by simp only [List.size_toArray] <;> omega)
  · obtain ⟨its, r', pl, hz⟩ := I.tuple hq
    have hlen := r'.length
    obtain ⟨o, ho, hc, n, hd⟩ := pl
    exact call_list_seq p (.inr rfl) ho hc hd (fun h' c' kp e => fin its r' hz h' c' kp e) (by simp only [List.size_toArray] <;> omega)
def tyV (K : PySem.W.Frag) (T : String) (x : V) (H : Hp) : Prop := match x with
  | .str _ => T = "str"
  | .int _ => T = "int"
  | .ref p => (T = "list" ∧ ∃ xs, SqL K H p xs) ∨ (T = "tuple" ∧ ∃ o, K.lookup p = some o ∧ o.cls = .type "tuple" ∧ o.dict = none) ∨
      (T = "dict" ∧ ((∃ kvs, H p = some (.dK kvs)) ∨ ∃ kvs, H p = some (.dT kvs))) ∨ (T = "set" ∧ ∃ S n, H p = some (.set S n))
  | _ => False
theorem tyV_is {pins : List (Addr × Obj)} {σ : St} {H : Hp} {s : Shared} {T : String} {x : V} {v : Value} (I : Inv X pins σ H s) (r : RelV x v) (ty : tyV X.K T x H) :
    s.TypeIs v T ∧ ∀ a, v = .ref a → ∃ ob, s.heap.get? a = some ob ∧ ob.dict = none := by
  cases x with
  | str z =>
    obtain ⟨t, rfl⟩ := r
    cases (show T = "str" from ty)
    exact ⟨typeIs_str s z t, fun _ e => nomatch e⟩
  | int i =>
    obtain ⟨t, rfl⟩ := r
    cases (show T = "int" from ty)
    exact ⟨typeIs_int s i t, fun _ e => nomatch e⟩
  | ref p =>
    cases r
    rcases ty with ⟨rfl, xs, hq⟩ | ⟨rfl, o, hk, hc, hd⟩ | ⟨rfl, hk⟩ | ⟨rfl, S, n, hk⟩
    · obtain ⟨its, _, pl, _⟩ := I.list hq
      refine ⟨pl.isList.typeIs, fun a e => ?_⟩
      cases e
      obtain ⟨o, n, e, c, hd, _⟩ := pl
      exact ⟨o, e, hd⟩
    · refine ⟨⟨o, I.kIn p o hk, hc⟩, fun a e => ?_⟩
      cases e
      exact ⟨o, I.kIn _ o hk, hd⟩
    · have z : ∃ o, s.heap.get? p = some o ∧ o.ExactDict := by
        rcases hk with ⟨kvs, hk⟩ | ⟨kvs, hk⟩
        · obtain ⟨_, _, _, _, o, _, _, e, ex, _⟩ := I.hok p _ hk
          exact ⟨o, e, ex⟩
        · obtain ⟨_, _, _, _, o, _, _, e, ex, _⟩ := I.hok p _ hk
          exact ⟨o, e, ex⟩
      obtain ⟨o, e, ex⟩ := z
      refine ⟨⟨o, e, ex.1⟩, fun a e2 => ?_⟩
      cases e2
      exact ⟨o, e, ex.2.1⟩
    · obtain ⟨o, _, _, _, e, ex, _⟩ := I.hok p _ hk
      refine ⟨⟨o, e, ex.1⟩, fun a e2 => ?_⟩
      cases e2
      exact ⟨o, e, ex.2.1⟩
  | _ => exact False.elim ty
def tBM (K : PySem.W.Frag) (T : String) (r : V → List V → Hp → VK → Prop) (to : TE) (t : TA) : TE := fun σ H Q => to σ H fun x H1 => tyV K T x H1 ∧ t σ H1 fun xs H2 => r x xs H2 Q
variable {o e : Expr} {es : List Expr} {to : TE} {t : TA} {name : Str} {apos cpos : Pos} {T id : String} {r : V → List V → Hp → VK → Prop}
theorem pe_bm (pa : PlainAttrs T) (slot : Slot T name id) (hty : typeOf (.builtin id) = pure (.type "method_descriptor")) (hm : MtR X id r) (ho : PE X o to) (ha : PA X (e :: es) t)
    (hbase : attributeBase o name X.env (eval o X.env) = eval o X.env := by rfl)
    (hfew : ((backTo cpos (starEach (e :: es) X.env)).all (fun x => !x.1) && (backToKw cpos (keywordEach [] X.env)).all (fun x => x.1.isSome)
      && decide ((e :: es).length + ([] : List Keyword).length + (if ([] : List Keyword).isEmpty then 0 else 1) < 30)) = true := by rfl)
    (hline : (apos.endLine == cpos.line) = true := by rfl) (hs : starEach (e :: es) X.env = (false, eval e X.env) :: starEach es X.env := by rfl) (hplain : (backTo cpos (starEach es X.env)).any (·.1) = false := by rfl) :
    PE X (.Call (.Attribute o name apos) (e :: es) [] cpos) (tBM X.K T r to t) := by
  intro pins s σ H Q I h
  refine wpAny_Call_method_late hbase hfew hline rfl (thn (ho pins s σ H _ I h) fun v s1 ⟨x, H1, I1, r1, ty, q1⟩ => ?_)
  obtain ⟨h1, h2⟩ := tyV_is I1 r1 ty
  refine ⟨T, id, pa, slot, hty, h1, h2, ?_⟩
  have hA := ha cpos pins s1 σ H1 _ I1 q1
  rw [hs] at hA ⊢
  refine Calls.callWith_builtin (by show (false || (backTo cpos (starEach es X.env)).any (·.1)) = false; rw [hplain] <;> rfl) (Calls.evalArgs_plain ?_)
  exact thn hA fun us s2 ⟨vs, H2, I2, r2, q2⟩ => hm pins s2 σ H2 x vs v us Q I2 r1 r2 q2
end
end L2
namespace L2
open PySem PySem.Spec PyProof.Rows
def MtM (X : Cx) (id : String) (r : V → List V → Hp → VK → Prop) : Prop :=
  ∀ (pins : List (Addr × Obj)) (s : Shared) (σ : St) (H : Hp) (x : V) (xs : List V) (v : Value) (us : List Value) (Q : VK), Inv X pins σ H s → RelV x v → Vals xs us → r x xs H Q →
    wpAny (model X.prog X.w) X.A (call (.builtin id) (v :: us)) (EP X pins σ Q) X.xe s
theorem Vals.one : ∀ {x : V} {us : List Value}, Vals [x] us → ∃ u, us = [u] ∧ RelV x u
  | _, _, .cons r .nil => ⟨_, rfl, r⟩
theorem Vals.zero : ∀ {us : List Value}, Vals [] us → us = []
  | _, .nil => rfl
theorem Vals.eraseIdx : ∀ {xs : List V} {us : List Value} (i : Nat), Vals xs us → Vals (xs.eraseIdx i) (us.eraseIdx i)
  | _, _, _, .nil => .nil
  | _, _, 0, .cons _ t => t
  | _, _, i + 1, .cons r t => .cons r (Vals.eraseIdx i t)
section
variable {X : Cx} {pins : List (Addr × Obj)} {σ : St} {H : Hp} {s : Shared} {l b : Addr} {xs ys zs : List V}
theorem Inv.lset {its its' : List Value} {n : Nat} {f : Array Value → Array Value} {t' : Nat} (I : Inv X pins σ H s) (hH : H l = some (.lst xs))
    (e : s.heap.get? l = some { cls := .type "list", data := .seq its.toArray n }) (hf : f its.toArray = its'.toArray) (hv : Vals ys its') (hz : ys.length ≤ sizeLine) :
    Inv X pins σ (upd H l (.lst ys)) { s with heap := s.heap.update l (Obj.mapSeq f), toks := t' } := by
  have q := PySem.IsL.update e f
  rw [hf] at q
  refine I.write (x := l) (e := l) (by rw [hH]; exact trivial) (.inl rfl) (fun b' u hb hu => (Heap.get?_update_other s.heap (Obj.mapSeq f) (Ne.symm hb)).trans hu) ⟨_, q⟩ ?_
  exact ⟨hz, its', _, hv, q⟩
theorem Inv.fresh (I : Inv X pins σ H s) : H s.heap.objs.size = none := I.hok.fresh (Nat.le_refl _)
theorem Inv.lstM (I : Inv X pins σ H s) (hH : H l = some (.lst xs)) : xs.length ≤ sizeLine ∧ ∃ (its : List Value) (n : Nat), Vals xs its ∧ xs.length = its.length ∧ s.heap.get? l = some { cls := .type "list", data := .seq its.toArray n } := by
  obtain ⟨z, its, n, r, e⟩ := I.hok l _ hH
  exact ⟨z, its, n, r, r.length, e⟩
end
section
variable {X : Cx}
def rAppend : V → List V → Hp → VK → Prop := fun x vs H Q => ∃ l xs y, x = .ref l ∧ vs = [y] ∧ H l = some (.lst xs) ∧ xs.length < sizeLine ∧ Q .non (upd H l (.lst (xs ++ [y])))
theorem mt_append : MtM X "list.append" rAppend := by
  intro pins s σ H x vs v us Q I rx rv h
  obtain ⟨l, xs, y, rfl, rfl, hH, hz, q⟩ := h
  cases rx
  obtain ⟨u, rfl, ru⟩ := rv.one
  obtain ⟨z, its, n, r, hl, e⟩ := I.lstM hH
  refine call_meets F.slot_list_append ⟨_, e, rfl⟩ F.entry_list_append (F.args_list_append_2 _ _) (PySem.list_append l its.toArray n u (by rw [List.size_toArray]; omega)) ⟨e, ?_⟩
  refine ⟨.non, _, I.lset (its' := its ++ [u]) hH e (by simp) (r.append (.cons ru .nil)) ?_, rfl, q⟩
  rw [List.length_append, List.length_singleton]
  omega
end
section
variable {prog : Program} {w : World} {A : Around} {E : Value → Shared → Prop} {s : Shared}
end
section
variable {X : Cx}
end
end L2
namespace L2
open PySem PySem.Spec PyProof.Rows
section
variable {κ : Type} [DecidableEq κ]
def valV (kvs : List (κ × V)) (k : κ) : Option V := (kvs.find? fun kv => decide (kv.1 = k)).map (·.2)
def putK (kvs : List (κ × V)) (k : κ) (v : V) : List (κ × V) :=
  if (kvs.any fun kv => decide (kv.1 = k)) = true then kvs.map (fun kv => if kv.1 = k then (kv.1, v) else kv) else kvs ++ [(k, v)]
def dropK (kvs : List (κ × V)) (k : κ) : List (κ × V) := kvs.filter fun kv => decide (kv.1 ≠ k)
theorem valV_pos {p : κ × V} {r : List (κ × V)} {k : κ} (e : p.1 = k) : valV (p :: r) k = some p.2 := by simp [valV, List.find?_cons, e]
theorem valV_neg {p : κ × V} {r : List (κ × V)} {k : κ} (e : ¬ p.1 = k) : valV (p :: r) k = valV r k := by simp [valV, List.find?_cons, e]
theorem valV_any (k : κ) : ∀ kvs : List (κ × V), (kvs.any fun kv => decide (kv.1 = k)) = (valV kvs k).isSome
  | [] => rfl
  | p :: r => by
    rw [List.any_cons]
    by_cases e : p.1 = k
    · simp only [valV_pos e, decide_eq_true e, Bool.true_or, Option.isSome_some]
    · rw [valV_neg e, decide_eq_false e, Bool.false_or]; exact valV_any k r
theorem length_putK (kvs : List (κ × V)) (k : κ) (v : V) : (putK kvs k v).length ≤ kvs.length + 1 := by
  unfold putK
  split
  · rw [List.length_map]; omega
  · rw [List.length_append, List.length_cons, List.length_nil]; omega
theorem RelO.isSome_eq {o : Option V} {u : Option Value} (r : RelO o u) : o.isSome = u.isSome := by
  cases o with
  | none => cases u with
    | none => rfl
    | some _ => exact (show False from r).elim
  | some _ => cases u with
    | none => exact (show False from r).elim
    | some _ => rfl
theorem RelO.getD {o : Option V} {u : Option Value} {d : V} {d' : Value} (r : RelO o u) (rd : RelV d d') : RelV (o.getD d) (u.getD d') := by
  cases o with
  | none => cases u with
    | none => exact rd
    | some _ => exact (show False from r).elim
  | some _ => cases u with
    | none => exact (show False from r).elim
    | some _ => exact r
theorem KV.val {kvs : List (κ × V)} {vs : List (κ × Value)} (r : KV kvs vs) (k : κ) : RelO (valV kvs k) (valueAt vs k) := by
  unfold KV at r
  induction r with
  | nil => exact True.intro
  | @cons p q ps qs h t ih =>
    obtain ⟨h1, h2⟩ := h
    by_cases e : p.1 = k
    · have e' : q.1 = k := h1.symm.trans e
      have b : valueAt (q :: qs) k = some q.2 := by simp [valueAt, List.find?_cons, e']
      rw [valV_pos e, b]; exact h2
    · have e' : ¬ q.1 = k := fun z => e (h1.trans z)
      have b : valueAt (q :: qs) k = valueAt qs k := by simp [valueAt, List.find?_cons, e']
      rw [valV_neg e, b]; exact ih
theorem KV.any {kvs : List (κ × V)} {vs : List (κ × Value)} (r : KV kvs vs) (k : κ) : (kvs.any fun kv => decide (kv.1 = k)) = vs.any fun kv => decide (kv.1 = k) := by
  unfold KV at r
  induction r with
  | nil => rfl
  | cons h t ih => rw [List.any_cons, List.any_cons, ih, h.1]
theorem KV.repl {kvs : List (κ × V)} {vs : List (κ × Value)} (r : KV kvs vs) (k : κ) {y : V} {u : Value} (ry : RelV y u) :
    KV (kvs.map fun kv => if kv.1 = k then (kv.1, y) else kv) (vs.map fun kv => if kv.1 = k then (kv.1, u) else kv) := by
  unfold KV at r ⊢
  induction r with
  | nil => exact .nil
  | @cons p q ps qs h t ih =>
    rw [List.map_cons, List.map_cons]
    refine .cons ?_ ih
    obtain ⟨h1, h2⟩ := h
    by_cases e : p.1 = k
    · rw [if_pos e, if_pos (h1.symm.trans e)]; exact ⟨h1, ry⟩
    · rw [if_neg e, if_neg (fun z => e (h1.trans z))]; exact ⟨h1, h2⟩
theorem KV.put {kvs : List (κ × V)} {vs : List (κ × Value)} (r : KV kvs vs) (k : κ) {y : V} {u : Value} (ry : RelV y u) : KV (putK kvs k y) (stored vs k u) := by
  unfold putK stored
  rw [r.any k]
  by_cases e : (vs.any fun kv => decide (kv.1 = k)) = true
  · rw [if_pos e, if_pos e]; exact r.repl k ry
  · rw [if_neg e, if_neg e]; exact Paired.snoc r ⟨rfl, ry⟩
theorem KV.drop {kvs : List (κ × V)} {vs : List (κ × Value)} (r : KV kvs vs) (k : κ) : KV (dropK kvs k) (without vs k) := by
  unfold KV at r ⊢
  unfold dropK without
  induction r with
  | nil => exact .nil
  | @cons p q ps qs h t ih =>
    obtain ⟨h1, h2⟩ := h
    rw [List.filter_cons, List.filter_cons]
    by_cases e : p.1 = k
    · have a : ¬ decide (p.1 ≠ k) = true := by simp [e]
      have b : ¬ decide (q.1 ≠ k) = true := by simp [h1.symm.trans e]
      rw [if_neg a, if_neg b]; exact ih
    · have e' : ¬ q.1 = k := fun z => e (h1.trans z)
      have a : decide (p.1 ≠ k) = true := by simp [e]
      have b : decide (q.1 ≠ k) = true := by simp [e']
      rw [if_pos a, if_pos b]; exact .cons ⟨h1, h2⟩ ih
theorem KV.keys {kvs : List (κ × V)} {vs : List (κ × Value)} (r : KV kvs vs) : kvs.map (·.1) = vs.map (·.1) := by
  unfold KV at r
  induction r with
  | nil => rfl
  | cons h t ih => rw [List.map_cons, List.map_cons, ih, h.1]
theorem KV.length {kvs : List (κ × V)} {vs : List (κ × Value)} (r : KV kvs vs) : kvs.length = vs.length := Paired.length r
end
theorem kV_is {P : Program} {w : World} {k : Key} {u : Value} (r : RelV (kV k) u) : (mixKind P w).is k u = true := by
  cases k with
  | inl i => obtain ⟨t, e⟩ := (show ∃ t, u = Value.int i t from r); subst e; exact mixKind_int P w i t
  | inr x => obtain ⟨t, e⟩ := (show ∃ t, u = Value.str x t from r); subst e; exact mixKind_str P w x t
theorem items_are {P : Program} {w : World} : ∀ {ks : List Key} {us : List Value}, Vals (ks.map kV) us → ItemsAre (mixKind P w) ks us
  | [], _, r => by rw [List.map_nil] at r; cases r; exact .nil
  | k :: ks, _, r => by
    rw [List.map_cons] at r
    cases r with
    | cons h t => exact .cons (kV_is h) (items_are t)
abbrev KT (H : Hp) : List (List Key × V) → List (List Key × Addr × Value) → Prop := Paired fun p q => p.1 = q.1 ∧ H q.2.1 = some (.tup (p.1.map kV)) ∧ RelV p.2 q.2.2
theorem KT.val {H : Hp} {kvs : List (List Key × V)} {xs : List (List Key × Addr × Value)} (r : KT H kvs xs) (k : List Key) : RelO (valV kvs k) ((atKey xs k).map (·.2)) := by
  induction r with
  | nil => exact True.intro
  | @cons p q ps qs h t ih =>
    obtain ⟨h1, _, h2⟩ := h
    by_cases e : p.1 = k
    · have e' : q.1 = k := h1.symm.trans e
      have b : atKey (q :: qs) k = some q.2 := by simp [atKey, List.find?_cons, e']
      rw [valV_pos e, b]; exact h2
    · have e' : ¬ q.1 = k := fun z => e (h1.trans z)
      have b : atKey (q :: qs) k = atKey qs k := by simp [atKey, List.find?_cons, e']
      rw [valV_neg e, b]; exact ih
theorem KT.repl {H : Hp} {kvs : List (List Key × V)} {xs : List (List Key × Addr × Value)} (r : KT H kvs xs) (k : List Key) {y : V} {u : Value} (ry : RelV y u) :
    KT H (kvs.map fun kv => if kv.1 = k then (kv.1, y) else kv) (xs.map (putAt k u)) := by
  induction r with
  | nil => exact .nil
  | @cons p q ps qs h t ih =>
    rw [List.map_cons, List.map_cons]
    refine .cons ?_ ih
    obtain ⟨h1, h2, h3⟩ := h
    unfold putAt
    by_cases e : p.1 = k
    · rw [if_pos e, if_pos (h1.symm.trans e)]; exact ⟨h1, h2, ry⟩
    · rw [if_neg e, if_neg (fun z => e (h1.trans z))]; exact ⟨h1, h2, h3⟩
theorem KT.put {H : Hp} {kvs : List (List Key × V)} {xs : List (List Key × Addr × Value)} (r : KT H kvs xs) (k : List Key) {b : Addr} {y : V} {u : Value} (hb : H b = some (.tup (k.map kV))) (ry : RelV y u) :
    KT H (putK kvs k y) (storedH xs k b u) := by
  have e : (kvs.any fun kv => decide (kv.1 = k)) = (atKey xs k).isSome := by
    rw [valV_any, (r.val k).isSome_eq, Option.isSome_map]
  unfold putK storedH
  rw [e]
  by_cases q : (atKey xs k).isSome = true
  · rw [if_pos q, if_pos q]; exact r.repl k ry
  · rw [if_neg q, if_neg q]; exact Paired.snoc r ⟨rfl, hb, ry⟩
theorem KT.keeps {H H' : Hp} {kvs : List (List Key × V)} {xs : List (List Key × Addr × Value)} (r : KT H kvs xs) (ht : ∀ b ys, H b = some (.tup ys) → H' b = some (.tup ys)) : KT H' kvs xs :=
  Paired.mapP r fun _ _ z => ⟨z.1, ht _ _ z.2.1, z.2.2⟩
section
variable {P : Program} {w : World} {H : Hp} {h : Heap} {a : Addr}
theorem rd_of {u : HO} (ok : HOk P w H h) (e : Rd H a u) : ObjOk P w H h a u := e.ok ok
theorem dk_rd {kvs : List (Key × V)} (ok : HOk P w H h) (e : Rd H a (.dK kvs)) : kvs.length ≤ sizeLine ∧ (a == sysModules) = false ∧ ∃ vs, KV kvs vs ∧ h.DictOf (mixKind P w) a vs :=
  show ObjOk P w H h a (.dK kvs) from rd_of ok e
theorem dk_of {kvs : List (Key × V)} (ok : HOk P w H h) (e : H a = some (.dK kvs)) : kvs.length ≤ sizeLine ∧ (a == sysModules) = false ∧ ∃ vs, KV kvs vs ∧ h.DictOf (mixKind P w) a vs := dk_rd ok (.inl e)
theorem key_of {ks : List Key} (ok : HOk P w H h) (e : H a = some (.tup (ks.map kV))) : (tupleKind (mixKind P w)).is h ks a := by
  obtain ⟨_, its, r, o, h1, h2, n, h3⟩ := (show ObjOk P w H h a (.tup (ks.map kV)) from ok a _ e)
  exact ⟨o, its.toArray, n, h1, h2, h3, by simpa using items_are r⟩
theorem dt_rd {kvs : List (List Key × V)} (ok : HOk P w H h) (e : Rd H a (.dT kvs)) : kvs.length ≤ sizeLine ∧ (a == sysModules) = false ∧
    ∃ xs, KT H kvs xs ∧ h.DictOfH (tupleKind (mixKind P w)) a xs := by
  obtain ⟨z, y, xs, r, o, es, ep, h1, h2, h3, h4, h5⟩ := (show ObjOk P w H h a (.dT kvs) from rd_of ok e)
  refine ⟨z, y, xs, r, o, es, ep, h1, h2, h3, h4, fun x hx => ?_, h5⟩
  have all : ∀ {l : List (List Key × V)} {m : List (List Key × Addr × Value)}, KT H l m → ∀ x ∈ m, (tupleKind (mixKind P w)).is h x.1 x.2.1 := by
    intro l m q
    induction q with
    | nil => intro x hx; exact nomatch hx
    | @cons p q ps qs hq t ih =>
      intro x hx
      rcases List.mem_cons.mp hx with e | hx
      · subst e
        exact key_of ok (by rw [← hq.1]; exact hq.2.1)
      · exact ih x hx
  exact all r x hx
theorem dt_of {kvs : List (List Key × V)} (ok : HOk P w H h) (e : H a = some (.dT kvs)) : kvs.length ≤ sizeLine ∧ (a == sysModules) = false ∧
    ∃ xs, KT H kvs xs ∧ h.DictOfH (tupleKind (mixKind P w)) a xs := dt_rd ok (.inl e)
end
def DGet (H : Hp) (a : Addr) (y : V) (r : Option V) : Prop :=
  (∃ kvs k, Rd H a (.dK kvs) ∧ y = kV k ∧ r = valV kvs k) ∨ ∃ kvs k b, Rd H a (.dT kvs) ∧ y = .ref b ∧ H b = some (.tup (k.map kV)) ∧ r = valV kvs k
def DPut (H : Hp) (a : Addr) (y v : V) (H' : Hp) : Prop :=
  (∃ kvs k, H a = some (.dK kvs) ∧ y = kV k ∧ kvs.length < sizeLine ∧ H' = upd H a (.dK (putK kvs k v))) ∨
  ∃ kvs k b, H a = some (.dT kvs) ∧ y = .ref b ∧ H b = some (.tup (k.map kV)) ∧ kvs.length < sizeLine ∧ H' = upd H a (.dT (putK kvs k v))
theorem DGet.k {H : Hp} {a : Addr} {kvs : List (Key × V)} {k : Key} (e : H a = some (.dK kvs)) : DGet H a (kV k) (valV kvs k) := .inl ⟨kvs, k, .inl e, rfl, rfl⟩
theorem DGet.t {H : Hp} {a b : Addr} {kvs : List (List Key × V)} {k : List Key} (e : H a = some (.dT kvs)) (eb : H b = some (.tup (k.map kV))) : DGet H a (.ref b) (valV kvs k) := .inr ⟨kvs, k, b, .inl e, rfl, eb, rfl⟩
theorem DPut.k {H : Hp} {a : Addr} {kvs : List (Key × V)} {k : Key} {v : V} (e : H a = some (.dK kvs)) (hl : kvs.length < sizeLine) : DPut H a (kV k) v (upd H a (.dK (putK kvs k v))) := .inl ⟨kvs, k, e, rfl, hl, rfl⟩
theorem DPut.t {H : Hp} {a b : Addr} {kvs : List (List Key × V)} {k : List Key} {v : V} (e : H a = some (.dT kvs)) (eb : H b = some (.tup (k.map kV))) (hl : kvs.length < sizeLine) :
    DPut H a (.ref b) v (upd H a (.dT (putK kvs k v))) := .inr ⟨kvs, k, b, e, rfl, eb, hl, rfl⟩
section
variable {X : Cx} {pins : List (Addr × Obj)} {σ : St} {H : Hp} {s : Shared} {a : Addr} {y v : V} {u r : Value} {o : Option V} {A : Around} {E : Value → Shared → Prop}
theorem Inv.big (I : Inv X pins σ H s) : sysModules < s.heap.objs.size := by
  have h : mainGlobals < s.heap.objs.size := (I.mod.glob.keeps I.bk).lt
  exact Nat.lt_trans (by decide) h
theorem d_getItem {Q : Value → Shared → Prop} (hu : A.units + 1 < cLine) (I : Inv X pins σ H s) (g : DGet H a y (some v)) (ry : RelV y u) (h : ∀ w' s', Inv X pins σ H s' → RelV v w' → Q w' s') :
    wpAny (model X.prog X.w) A (getItem (.ref a) u) Q E s := by
  rcases g with ⟨kvs, k, e, ey, l⟩ | ⟨kvs, k, b, e, ey, eb, l⟩
  · subst ey
    obtain ⟨z, hd, vs, rel, dd⟩ := dk_rd I.hok e
    obtain ⟨w', hw, rw'⟩ := RelO.some_of (v := v) (o := valueAt vs k) (by rw [l]; exact rel.val k)
    exact wpAny_getItem_of (kV_is ry) dd.mapOf hw (h w' _ (I.tok _) rw')
  · subst ey
    cases (show u = Value.ref b from ry)
    obtain ⟨z, hd, xs, rel, dd⟩ := dt_rd I.hok e
    obtain ⟨w', hw, rw'⟩ := RelO.some_of (v := v) (o := (atKey xs k).map (·.2)) (by rw [l]; exact rel.val k)
    obtain ⟨p, hp, hp2⟩ := Option.map_eq_some_iff.mp hw
    refine wpAny_getItem_heap (tupleKind_room_in1 hu) (key_of I.hok eb) dd hp ?_
    rw [hp2]
    exact h w' _ (I.tok _) rw'
theorem d_write {h' : Heap} {t' : Nat} {ob : HO} (I : Inv X pins σ H s) (mu : Mut (H a)) (hs : Heap.SameBut a s.heap h') (he : ∃ q, h'.get? a = some q) (new : ObjOk X.prog X.w (upd H a ob) h' a ob) :
    Inv X pins σ (upd H a ob) { s with heap := h', toks := t' } :=
  I.write (x := a) (e := a) mu (.inl rfl) (fun b q hb z => (hs.2 b hb).trans z) he new
theorem dk_new {P : Program} {w : World} {H' : Hp} {h' : Heap} {kvs : List (Key × V)} {vs : List (Key × Value)} (z : kvs.length ≤ sizeLine) (hd : (a == sysModules) = false) (rel : KV kvs vs) (dd : h'.DictOf (mixKind P w) a vs) :
    ObjOk P w H' h' a (.dK kvs) := ⟨z, hd, vs, rel, dd⟩
theorem d_setItem {H' : Hp} {Q : Unit → Shared → Prop} (hu : A.units + 1 < cLine) (I : Inv X pins σ H s) (g : DPut H a y v H') (ry : RelV y u) (rv : RelV v r) (h : ∀ s', Inv X pins σ H' s' → Q () s') :
    wpAny (model X.prog X.w) A (setItem (.ref a) u r) Q E s := by
  rcases g with ⟨kvs, k, e, ey, l, eH⟩ | ⟨kvs, k, b, e, ey, eb, l, eH⟩
  · subst ey eH
    obtain ⟨z, hd, vs, rel, dd⟩ := dk_of I.hok e
    have hz : vs.length ≤ sizeLine := by rw [← rel.length]; exact z
    have hl : (putK kvs k v).length ≤ sizeLine := by have := length_putK kvs k v; omega
    refine wpAny_setItem_pairs (hsz := hz) (kV_is ry) dd fun h' dd' hs => h _ ?_
    have he : ∃ q, h'.get? a = some q := let ⟨q, _, _, hq, _⟩ := dd'; ⟨q, hq⟩
    exact d_write I (by rw [e]; exact True.intro) hs he (dk_new hl hd (rel.put k rv) dd')
  · subst ey eH
    cases (show u = Value.ref b from ry)
    obtain ⟨z, hd, xs, rel, dd⟩ := dt_of I.hok e
    have hz : xs.length ≤ sizeLine := by rw [← Paired.length rel]; exact z
    have hl : (putK kvs k v).length ≤ sizeLine := by have := length_putK kvs k v; omega
    refine wpAny_setItem_heap (hsz := hz) (tupleKind_room_in1 hu) (key_of I.hok eb) dd fun h' dd' hs => h _ ?_
    obtain ⟨q, es, ep, hq, h2, h3, h4, _, h5⟩ := dd'
    refine d_write I (by rw [e]; exact True.intro) hs ⟨q, hq⟩ ⟨hl, hd, _, (rel.put k eb rv).keeps fun c ys ec => ?_, q, es, ep, hq, h2, h3, h4, h5⟩
    rw [upd_ne (ne_of ec e (fun z => nomatch z))]
    exact ec
end
section
variable {X : Cx} {pins : List (Addr × Obj)} {σ : St} {H : Hp} {s : Shared} {a : Addr} {kvs : List (Key × V)} {k : Key} {u : Value} {A : Around} {E : Value → Shared → Prop}
end
def NoSl (i : Expr) : Prop := ∀ ov iv, subscripted i false ov iv = operate [ov, iv] (getItem ov iv)
theorem subD_of {prog : Program} {w : World} {A : Around} {E : Value → Shared → Prop} {s : Shared} {env : Env} {value slice : Expr} {pos : Pos} {T id : String} {Q : Value → Shared → Prop}
    (hl : typeLookup (.type T) "__getitem__" = pure (some (.builtin id))) (hs : NoSl slice)
    (h : wpAny (model prog w) A (eval value env) (fun o s₁ => wpAny (model prog w) A (eval slice env) (fun i s₂ => s₂.TypeIs o T ∧ wpAny (model prog w) A (getItem o i) Q E s₂) E s₁) E s) :
    wpAny (model prog w) A (eval (.Subscript value slice pos) env) Q E s := by
  refine Subscript_ (wpAny_mono h (fun o s₁ h₁ => wpAny_mono h₁ (fun i s₂ h₂ => ?_) fun _ _ x => x) fun _ _ x => x)
  obtain ⟨hT, h₂⟩ := h₂
  unfold subscriptTail
  refine wpAny_bind ?_
  rw [getitemInPython_of_ne hT.not_modules]
  refine wpAny_bind (wpAny_specialOf hT hl ?_)
  have fin : wpAny (model prog w) A (subscripted slice false o i) (fun r s₃ => wpAny (model prog w) A (letTemporaryGo value o r >>= fun _ => pure r) Q E s₃) E s₂ := by
    rw [hs o i]
    exact wpAny_operating (wpAny_mono h₂ (fun r s₃ h₃ => wpAny_bind (wpAny_letTemporaryGo (wpAny_pure h₃))) fun _ _ x => x)
  first
    | exact wpAny_pure (wpAny_bind fin)
    | exact wpAny_bind (wpAny_pure (wpAny_bind fin))
    | exact wpAny_bind fin
theorem dict_typeIs {X : Cx} {pins : List (Addr × Obj)} {σ : St} {H : Hp} {s : Shared} {a : Addr} {y : V} {o : Option V} (I : Inv X pins σ H s) (g : DGet H a y o) : s.TypeIs (.ref a) "dict" := by
  rcases g with ⟨kvs, k, e, _, _⟩ | ⟨kvs, k, b, e, _, _, _⟩
  · obtain ⟨_, _, vs, _, dd⟩ := dk_rd I.hok e
    exact dd.typeIs
  · obtain ⟨_, _, xs, _, dd⟩ := dt_rd I.hok e
    exact dd.typeIs
def tDGet (td ty : TE) : TE := fun σ H Q => td σ H fun x H1 => ty σ H1 fun y H2 => ∃ a v, x = .ref a ∧ DGet H2 a y (some v) ∧ Q v H2
def sDPut (td ty tv : TE) : TS := fun D σ H => tv σ H fun v H1 => td σ H1 fun x H2 => ty σ H2 fun y H3 => ∃ a H4, x = .ref a ∧ DPut H3 a y v H4 ∧ D.nx σ H4
section
variable {X : Cx} {o i e value : Expr} {pos pos' tpos : Pos} {td ty tv : TE}
theorem pe_dget (hu : X.A.units + 1 < cLine) (ho : PE X o td) (hi : PE X i ty) (hs : NoSl i) : PE X (.Subscript o i pos) (tDGet td ty) := by
  intro pins s σ H Q I h
  refine subD_of PySem.F.slot_dict_getitem.lookup hs (thn (ho pins s σ H _ I h) fun u s1 ⟨x, H1, I1, rx, q1⟩ => thn (hi pins s1 σ H1 _ I1 q1) fun iv s2 ⟨y, H2, I2, ry, a, v, ex, g, q2⟩ => ?_)
  subst ex
  obtain rfl : u = Value.ref a := rx
  exact ⟨dict_typeIs I2 g, d_getItem hu I2 g ry fun w' s3 I3 rw' => ⟨v, H2, I3, rw', q2⟩⟩
theorem ps_dput (hu : X.A.units + 1 < cLine) (ho : PE X o td) (hi : PE X i ty) (hv : PE X value tv) (hs : swapsWith value (some (.Subscript o i pos')) pos.line X.env = pure false) :
    PS X (.Assign [.Subscript o i pos'] value pos) (sDPut td ty tv) := by
  intro pins s σ H D I h
  refine wpAny_Assign_Subscript (thn (hv pins s σ H _ I h) fun r s1 ⟨v, H1, I1, rv, q1⟩ => thn (ho pins s1 σ H1 _ I1 q1) fun u s2 ⟨x, H2, I2, rx, q2⟩ => thn (hi pins s2 σ H2 _ I2 q2) fun iv s3 ⟨y, H3, I3, ry, a, H4, ex, g, q3⟩ => ?_) hs
  subst ex
  obtain rfl : u = Value.ref a := rx
  exact d_setItem hu I3 g ry rv fun s4 I4 => ⟨σ, H4, I4, q3⟩
end
theorem dk_empty {P : Program} {w : World} {H : Hp} (h : Heap) (hb : sysModules < h.objs.size) : ObjOk P w H (h.push { cls := .type "dict", data := .dict #[] }) h.objs.size (.dK []) :=
  ⟨Nat.zero_le _, beq_eq_false_iff_ne.mpr (Ne.symm (Nat.ne_of_lt hb)), [], .nil, Heap.DictOf.new h⟩
section
variable {X : Cx} {pos : Pos}
end
def tPairs : List (TE × TE) → St → Hp → (List (V × V) → Hp → Prop) → Prop
  | [], _, H, Q => Q [] H
  | (tk, tv) :: r, σ, H, Q => tk σ H fun x H1 => tv σ H1 fun y H2 => tPairs r σ H2 fun ps H3 => Q ((x, y) :: ps) H3
abbrev VV : List (V × V) → List (Value × Value) → Prop := Paired fun p q => RelV p.1 q.1 ∧ RelV p.2 q.2
def PPs (X : Cx) (pos : Pos) (keys : List (Option Expr)) (values : List Expr) (trs : List (TE × TE)) : Prop :=
  ∀ (pins : List (Addr × Obj)) (s : Shared) (σ : St) (H : Hp) (Q : List (V × V) → Hp → Prop), Inv X pins σ H s → tPairs trs σ H Q →
    wpAny (model X.prog X.w) X.A (evalPairs (pairTrees keys values X.env pos)) (fun vs s' => ∃ ps H', Inv X pins σ H' s' ∧ VV ps vs ∧ Q ps H') X.xe s
theorem pps_nil {X : Cx} {pos : Pos} : PPs X pos [] [] [] := fun pins s σ H Q I h => pairTrees_nil_walk ⟨[], H, I, .nil, h⟩
theorem pps_cons {X : Cx} {pos : Pos} {k v : Expr} {ks : List (Option Expr)} {vs : List Expr} {tk tv : TE} {trs : List (TE × TE)} (hk : PE X k tk) (hv : PE X v tv) (hr : PPs X pos ks vs trs) :
    PPs X pos (some k :: ks) (v :: vs) ((tk, tv) :: trs) := fun pins s σ H Q I h =>
  pairTrees_cons_walk (thn (hk pins s σ H _ I h) fun u s1 ⟨x, H1, I1, rx, q1⟩ => thn (hv pins s1 σ H1 _ I1 q1) fun w2 s2 ⟨y, H2, I2, ry, q2⟩ =>
    thn (hr pins s2 σ H2 _ I2 q2) fun ws s3 ⟨ps, H3, I3, rel, q3⟩ => ⟨(x, y) :: ps, H3, I3, .cons ⟨rx, ry⟩ rel, q3⟩)
def mergeK (kvs more : List (Key × V)) : List (Key × V) := more.foldl (fun acc kv => putK acc kv.1 kv.2) kvs
theorem KV.merge : ∀ {more : List (Key × V)} {rs : List (Key × Value)} {kvs : List (Key × V)} {vs : List (Key × Value)}, KV more rs → KV kvs vs → KV (mergeK kvs more) (merged vs rs) := by
  intro more rs kvs vs r
  unfold KV at r
  induction r generalizing kvs vs with
  | nil => intro q; exact q
  | @cons p q ps qs h t ih =>
    intro r0
    have e : KV (putK kvs p.1 p.2) (stored vs q.1 q.2) := by
      have := r0.put p.1 h.2
      rw [← h.1]; exact this
    exact ih e
theorem length_mergeK : ∀ (more kvs : List (Key × V)), (mergeK kvs more).length ≤ kvs.length + more.length
  | [], kvs => by show kvs.length ≤ kvs.length + 0; omega
  | p :: r, kvs => by
    have h1 := length_mergeK r (putK kvs p.1 p.2)
    have h2 := length_putK kvs p.1 p.2
    show (mergeK (putK kvs p.1 p.2) r).length ≤ _
    rw [List.length_cons]; omega
theorem carries_of {P : Program} {w : World} : ∀ {kvs : List (Key × V)} {ws : List (Value × Value)}, VV (kvs.map fun kv => (kV kv.1, kv.2)) ws → ∃ rs, Carries (mixKind P w) ws rs ∧ KV kvs rs
  | [], _, r => by rw [List.map_nil] at r; cases r; exact ⟨[], True.intro, .nil⟩
  | p :: kvs, _, r => by
    rw [List.map_cons] at r
    cases r with
    | @cons a b as bs h t =>
      obtain ⟨rs, c, q⟩ := carries_of (P := P) (w := w) t
      obtain ⟨b1, b2⟩ := b
      exact ⟨(p.1, b2) :: rs, ⟨kV_is h.1, rfl, c⟩, .cons ⟨rfl, h.2⟩ q⟩
def tDisp (trs : List (TE × TE)) : TE := fun σ H Q => ∀ p, H p = none → tPairs trs σ (upd H p (.dK [])) fun ps H2 => H2 p = some (.dK []) ∧ ∃ kvs : List (Key × V), ps = kvs.map (fun kv => (kV kv.1, kv.2)) ∧ kvs.length ≤ 15 ∧ Q (.ref p) (upd H2 p (.dK (mergeK [] kvs)))
theorem pe_disp {X : Cx} {pos : Pos} {keys : List (Option Expr)} {values : List Expr} {trs : List (TE × TE)} (h : PPs X pos keys values trs) (hall : keys.all (·.isSome) = true) (hl : keys.length = values.length) (h0 : keys ≠ [])
    (h15 : keys.length ≤ 15) : PE X (.Dict keys values pos) (tDisp trs) := by
  intro pins s σ H Q I q
  have hn := I.hok.fresh (Nat.le_refl s.heap.objs.size)
  have I1 := I.laid (a := s.heap.objs.size) (o := .dK []) (h' := s.heap.push { cls := .type "dict", data := .dict #[] }) (t' := s.toks) (fun _ _ q => Heap.get?_push_of_some _ q) (Nat.le_refl _) (dk_empty s.heap I.big)
  refine wpAny_Dict_walk (knd := mixKind X.prog X.w) hall hl h0 h15 (thn (h pins _ σ _ _ I1 (q _ hn)) fun ws s2 ⟨ps, H2, I2, rel, e, kvs, ep, lk, q2⟩ => ?_)
  subst ep
  obtain ⟨rs, c, rk⟩ := carries_of (P := X.prog) (w := X.w) rel
  obtain ⟨z, hd, vs0, r0, dd⟩ := dk_of I2.hok e
  cases r0
  refine ⟨rs, c, dd, fun h' dd' hs => ⟨.ref s.heap.objs.size, _, ?_, rfl, q2⟩⟩
  have hz : (mergeK [] kvs).length ≤ sizeLine := by
    have h1 := length_mergeK kvs []
    rw [List.length_nil] at h1
    rw [sizeLine_eq]; omega
  have he : ∃ q, h'.get? s.heap.objs.size = some q := let ⟨q, _, _, hq, _⟩ := dd'; ⟨q, hq⟩
  exact d_write I2 (by rw [e]; exact True.intro) hs he (dk_new hz hd (rk.merge .nil) dd')
structure M1 (X : Cx) (o : Expr) (m : Str) (apos : Pos) (e : Expr) (cpos : Pos) : Prop where
  base : attributeBase o m X.env (eval o X.env) = eval o X.env
  few : ((backTo cpos (starEach [e] X.env)).all (fun x => !x.1) && (backToKw cpos (keywordEach [] X.env)).all (fun x => x.1.isSome)
    && decide (([e] : List Expr).length + ([] : List Keyword).length + (if ([] : List Keyword).isEmpty then 0 else 1) < 30)) = true
  line : (apos.endLine == cpos.line) = true
  trees : backTo cpos (starEach [e] X.env) = [(false, eval e X.env)]
section
variable {X : Cx} {pins : List (Addr × Obj)} {σ : St} {H : Hp} {s : Shared} {a : Addr} {y d : V} {u r : Value} {o : Option V} {A : Around} {E : Value → Shared → Prop}
end
section
variable {X : Cx} {o e f : Expr} {apos cpos : Pos} {td ty tx : TE}
end
section
variable {X : Cx} {pins : List (Addr × Obj)} {σ : St} {H : Hp} {s : Shared} {a : Addr} {kvs : List (Key × V)} {A : Around} {E : Value → Shared → Prop}
end
section
variable {X : Cx} {pins : List (Addr × Obj)} {σ : St} {H : Hp} {s : Shared} {a : Addr} {y : V} {u : Value} {A : Around} {E : Value → Shared → Prop}
end
end L2
namespace Att
open PySem PySem.W PySem.Calls PyProof.Rows
theorem ints_of_wellAll {P : Params} {h : Heap} : ∀ (ns : List Int) (vs : List Value), WellAll P h vs (ns.map WData.int) → IntsAre vs ns := by
  intro ns
  induction ns with
  | nil =>
    intro vs w
    rw [List.map_nil] at w
    cases w
    exact .nil
  | cons n ns ih =>
    intro vs w
    rw [List.map_cons] at w
    cases w with
    | cons a b =>
      cases a
      exact .cons _ _ (ih _ b)
theorem script_of {l : OpenLaw} {n : Nat} (hn : l.most = some n) {P : Params} {h : Heap} {args : List WData} {vals : List Value}
    (hpre : l.row.toRowW.claim.pre args = true) (hwl : WellAll P h vals args) :
    ∃ a vs ns, vals = [Value.ref a] ∧ args = [WData.list (ns.map WData.int)] ∧ h.get? a = some { cls := .type "list", data := .seq vs.toArray } ∧ IntsAre vs ns ∧ ns.length ≤ n := by
  have hsh : WShape.hasAll [] args [.list .int] = true := (pre_splitW hpre).1
  have hc : l.pre.holds [] { args := args } = true := (pre_splitW hpre).2
  obtain ⟨d, r, rfl, h1, h2⟩ := hasAllW_cons hsh
  obtain rfl := hasAllW_nil h2
  obtain ⟨xs, rfl, h3⟩ := hasW_list h1
  obtain ⟨ns, rfl⟩ := items_int h3
  have hlen : ns.length ≤ n := by
    unfold OpenLaw.pre at hc
    have h4 : (WTm.not (.lt (.lit (.int (n : Int))) (.len (.arg 0)))).holds [] { args := [.list (ns.map .int)] } = true := by
      have h4 := (holds_andW hc).1
      rw [hn] at h4
      exact h4
    have h5 := condW_of h4 (w_not (w_lt w_lit (w_len_list (w_arg rfl))))
    rw [List.length_map] at h5
    refine Nat.le_of_not_lt fun q => ?_
    have q' : (n : Int) < ((ns.length : Nat) : Int) := by omega
    first
      | (rw [decide_eq_true q'] at h5; exact absurd h5 (by decide))
      | (simp at h5; omega)
  cases hwl with
  | cons w1 w2 =>
    cases w2
    cases w1 with
    | list ho hall => exact ⟨_, _, ns, rfl, rfl, ho, ints_of_wellAll ns _ hall, hlen⟩
theorem post_true (l : OpenLaw) (args : List WData) : l.row.toRowW.claim.post args (.bool true) args = true :=
  postW_of (r := l.row.toRowW) (X := (true == true))
    (show WShape.has [] (.bool true) .bool = true by first | rfl | decide | simp [WShape.has, WShape.arms, WShape.armsAll])
    (show (WTm.eq .res (.lit (.bool true))).value [] { args := args, res := some (.bool true), after := args } = some (.bool (true == true)) from w_eq_bool (w_res rfl) w_lit) rfl
theorem attach_call {l : OpenLaw} {n : Nat} {q : Program} {loose : List Str} {XP : (Str → Option Value) → Heap → Prop} {YP : World → Heap → Prop} {d : DefRec}
    (hn : l.most = some n) (hdf : d.params.defaults = [])
    (call : ∀ (w : World) (s₀ s₁ : Shared) (mg mb : Str → Option Value) (fa : Addr) (o : Obj) (pm cd doc : Value) (a : Addr) (vs : List Value) (ns : List Int),
      Ground q loose [] XP w s₀ mg mb s₁.heap → YP w s₁.heap →
      s₁.heap.get? fa = some o → o.data = .func (docDef d.name d.params d.body d.scope pm cd doc) → s₁.heap.CodeRec cd d.name → mg d.name = some (.ref fa) →
      s₁.heap.get? a = some { cls := .type "list", data := .seq vs.toArray } → IntsAre vs ns → ns.length ≤ n → s₁.gens = #[] →
      codeAny (model l.prog w) callerA (.call (.ref fa) ⟨[.ref a], []⟩) (fun r s' => r = .ok (.ret (.bool true)) ∧ OldK s₁.heap s'.heap ∧ s'.os = s₁.os ∧ AllBare s'.gens) s₁) :
    WalkO q loose XP YP l.row.toRowW d [] (fun f vs => PySem.call f vs) := by
  intro w s₀ s₁ mg mb G Y fa o pm cd doc dV kV ho hd hcd hD hmg hg args vals as hpre hlay hrd hwl hlo
  obtain rfl : dV = .none := Dflts.none hD hdf
  obtain rfl : kV = .none := Dflts.noKw hD
  obtain ⟨a, vs, ns, rfl, rfl, hobj, hints, hlen⟩ := script_of hn hpre hwl
  refine enter_call (codeAny_mono (call w s₀ s₁ mg mb fa o pm cd doc a vs ns G Y ho (fd_plain hd) hcd hmg hobj hints hlen hg) fun r s' hq => ?_)
  obtain ⟨rfl, h2, h3, h4⟩ := hq
  exact ⟨.inl ⟨.bool true, .bool true, [], rfl, fun _ => rfl, .bool true, post_true l _, fun _ => ⟨List.Pairwise.nil, fun _ hm => (nomatch hm)⟩⟩, h2, h3, h4⟩
section
variable {prog : Program} {w : World} {A : Around} {E : Value → Shared → Prop} {s : Shared} {K : Frag}
end
end Att
namespace L2
open PySem PySem.Spec PyProof.Rows
theorem vals_ints : ∀ {vs : List Value} {ns : List Int}, IntsAre vs ns → Vals (ns.map V.int) vs
  | _, _, .nil => .nil
  | _, _, .cons n t h => .cons ⟨t, rfl⟩ (vals_ints h)
def Only (H : Hp) : Prop := ∀ b, H b = none ∨ ∃ o xs, H b = some (.frz o (.lst xs))
theorem law_call {P : Program} {w : World} {K : PySem.W.Frag} {mg mb : Str → Option Value} {CX : CXT} {k : Nat} {fa a : Addr} {fd : FuncData} {x : Str} {sp : Sp} {s₁ : Shared} {vs : List Value} {ns : List Int}
    (KX : K.In s₁.heap) (hns : s₁.heap.Ns mainGlobals mg) (hb : s₁.heap.Ns builtinsNs mb) (hbb : ∀ x : Str, x ≠ "__name__" → mb x = bootBuiltins x) (hlim : s₁.heap.NoLimit) (hg : s₁.gens = #[])
    (ha : s₁.heap.get? a = some { cls := .type "list", data := .seq vs.toArray }) (hi : IntsAre vs ns) (hl : ns.length ≤ sizeLine) (hr : Room k callerA)
    (F : ∀ base : Heap, K.In base → base.Ns mainGlobals mg → FnOk P w K mg base CX k fa fd [x] sp) (hbind : ∀ (s : Shared) (u : Value), BindsTo s fd ⟨[u], []⟩ [(x, u)])
    (hsp : ∀ H : Hp, Only H → SqL K H a (ns.map V.int) → sp [.ref a] H (fun v _ => v = .bl true) fun _ _ _ => False)
    (hCX : ∀ H e s', CX [] H s₁ (fun _ _ _ => False) e s' → False) :
    codeAny (model P w) callerA (.call (.ref fa) ⟨[.ref a], []⟩) (fun r s' => r = .ok (.ret (.bool true)) ∧ OldK s₁.heap s'.heap ∧ s'.os = s₁.os ∧ AllBare s'.gens) s₁ := by
  have rv := vals_ints hi
  have lenV := hi.length
  have core : ∀ H : Hp, Only H → SqL K H a (ns.map V.int) → HOk P w H s₁.heap → (∀ b, H b ≠ none → b = a) → (H a ≠ none → K.lookup a = none) →
      codeAny (model P w) callerA (.call (.ref fa) ⟨[.ref a], []⟩) (fun r s' => r = .ok (.ret (.bool true)) ∧ OldK s₁.heap s'.heap ∧ s'.os = s₁.os ∧ AllBare s'.gens) s₁ := by
    intro H hO hS hok hA hK
    have base_of : ∀ {b : Addr} {o : Obj}, s₁.heap.get? b = some o → H b = none → (hidT s₁.heap H).get? b = some o := fun e n => hidT_get e n
    have noA : ∀ {b : Addr} {o : Obj} {es : Array DictEntry} {ep : Nat}, s₁.heap.get? b = some o → o.data = .dict es ep → H b = none := fun {b o es ep} e d => by
      cases q : H b with
      | none => rfl
      | some u =>
        have e' : b = a := hA b (by rw [q]; simp)
        subst e'
        rw [ha] at e; cases e
        have d' : Data.seq vs.toArray _ = Data.dict es ep := d
        cases d'
    have nsK : ∀ {b : Addr} {m : Str → Option Value}, s₁.heap.Ns b m → (hidT s₁.heap H).Ns b m := fun {b m} ⟨o, es, ep, e, d, r⟩ => ⟨o, es, ep, base_of e (noA e d), d, r⟩
    have hKb : K.In (hidT s₁.heap H) := fun b o e => base_of (KX b o e) (by
      cases q : H b with
      | none => rfl
      | some u =>
        have e' : b = a := hA b (by rw [q]; simp)
        subst e'
        rw [hK (by rw [q]; simp)] at e; cases e)
    have hM : Mod K mg (hidT s₁.heap H) := ⟨hKb, nsK hns, ⟨mb, nsK hb, hbb⟩, let ⟨mc, h1, h2⟩ := hlim; ⟨mc, nsK h1, h2⟩⟩
    have e0 : Env0 P w K mg (hidT s₁.heap H) callerA [] s₁ H := ⟨rfl, hM, fun b o e => of_hidT e, Nat.le_of_eq (hidT_size _ _), trivial, fun b hb => absurd (show b ∈ ([] : List Addr) from hb) (by simp), hok, .of_eq hg⟩
    refine codeAny_mono ((F _ hKb (nsK hns)).run callerA [] s₁ H ⟨[.ref a], []⟩ [.ref a] [.ref a] _ _ hr e0 (hbind s₁ (.ref a)) (.cons rfl .nil) (hsp H hO hS)) fun r s' h => ?_
    cases r with
    | error e => exact (hCX H e s' h).elim
    | ok fl =>
      cases fl with
      | next => exact False.elim h
      | brk => exact False.elim h
      | cont => exact False.elim h
      | ret u =>
        obtain ⟨v, H', os, bare, un, hok', r', q⟩ := h
        have q' : v = .bl true := q
        subst q'
        obtain rfl : u = Value.bool true := r'
        refine ⟨rfl, OldK.of_keep fun b o e => ?_, os, bare⟩
        cases q : H b with
        | none => exact un.keep b o e q (by intro z; exact absurd (show b ∈ ([] : List Addr) from z) (by simp)) (by simp)
        | some u =>
          rcases hO b with z | ⟨ob, xs, z⟩
          · rw [q] at z; cases z
          · have z2 := un.frzs b ob _ z
            obtain ⟨e1, _⟩ := hok b _ z
            obtain ⟨e2, _⟩ := hok' b _ z2
            rw [e] at e1; cases e1
            exact e2
  cases hk : K.lookup a with
  | some o =>
    have e := KX a o hk
    rw [ha] at e
    cases e
    refine core (fun _ => none) (fun _ => .inl rfl) (.inr ⟨_, vs.toArray, _, hk, rfl, rfl, rfl, by rw [List.size_toArray, lenV]; exact hl, by simpa using rv⟩) (fun b u z => by have z' : (none : Option HO) = some u := z; cases z') (fun b z => absurd rfl z) fun z => absurd rfl z
  | none =>
    refine core (fun b => if b = a then some (.frz { cls := .type "list", data := .seq vs.toArray } (.lst (ns.map V.int))) else none) (fun b => ?_) (.inl (.inr ⟨{ cls := .type "list", data := .seq vs.toArray }, if_pos rfl⟩)) (fun b u z => ?_) (fun b z => ?_) fun _ => hk
    · by_cases hb : b = a
      · exact .inr ⟨_, _, if_pos hb⟩
      · exact .inl (if_neg hb)
    · by_cases hb : b = a
      · have z' := (if_pos hb).symm.trans z
        cases z'
        subst hb
        exact ⟨ha, by rw [List.length_map]; exact hl, vs, _, rv, ha⟩
      · have z' := (if_neg hb).symm.trans z
        cases z'
    · by_cases hb : b = a
      · exact hb
      · exact absurd (if_neg hb) z
end L2
namespace L2
open PySem PySem.Spec PyProof.Rows
abbrev KOf {K : PySem.W.Frag} {h : Heap} (_ : K.In h) : PySem.W.Frag := K
theorem walk_of {l : PySem.W.OpenLaw} {n k : Nat} {q : Program} {loose : List Str} {XP : (Str → Option Value) → Heap → Prop} {YP : World → Heap → Prop} {d : DefRec} {K : Params → PySem.W.Frag} {CX : World → CXT} {sp : World → Sp} {x : Str}
    (hn : l.most = some n) (hn2 : n ≤ sizeLine) (hdf : d.params.defaults = []) (hr : Room k callerA)
    (hY : ∀ (w : World) (h : Heap), YP w h → (K w.params).In h)
    (F : ∀ (w : World) (mg : Str → Option Value) (fa : Addr) (h : Heap), (K w.params).In h → h.Ns mainGlobals mg → mg d.name = some (.ref fa) →
      ∃ fd : FuncData, (∀ (s : Shared) (u : Value), BindsTo s fd ⟨[u], []⟩ [(x, u)]) ∧
        ∀ base : Heap, (K w.params).In base → base.Ns mainGlobals mg → FnOk l.prog w (K w.params) mg base (CX w) k fa fd [x] (sp w))
    (hsp : ∀ (w : World) (H : Hp) (a : Addr) (ns : List Int), ns.length ≤ n → Only H → SqL (K w.params) H a (ns.map V.int) → sp w [.ref a] H (fun v _ => v = .bl true) fun _ _ _ => False)
    (hCX : ∀ (w : World) (H : Hp) (s : Shared) (e : Value) (s' : Shared), CX w [] H s (fun _ _ _ => False) e s' → False) :
    PySem.W.WalkO q loose XP YP l.row.toRowW d [] (fun f vs => PySem.call f vs) := by
  refine Att.attach_call hn hdf fun w s₀ s₁ mg mb fa o pm cd doc a vs ns G Y ho hd hcd hmg hobj hints hlen hg => ?_
  have KX := hY w _ Y
  obtain ⟨fd, hb, hF⟩ := F w mg fa _ KX G.T.g hmg
  exact law_call KX G.T.g G.T.b G.T.builtins G.T.nolimit hg hobj hints (Nat.le_trans hlen hn2) hr hF hb (fun H hO hS => hsp w H a ns hlen hO hS) fun H e s' => hCX w H s₁ e s'
theorem walk_ofK {l : PySem.W.OpenLaw} {n k : Nat} {q : Program} {loose : List Str} {XP : (Str → Option Value) → Heap → Prop} {YP : World → Heap → Prop} {d : DefRec} {K : Params → PySem.W.Frag} {CX : CXT} {sp : PySem.W.Frag → Sp} {x : Str}
    (hn : l.most = some n) (hn2 : n ≤ sizeLine) (hdf : d.params.defaults = []) (hr : Room k callerA)
    (hY : ∀ (w : World) (h : Heap), YP w h → (K w.params).In h)
    (F : ∀ (w : World) (mg : Str → Option Value) (fa : Addr) (h : Heap), (K w.params).In h → h.Ns mainGlobals mg → mg d.name = some (.ref fa) →
      ∃ fd : FuncData, (∀ (s : Shared) (u : Value), BindsTo s fd ⟨[u], []⟩ [(x, u)]) ∧
        ∀ base : Heap, (K w.params).In base → base.Ns mainGlobals mg → FnOk l.prog w (K w.params) mg base CX k fa fd [x] (sp (K w.params)))
    (hsp : ∀ (K : PySem.W.Frag) (H : Hp) (a : Addr) (ns : List Int), ns.length ≤ n → Only H → SqL K H a (ns.map V.int) → sp K [.ref a] H (fun v _ => v = .bl true) fun _ _ _ => False)
    (hCX : ∀ (H : Hp) (s : Shared) (e : Value) (s' : Shared), CX [] H s (fun _ _ _ => False) e s' → False) :
    PySem.W.WalkO q loose XP YP l.row.toRowW d [] (fun f vs => PySem.call f vs) :=
  walk_of (K := K) (CX := fun _ => CX) (sp := fun w => sp (K w.params)) hn hn2 hdf hr hY F (fun w H a ns h1 h2 h3 => hsp (K w.params) H a ns h1 h2 h3) fun _ H s e s' => hCX H s e s'
end L2
namespace L2
open PySem PySem.Spec PyProof.Rows
def defArgs (s : Stmt) : Arguments := match s with
  | .FunctionDef _ a _ _ _ _ _ _ _ _ => a
  | _ => { posonlyargs := [], args := [], vararg := none, kwonlyargs := [], kw_defaults := [], kwarg := none, defaults := [] }
def defBody (s : Stmt) : List Stmt := match s with
  | .FunctionDef _ _ b _ _ _ _ _ _ _ => b
  | _ => []
def defScope (s : Stmt) : Scope := match s with
  | .FunctionDef _ _ _ _ _ _ sc _ _ _ => sc
  | _ => { kind := .function, names := [], isGenerator := false, isCoroutine := false }
abbrev CX0 : CXT := fun _ _ _ _ _ _ => False
abbrev E0 : XK := fun _ _ _ => False
theorem pass0 {X : Cx} : Passes CX0 X E0 := fun _ _ _ _ _ _ _ h => h.elim
structure Fun (K : PySem.W.Frag) (x qual : Str) (st : Stmt) (f : Addr) (fd : FuncData) : Prop where
  ex : ∃ (oc : Value) (od : Option Addr) (kV doc pm : Value) (an : Option Addr) (cdv ct : Value) (osl : Array (Option Value)),
    fd = PySem.W.fnOf x qual (defArgs st) (defBody st) (defScope st) .none kV doc pm an cdv ct ∧ K.lookup f = some ⟨oc, od, .func fd, osl⟩ ∧ PySem.W.codeIn K cdv qual = true
  kp : PySem.W.keepIn K (.ref f) = true
section
variable {P : Program} {w : World} {K : PySem.W.Frag} {mg : Str → Option Value} {base : Heap}
theorem Fun.ok {x qual : Str} {st : Stmt} {f : Addr} {fd : FuncData} {N ps : List Str} {k : Nat} {sp : Sp} (F : Fun K x qual st f fd) (S : FnScope N ps (defScope st)) (len : ∀ vs H Q E, sp vs H Q E → vs.length = ps.length)
    (hbody : ∀ (cdv : Value) (A : Around) (outer : List Env) (s : Shared) (H : Hp) (vs : List V) (Q : VK) (E : XK), Room k (A.deeper (envOfC qual (defScope st) s.heap.objs.size f cdv)) → sp vs H Q E →
      ∃ t, PSs (cxOf CX0 P w K mg base N qual (defScope st) f cdv A outer s H E).nox (defBody st) t ∧ t { nx := fun _ H' => Q .non H', rt := Q } (start N vs) H) : FnOk P w K mg base CX0 (k + 1) f fd ps sp := by
  obtain ⟨oc, od, kV, doc, pm, an, cdv, ct, osl, rfl, lk, hcd⟩ := F.ex
  refine fn_of lk hcd S len fun A outer s H vs Q E hr hsp => ?_
  obtain ⟨t, h, q⟩ := hbody cdv A outer s H vs Q E hr hsp
  exact ⟨t, h.nox, q⟩
theorem Fun.binds {x qual : Str} {st : Stmt} {f : Addr} {fd : FuncData} {ps : List Str} (F : Fun K x qual st f fd)
    (h : ∀ (kV doc pm : Value) (an : Option Addr) (cdv ct : Value) (us : List Value), us.length = ps.length → bindArgs (PySem.W.fnOf x qual (defArgs st) (defBody st) (defScope st) .none kV doc pm an cdv ct) ⟨us, []⟩ = pure (ps.zip us)) : Binds K fd ps [] := by
  obtain ⟨oc, od, kV, doc, pm, an, cdv, ct, osl, rfl, lk, hcd⟩ := F.ex
  exact .all (h kV doc pm an cdv ct)
theorem fun_mk {x qual : Str} {st : Stmt} {f : Addr} {oc : Value} {od an : Option Addr} {osl : Array (Option Value)} {kV doc pm cdv ct : Value} (l : K.lookup f = some ⟨oc, od, .func (PySem.W.fnOf x qual (defArgs st) (defBody st) (defScope st) .none kV doc pm an cdv ct), osl⟩)
    (c : PySem.W.codeIn K cdv qual = true) (k : PySem.W.keepIn K (.ref f) = true) : Fun K x qual st f (PySem.W.fnOf x qual (defArgs st) (defBody st) (defScope st) .none kV doc pm an cdv ct) := ⟨⟨oc, od, kV, doc, pm, an, cdv, ct, osl, rfl, l, c⟩, k⟩
end
theorem hu_of {A : Around} {k : Nat} (hr : Room k A) : A.units + 1 < cLine := Nat.lt_of_le_of_lt (Nat.add_le_add_left (by decide : 1 ≤ 64) _) hr.units
theorem small1000 {n : Nat} (h : n ≤ 1000) : n < sizeLine := Nat.lt_of_le_of_lt h (by decide)
section
variable {X : Cx}
theorem pv (i : Nat) {x : Str} {pos : Pos} (hN : X.N[i]? = some x := by rfl) (hv : Vis X.env.scope x := by first | exact Or.inl rfl | exact Or.inr (Or.inl rfl) | exact Or.inr (Or.inr rfl)) (hd : (x == ("__debug__" : Str)) = false := by decide)
    (hcd : (x == ("__classdict__" : Str)) = false := by decide) : PE X (.Name x pos) (tVar i) := pe_var hN hv hd hcd
end
theorem ite2 {c A B : Prop} [Decidable c] (h1 : c → A) (h2 : ¬ c → B) : if c then A else B := by
  by_cases h : c
  · rw [if_pos h]
    exact h1 h
  · rw [if_neg h]
    exact h2 h
def Same (H H' : Hp) : Prop := ∀ b o, H b = some o → H' b = some o
theorem Same.refl (H : Hp) : Same H H := fun _ _ h => h
theorem Same.trans {H H1 H2 : Hp} (a : Same H H1) (b : Same H1 H2) : Same H H2 := fun c o h => b c o (a c o h)
theorem Same.free {H H' : Hp} (e : Same H H') {l : Addr} (h : H' l = Option.none) : H l = Option.none := by
  cases q : H l with
  | none => rfl
  | some o =>
    rw [e l o q] at h
    cases h
theorem Same.seq {K : PySem.W.Frag} {H H' : Hp} {a : Addr} {xs : List V} (e : Same H H') (h : SqL K H a xs) : SqL K H' a xs := by
  rcases h with (h | ⟨o, h⟩) | h
  · exact .inl (.inl (e _ _ h))
  · exact .inl (.inr ⟨o, e _ _ h⟩)
  · exact .inr h
section
variable {κ : Type} [DecidableEq κ]
end
end L2
set_option Elab.async false
set_option linter.all false
set_option maxRecDepth 100000
namespace L2
open PySem PySem.Spec PyProof.Rows
def closIn (cells : List (Str × Addr)) : List (Str × NameKind) → List (Str × Addr) → List (Str × Addr)
  | [], cs => cs
  | (n, k) :: r, cs => closIn cells r (if k == .free then (match cells.lookup n with | some c => (n, c) :: cs | none => cs) else cs)
def closOf (scope : Scope) (env : Env) : List (Str × Addr) := closIn env.cells scope.names []
theorem closIn_run (env : Env) : ∀ (names : List (Str × NameKind)) (cs : List (Str × Addr)), (∀ x ∈ names, x.2 = .free → ∃ c, env.cells.lookup x.1 = some c) →
    (forIn names cs fun (x : Str × NameKind) (r : List (Str × Addr)) => (if (x.2 == .free) = true then (do let a ← cellOf env x.1; pure (ForInStep.yield ((x.1, a) :: r))) else pure (ForInStep.yield r) : Sem (ForInStep (List (Str × Addr))))) = pure (closIn env.cells names cs) := by
  intro names
  induction names with
  | nil => intro cs _; rfl
  | cons x r ih =>
    intro cs h
    obtain ⟨n, k⟩ := x
    rw [List.forIn_cons]
    have hr : ∀ y ∈ r, y.2 = .free → ∃ c, env.cells.lookup y.1 = some c := fun y hy => h y (List.mem_cons_of_mem _ hy)
    unfold closIn
    by_cases hk : k = .free
    · subst hk
      obtain ⟨c, hc⟩ := h (n, .free) List.mem_cons_self rfl
      have e : cellOf env n = pure c := by unfold cellOf; rw [hc]
      rw [if_pos (show (NameKind.free == NameKind.free) = true from rfl), if_pos (show (NameKind.free == NameKind.free) = true from rfl), hc]
      show (cellOf env n >>= fun a => _) >>= _ = _
      rw [e]
      exact ih _ hr
    · have hb : (k == NameKind.free) = false := by simpa using hk
      rw [if_neg (show ¬ (k == NameKind.free) = true by rw [hb]; exact Bool.false_ne_true), if_neg (show ¬ (k == NameKind.free) = true by rw [hb]; exact Bool.false_ne_true)]
      exact ih _ hr
theorem closureFor_of {scope : Scope} {env : Env} (h : ∀ x ∈ scope.names, x.2 = .free → ∃ c, env.cells.lookup x.1 = some c) : closureFor scope env = pure (closOf scope env) := by
  have run := closIn_run env scope.names [] h
  unfold closureFor closOf
  have e : (forIn scope.names ([] : List (Str × Addr)) fun (x : Str × NameKind) (r : List (Str × Addr)) => (match x with
      | (name, kind) => if (kind == NameKind.free) = true then (do let a ← cellOf env name; pure (ForInStep.yield ((name, a) :: r))) else pure (ForInStep.yield r) : Sem (ForInStep (List (Str × Addr))))) = pure (closIn env.cells scope.names []) := run
  show (forIn scope.names ([] : List (Str × Addr)) _ >>= fun cs => pure cs) = _
  exact (congrArg (fun m : Sem (List (Str × Addr)) => m >>= fun cs => pure cs) e)
theorem closIn_old (cells : List (Str × Addr)) : ∀ (names : List (Str × NameKind)) (cs : List (Str × Addr)), (∀ p ∈ cs, cells.lookup p.1 = some p.2) → ∀ p ∈ closIn cells names cs, cells.lookup p.1 = some p.2
  | [], cs, h => h
  | (n, k) :: r, cs, h => by
    unfold closIn
    refine closIn_old cells r _ fun p hp => ?_
    by_cases hk : (k == NameKind.free) = true
    · rw [if_pos hk] at hp
      cases e : cells.lookup n with
      | none => rw [e] at hp; exact h p hp
      | some c =>
        rw [e] at hp
        rcases List.mem_cons.mp hp with rfl | hp
        · exact e
        · exact h p hp
    · rw [if_neg hk] at hp
      exact h p hp
theorem closOf_old {scope : Scope} {env : Env} {x : Str} {c : Addr} (h : (closOf scope env).lookup x = some c) : env.cells.lookup x = some c :=
  closIn_old env.cells scope.names [] (fun _ z => nomatch z) (x, c) (PySem.mem_of_lookup h)
theorem lookup_isSome_of_mem {cs : List (Str × Addr)} {x : Str} {c : Addr} (h : (x, c) ∈ cs) : ∃ d, cs.lookup x = some d := by
  induction cs with
  | nil => cases h
  | cons p r ih =>
    obtain ⟨y, d⟩ := p
    by_cases e : x == y
    · exact ⟨d, by rw [List.lookup_cons, e]⟩
    · rcases List.mem_cons.mp h with z | z
      · cases z; simp at e
      · obtain ⟨d', q⟩ := ih z
        exact ⟨d', by simp only [Bool.not_eq_true] at e; rw [List.lookup_cons, e]; exact q⟩
theorem closIn_mono (cells : List (Str × Addr)) : ∀ (names : List (Str × NameKind)) (cs : List (Str × Addr)) (p : Str × Addr), p ∈ cs → p ∈ closIn cells names cs
  | [], _, _, h => h
  | (n, k) :: r, cs, p, h => by
    unfold closIn
    refine closIn_mono cells r _ p ?_
    split
    · split
      · exact List.mem_cons_of_mem _ h
      · exact h
    · exact h
theorem closIn_new (cells : List (Str × Addr)) {x : Str} {c : Addr} (hc : cells.lookup x = some c) : ∀ (names : List (Str × NameKind)) (cs : List (Str × Addr)), (x, NameKind.free) ∈ names → (x, c) ∈ closIn cells names cs
  | [], _, h => nomatch h
  | (n, k) :: r, cs, h => by
    unfold closIn
    rcases List.mem_cons.mp h with z | z
    · cases z
      refine closIn_mono cells r _ _ ?_
      rw [if_pos (show (NameKind.free == NameKind.free) = true from rfl), hc]
      exact List.mem_cons_self
    · exact closIn_new cells hc r _ z
theorem closOf_new {scope : Scope} {env : Env} {x : Str} {c : Addr} (h : (x, NameKind.free) ∈ scope.names) (hc : env.cells.lookup x = some c) : (closOf scope env).lookup x = some c := by
  obtain ⟨d, e⟩ := lookup_isSome_of_mem (closIn_new env.cells hc scope.names [] h)
  have e' : (closOf scope env).lookup x = some d := e
  rw [e', ← closOf_old e', hc]
def blk (X : Cx) (scope : Scope) (N : List Str) (s : Shared) (H : Hp) (C : Addr) (fp : List Addr) : Cx where
  prog := X.prog
  w := X.w
  K := X.K
  mg := X.mg
  base := X.base
  A := X.A
  N := N
  s₀ := s
  H₀ := H
  env := compEnvC scope (closOf scope X.env) C X.env
  outer := X.stack
  stack := X.stack
  ex := fp
  fn := fun _ => false
  calm := X.calm
  pn := []
  xe := fun _ _ => False
def capt (σ : St) (js : List Nat) : St := js.map fun j => (σ[j]?).getD none
def capN (N : List Str) (js : List Nat) : List Str := js.map fun j => (N[j]?).getD ""
def bst (n : Nat) (σ : St) (js : List Nat) : St := List.replicate n none ++ capt σ js
theorem bst_len {n : Nat} {σ : St} {js : List Nat} : (bst n σ js).length = n + js.length := by unfold bst capt; simp
end L2
set_option Elab.async false
set_option linter.all false
set_option maxRecDepth 100000
namespace L2
open PySem PySem.Spec PyProof.Rows
section
variable {P : Program} {w : World} {A : Around} {R : Result → Shared → Prop} {s : Shared}
theorem compLoop_by {elt tg iter : Expr} {ifs : List Expr} {scope : Scope} {pos : Pos} {it acc : Value} {env : Env} (J : Nat → Shared → Prop)
    (turn : ∀ n s, J n s → wpAny (model P w) A (pyNext it) (fun r s1 => match r with
      | none => R (.ok .next) s1
      | some v => wpAny (model P w) A (letOwnedTupleGo tg it v) (fun _ s2 => wpAny (model P w) A (assign tg env v) (fun _ s3 =>
          wpAny (model P w) A (forIn ifs true fun c r => if r = true then do let ok ← isTrue c env (eval c env); pure (ForInStep.yield ok) else pure (ForInStep.yield r)) (fun ok s4 =>
            if ok = true then wpAny (model P w) A (eval elt env) (fun x s5 => wpAny (model P w) A (call (.builtin "list.append") [acc, x]) (fun _ s6 => ∃ m, m < n ∧ J m s6) (fun _ _ => False) s5) (fun _ _ => False) s4
            else ∃ m, m < n ∧ J m s4) (fun _ _ => False) s3) (fun _ _ => False) s2) (fun _ _ => False) s1) (fun _ _ => False) s)
    (n : Nat) (h : J n s) : codeAny (model P w) A (.compLoop (.ListComp elt [⟨tg, iter, ifs, 0⟩] scope pos) 0 it acc env) R s := by
  have no : ∀ {α : Type} {t : Sem α} {Q Q' : α → Shared → Prop} {E : Value → Shared → Prop} {s : Shared}, wpAny (model P w) A t Q (fun _ _ => False) s → (∀ a s, Q a s → Q' a s) → wpAny (model P w) A t Q' E s :=
    fun h hq => wpAny_mono h hq fun _ _ f => f.elim
  refine codeAny_loop rfl J (fun n s hJ => ?_) n h
  show wpAny _ A ((compTurn (.ListComp elt [⟨tg, iter, ifs, 0⟩] scope pos) 0 it acc env).onRaise (fun x => do noteFrame x env; theTreesLotGoes x)) _ _ s
  refine wpAny_noted ?_
  rw [compTurn_list]
  refine wpAny_bind (wpAny_standAt (wpAny_bind (no (turn n s hJ) fun r s1 h1 => ?_)))
  cases r with
  | none => exact wpAny_pure h1
  | some v =>
    refine wpAny_bind (no h1 fun _ s2 h2 => wpAny_bind (no h2 fun _ s3 h3 => wpAny_bind (no h3 fun ok s4 h4 => ?_)))
    cases ok with
    | false => exact wpAny_pure ⟨rfl, h4⟩
    | true => exact wpAny_bind (wpAny_bind (no h4 fun x s5 h5 => wpAny_bind (no h5 fun _ s6 h6 => wpAny_pure (wpAny_pure ⟨rfl, h6⟩))))
end
def PTs (X : Cx) (ifs : List Expr) (t : TT) : Prop :=
  ∀ (pins : List (Addr × Obj)) (s : Shared) (σ : St) (H : Hp) (Q : Bool → Hp → Prop), Inv X pins σ H s → t σ H Q →
    wpAny (model X.prog X.w) X.A (forIn ifs true fun c r => if r = true then do let ok ← isTrue c X.env (eval c X.env); pure (ForInStep.yield ok) else pure (ForInStep.yield r)) (TP X pins σ Q) X.xe s
def tAll : TT := fun _ H Q => Q true H
theorem pts_nil {X : Cx} : PTs X [] tAll := fun _ _ _ H _ I h => wpAny_tests_nil ⟨H, I, h⟩
def CompW (J : It) (n : Nat) (js : List Nat) (g : TG) (tc : TT) (te : TE) (Q : VK) (σ : St) (H1 : Hp) : Prop := ∃ W : Nat → Nat → List V → Hp → Prop, (∃ m, W 0 m [] H1) ∧ ∀ i m ys H, W i m ys H →
  (J.stop i H ∧ ys.length ≤ sizeLine ∧ ∀ l, H l = none → Q (.ref l) (upd H l (.lst ys))) ∨
  (J.go i H ∧ ys.length < sizeLine ∧ ∃ N : List V → Hp → Prop, (∀ zs H', N zs H' → ∃ m', m' < m ∧ W (i + 1) m' zs H') ∧ ∀ x H', J.yld i H x H' → g x (bst n σ js) H' fun σ2 H2 => σ2.drop n = capt σ js ∧ tc σ2 H2 fun b H3 =>
    if b = true then te σ2 H3 fun v H4 => N (ys ++ [v]) H4 else N ys H3)
def tComp (n : Nat) (js : List Nat) (wi : TI) (g : TG) (tc : TT) (te : TE) : TE := fun σ H Q => wi σ H fun J H1 => CompW J n js g tc te Q σ H1
section
variable {X : Cx}
structure Blk (X : Cx) (scope : Scope) (own : List Str) (js : List Nat) : Prop where
  kind : scope.kind = .function
  nocell : ∀ y ∈ scope.names, y.2 ≠ .cell
  names : ∀ y ∈ scope.names, y.2 = .local → scope.names.lookup y.1 = some .local
  free : ∀ y ∈ scope.names, y.2 = .free → X.env.kindOf y.1 = some .cell ∨ X.env.kindOf y.1 = some .free
  uniq : ∀ x, (x, NameKind.free) ∈ scope.names → scope.names.lookup x = some .free
  nd : (own ++ capN X.N js).Nodup
  cap : ∀ j ∈ js, j < X.N.length ∧ ((X.N[j]?).getD "", NameKind.free) ∈ scope.names
def blkB (sc : Scope) (N : List Str) (scope : Scope) (own : List Str) (js : List Nat) : Bool :=
  scope.kind == .function && scope.names.all (fun y => y.2 != .cell) && scope.names.all (fun y => y.2 != .local || scope.names.lookup y.1 == some .local) &&
  scope.names.all (fun y => y.2 != .free || sc.names.lookup y.1 == some .cell || sc.names.lookup y.1 == some .free) && scope.names.all (fun y => y.2 != .free || scope.names.lookup y.1 == some .free) &&
  decide (own ++ capN N js).Nodup && js.all (fun j => decide (j < N.length) && scope.names.any fun y => y.1 == (N[j]?).getD "" && y.2 == .free)
theorem Blk.of {scope : Scope} {own : List Str} {js : List Nat} (sc : Scope) (N : List Str) (h : blkB sc N scope own js = true := by decide +kernel) (e1 : X.env.scope = sc := by rfl) (e2 : X.N = N := by rfl) : Blk X scope own js := by
  subst e1 e2
  unfold blkB at h
  simp only [Bool.and_eq_true, List.all_eq_true, decide_eq_true_eq, beq_iff_eq] at h
  obtain ⟨⟨⟨⟨⟨⟨h1, h2⟩, h3⟩, h4⟩, h5⟩, h6⟩, h7⟩ := h
  refine ⟨h1, fun y hy => by simpa using h2 y hy, fun y hy e => ?_, fun y hy e => ?_, fun x hx => ?_, h6, fun j hj => ?_⟩
  · have := h3 y hy
    simpa [e] using this
  · have := h4 y hy
    simp only [e, bne_self_eq_false, Bool.false_or, Bool.or_eq_true, beq_iff_eq] at this
    exact this
  · have := h5 _ hx
    simpa using this
  · obtain ⟨a, b⟩ := h7 j hj
    refine ⟨a, ?_⟩
    obtain ⟨y, hy, e⟩ := List.any_eq_true.mp b
    simp only [Bool.and_eq_true, beq_iff_eq] at e
    obtain ⟨e1, e2⟩ := e
    rw [← e1, ← e2]
    exact hy
theorem lookup_relabel {env : Env} : ∀ {names : List (Str × NameKind)} {x : Str} {k : NameKind},
    (names.map fun (n, k) => if (k == NameKind.free && env.scope.kind == .function && env.kindOf n == some .cell) then (n, NameKind.cell) else (n, k)).lookup x = some k → names.lookup x = some k ∨ (k = .cell ∧ names.lookup x = some .free)
  | [], _, _, h => by simp at h
  | (n, q) :: r, x, k, h => by
    have ih := @lookup_relabel env r x k
    cases hx : x == n with
    | true =>
      by_cases hc : (q == NameKind.free && env.scope.kind == .function && env.kindOf n == some .cell) = true
      · simp only [List.map_cons, if_pos hc, List.lookup_cons, hx] at h
        cases h
        simp only [Bool.and_eq_true, beq_iff_eq] at hc
        obtain ⟨⟨hq, _⟩, _⟩ := hc
        subst hq
        exact .inr ⟨rfl, by rw [List.lookup_cons, hx]⟩
      · simp only [List.map_cons, if_neg hc, List.lookup_cons, hx] at h
        cases h
        exact .inl (by rw [List.lookup_cons, hx])
    | false =>
      have h' : (r.map fun (n, k) => if (k == NameKind.free && env.scope.kind == .function && env.kindOf n == some .cell) then (n, NameKind.cell) else (n, k)).lookup x = some k := by
        by_cases hc : (q == NameKind.free && env.scope.kind == .function && env.kindOf n == some .cell) = true
        · simp only [List.map_cons, if_pos hc, List.lookup_cons, hx] at h
          exact h
        · simp only [List.map_cons, if_neg hc, List.lookup_cons, hx] at h
          exact h
      rcases ih h' with z | ⟨z, z'⟩
      · exact .inl (by rw [List.lookup_cons, hx]; exact z)
      · exact .inr ⟨z, by rw [List.lookup_cons, hx]; exact z'⟩
theorem blk_inv {scope : Scope} {own : List Str} {js : List Nat} {pins : List (Addr × Obj)} {σ : St} {H : Hp} {s : Shared} {fp : List Addr} {C : Addr} {h1 : Heap} {tk : Nat} (B : Blk X scope own js) (I : Inv X pins σ H s)
    (hfp : ∀ b ∈ fp, FpOk X pins H b) (hfo : ∀ b ∈ fp, ∃ o, s.heap.get? b = some o) (hC : s.heap.objs.size ≤ C) (hns : h1.Ns C fun _ => none) (hk : ∀ b o, s.heap.get? b = some o → h1.get? b = some o) :
    Inv (blk X scope (own ++ capN X.N js) s H C fp) [] (bst own.length σ js) H { s with heap := h1, toks := tk } := by
  have kindC : ∀ x, (blk X scope (own ++ capN X.N js) s H C fp).env.kindOf x = some .cell ∨ (blk X scope (own ++ capN X.N js) s H C fp).env.kindOf x = some .free → (x, NameKind.free) ∈ scope.names := fun x hx => by
    have hx' : (relabel scope X.env).names.lookup x = some .cell ∨ (relabel scope X.env).names.lookup x = some .free := hx
    rcases hx' with z | z
    · rcases lookup_relabel z with q | ⟨_, q⟩
      · exact absurd rfl (B.nocell _ (PySem.mem_of_lookup q))
      · exact PySem.mem_of_lookup q
    · rcases lookup_relabel z with q | ⟨_, q⟩
      · exact PySem.mem_of_lookup q
      · exact PySem.mem_of_lookup q
  have has : ∀ x, (x, NameKind.free) ∈ scope.names → ∃ c, X.env.cells.lookup x = some c := fun x hx => I.ok.has x (B.free (x, .free) hx rfl)
  have old : ∀ {x c}, (closOf scope X.env).lookup x = some c → X.env.cells.lookup x = some c := fun e => closOf_old e
  have cellLt : ∀ {x c}, X.env.cells.lookup x = some c → c < s.heap.objs.size := fun {x c} e => by
    obtain ⟨v, o, ho, _⟩ := I.cell x c e
    exact Heap.lt_size ho
  have fpLt : ∀ b ∈ fp, b < s.heap.objs.size := fun b hb => let ⟨_, e⟩ := hfo b hb; Heap.lt_size e
  have fsOk : ∀ b ∈ frs X.stack, b ∈ X.env.locals :: X.fs := I.stkSub
  refine ⟨⟨I.ok.mod, ?_, I.ok.glob, I.ok.blt, hC, fun x y c e1 e2 => I.ok.inj x y c (old e1) (old e2), fun x hx => ?_, fun x c z _ => absurd z Bool.false_ne_true, I.ok.hd, I.ok.frames, .inl rfl, fun b hb => ⟨?_, fun x c e => ?_⟩, I.bs, Nat.le_trans I.ok.bsz I.sz,
      fun b o e hb => ?_, fun b hb hf => ?_, I.stack, I.stkFree⟩, rfl, I.bare, Un.kept hk, ⟨_, hns, fun i x v e1 e2 e3 => ?_⟩, fun x c e => ?_, ?_, fun x c e => I.freeC x c (old e), fun p hp => absurd hp (by show p ∉ [] ++ []; simp), I.hok.kept hk, ?_⟩
  · show (relabel scope X.env).kind = .function
    exact B.kind
  · obtain ⟨c, e⟩ := has x (kindC x hx)
    exact ⟨c, closOf_new (kindC x hx) e⟩
  · exact Nat.ne_of_lt (Nat.lt_of_lt_of_le (fpLt b hb) hC)
  · exact (hfp b hb).2.2.2.2.1 x c (old e)
  · have e1 := I.bs b o e
    obtain ⟨f0, f1, f2, f3, f4, f5⟩ := hfp b hb
    rcases f3 with z | z
    · exact I.ok.noex b o e z
    · exact absurd (Nat.lt_of_lt_of_le (Heap.lt_size (I.ok.bs b o e).1) z) (Nat.lt_irrefl _)
  · obtain ⟨f0, f1, f2, f3, f4, f5⟩ := hfp b hb
    rcases List.mem_cons.mp (fsOk b hf) with z | z
    · exact f1 z
    · exact f2 z
  · -- a captured name's value
    have hi : own.length ≤ i := by
      rcases Nat.lt_or_ge i own.length with z | z
      · exfalso
        have e2' : (List.replicate own.length (none : Option V) ++ capt σ js)[i]? = some (some v) := e2
        rw [List.getElem?_append_left (by simpa using z), List.getElem?_replicate] at e2'
        split at e2' <;> cases e2'
      · exact z
    have e1' : (own ++ capN X.N js)[i]? = some x := e1
    have e2' : (List.replicate own.length (none : Option V) ++ capt σ js)[i]? = some (some v) := e2
    rw [List.getElem?_append_right hi] at e1'
    rw [List.getElem?_append_right (by simpa using hi), List.length_replicate] at e2'
    unfold capN at e1'
    unfold capt at e2'
    rw [List.getElem?_map] at e1' e2'
    cases ej : js[i - own.length]? with
    | none => rw [ej] at e1'; cases e1'
    | some j =>
      rw [ej] at e1' e2'
      have e1'' : (X.N[j]?).getD "" = x := Option.some.inj e1'
      have e2'' : (σ[j]?).getD none = some v := Option.some.inj e2'
      obtain ⟨hj, hm⟩ := B.cap j (List.mem_of_getElem? ej)
      have eN : X.N[j]? = some x := by
        rw [List.getElem?_eq_getElem hj] at e1'' ⊢
        exact congrArg some e1''
      have eS : σ[j]? = some (some v) := by
        cases q : σ[j]? with
        | none => rw [q] at e2''; cases e2''
        | some u => rw [q] at e2''; exact congrArg some e2''
      rw [e1''] at hm
      obtain ⟨m, _, hl⟩ := I.loc
      have hv : Vis X.env.scope x := by
        rcases B.free (x, .free) hm rfl with z | z
        · exact .inr (.inl z)
        · exact .inr (.inr z)
      obtain ⟨u, r, l⟩ := hl j x v eN eS hv
      obtain ⟨c, hc⟩ := has x hm
      refine ⟨u, r, .inr ⟨?_, c, closOf_new hm hc, ?_⟩⟩
      · rcases e3 with z | z | z
        · exfalso
          have z' : (relabel scope X.env).names.lookup x = some .local := z
          rcases lookup_relabel z' with q | ⟨q, _⟩
          · rw [B.uniq x hm] at q
            cases q
          · cases q
        · exact .inl z
        · exact .inr z
      · rcases l with ⟨k1, _⟩ | ⟨k2, c2, e2, ic⟩
        · rcases B.free (x, .free) hm rfl with t | t <;> (rw [k1] at t; cases t)
        · rw [hc] at e2; cases e2
          obtain ⟨o, ho, hd⟩ := ic
          exact ⟨o, hk c o ho, hd⟩
  · obtain ⟨v, o, ho, hd⟩ := I.cell x c (old e)
    exact ⟨v, o, hk c o ho, hd⟩
  · exact I.hok.fresh hC
  · rw [bst_len]
    show _ = (own ++ capN X.N js).length
    unfold capN
    simp
end
end L2
set_option Elab.async false
set_option linter.all false
set_option maxRecDepth 100000
namespace L2
open PySem PySem.Spec PyProof.Rows
section
variable {X : Cx}
theorem Inv.young {pins : List (Addr × Obj)} {σ : St} {H : Hp} {s : Shared} {h' : Heap} {c : Addr} (I : Inv X pins σ H s) (hs : Heap.SameBut c s.heap h') (hn : H c = none) (h1 : X.s₀.heap.objs.size ≤ c) (hL : c ≠ X.env.locals)
    (h2 : ∀ x d, X.env.cells.lookup x = some d → d ≠ c) (h3 : ∀ p ∈ X.pn ++ pins, p.1 ≠ c) : Inv X pins σ H { s with heap := h' } :=
  I.turned (t' := s.toks) (fun b o hb e => (hs.2 b hb).trans e) hn hL (.inr h1) h2 h3
theorem Inv.track {pins : List (Addr × Obj)} {σ : St} {H : Hp} {s : Shared} {D : Addr} {ys : List V} {its : List Value} {n : Nat} (I : Inv X pins σ H s) (hn : H D = none) (h1 : X.s₀.heap.objs.size ≤ D) (hL : D ≠ X.env.locals)
    (h2 : ∀ x d, X.env.cells.lookup x = some d → d ≠ D) (h3 : ∀ p ∈ X.pn ++ pins, p.1 ≠ D) (hz : ys.length ≤ sizeLine) (r : Vals ys its) (e : s.heap.get? D = some { cls := .type "list", data := .seq its.toArray n }) :
    Inv X pins σ (upd H D (.lst ys)) s := by
  have ne : ∀ {b u}, H b = some u → b ≠ D := fun {b u} q => ne_of_none q hn
  refine ⟨I.ok, I.os, I.bare, ⟨I.base.keep, I.base.slot, fun b o q z hx => ?_, I.base.there, fun b xs q => ?_, fun b o u q => ?_, fun b ps q => ?_⟩, I.loc, I.cell, ?_, fun x c q => ?_, fun p hp => ?_, fun b o q => ?_, I.len⟩
  · rw [upd_ne (Nat.ne_of_lt (Nat.lt_of_lt_of_le (Heap.lt_size q) h1))]
    exact I.base.free b o q z hx
  · have q' := I.base.tups b xs q
    rw [upd_ne (ne q')]; exact q'
  · have q' := I.base.frzs b o u q
    rw [upd_ne (ne q')]; exact q'
  · obtain ⟨more, q'⟩ := I.base.tbls b ps q
    exact ⟨more, by rw [upd_ne (ne q')]; exact q'⟩
  · rw [upd_ne (Ne.symm hL)]; exact I.free
  · rw [upd_ne (h2 x c q)]; exact I.freeC x c q
  · obtain ⟨a1, a2, a3⟩ := I.pin p hp
    exact ⟨a1, by rw [upd_ne (h3 p hp)]; exact a2, a3⟩
  · by_cases hb : b = D
    · subst hb
      rw [upd_same] at q
      cases q
      exact ⟨hz, its, n, r, e⟩
    · rw [upd_ne hb] at q
      refine (I.hok b o q).stay (fun _ _ _ z => z) (fun c z => ?_) fun c xs z => ?_
      · rw [upd_ne (ne z)]; exact z
      · rw [upd_ne (ne z)]; exact z
def Behind (X : Cx) (pins : List (Addr × Obj)) (σ : St) (Q : VK) (C : Addr) (acc : Value) (s' : Shared) : Prop :=
  ∃ (D : Addr) (H : Hp) (m : Str → Option Value), acc = .ref D ∧ s'.heap.Ns C m ∧ Inv X pins σ H s' ∧ H C = none ∧ X.s₀.heap.objs.size ≤ C ∧ C ≠ X.env.locals ∧ (∀ x d, X.env.cells.lookup x = some d → d ≠ C) ∧ (∀ p ∈ X.pn ++ pins, p.1 ≠ C) ∧ Q (.ref D) H
theorem comp_block {elt tg iter : Expr} {ifs : List Expr} {scope : Scope} {pos : Pos} {own : List Str} {js : List Nat} {g : TG} {tc : TT} {te : TE} {Q : VK} {pins : List (Addr × Obj)} {σ : St} {s2 : Shared} {itv : Value} {E : Value → Shared → Prop}
    {RR : Value → Addr → Result → Shared → Prop} (hc : X.calm = true) (B : Blk X scope own js) (hg : ∀ s H C fp, (own ++ capN X.N js).Nodup → PG (blk X scope (own ++ capN X.N js) s H C fp) tg g) (ht : ∀ s H C fp, PTs (blk X scope (own ++ capN X.N js) s H C fp) ifs tc)
    (he : ∀ s H C fp, PE (blk X scope (own ++ capN X.N js) s H C fp) elt te)
    (h : PIE X pins σ tg (fun J H1 => CompW J own.length js g tc te Q σ H1) itv s2)
    (hR : ∀ C acc s', Behind X pins σ Q C acc s' → RR acc C (.ok .next) s') :
    wpAny (model X.prog X.w) X.A (newList []) (fun acc s3 => wpAny (model X.prog X.w) X.A (newFunctionEnv scope X.env.globals (closOf scope X.env) [] X.env.qual none .none (some X.env)) (fun cenv s4 =>
      codeAny (model X.prog X.w) X.A (.compStart (.ListComp elt [⟨tg, iter, ifs, 0⟩] scope pos) 0 itv acc { cenv with scope := relabel scope X.env }) (RR acc cenv.locals) s4) E s3) E s2 := by
  obtain ⟨it, fp, tn, J, H2, rfl, I2, T, st2, f2, W, ⟨m0, w0⟩, turn⟩ := h
  refine wpAny_newObj_type (wpAny_newFunctionEnv B.nocell (by intro y hy; simp at hy) (fun h1 hns1 hsb1 => ?_) B.kind)
  generalize hPu : s2.heap.push { cls := .type "list", dict := none, data := .seq ([] : List Value).toArray } = Pu at hns1 hsb1 ⊢
  dsimp only at hns1 hsb1 ⊢
  have hDC : Pu.objs.size = s2.heap.objs.size + 1 := by rw [← hPu, Heap.size_push]
  generalize hD : s2.heap.objs.size = D at hDC ⊢
  have gD : Pu.get? D = some { cls := .type "list", dict := none, data := .seq ([] : List Value).toArray } := by
    rw [← hPu, ← hD]; exact Heap.get?_push_size _ rfl
  generalize hC : Pu.objs.size = C at hns1 hsb1 hDC ⊢
  have ltDC : D < C := by rw [hDC]; exact Nat.lt_succ_self D
  have neDC : D ≠ C := Nat.ne_of_lt ltDC
  have keep1 : ∀ b o, s2.heap.get? b = some o → h1.get? b = some o := fun b o e => by
    have hb : b < D := by rw [← hD]; exact Heap.lt_size e
    have hb2 : b ≠ C := Nat.ne_of_lt (Nat.lt_trans hb ltDC)
    refine (hsb1.2 b hb2).trans (Heap.get?_push_of_some _ ?_)
    rw [← hPu]
    exact Heap.get?_push_of_some _ e
  have gD1 : h1.get? D = some { cls := .type "list", dict := none, data := .seq ([] : List Value).toArray } := (hsb1.2 D neDC).trans (Heap.get?_push_of_some _ gD)
  have szD : s2.heap.objs.size ≤ D := Nat.le_of_eq hD
  have szC : s2.heap.objs.size ≤ C := Nat.le_trans szD (Nat.le_of_lt ltDC)
  have old : ∀ {b : Addr}, b < s2.heap.objs.size → b ≠ D ∧ b ≠ C := fun hb => ⟨Nat.ne_of_lt (Nat.lt_of_lt_of_le hb szD), Nat.ne_of_lt (Nat.lt_of_lt_of_le hb szC)⟩
  have fpo : ∀ b ∈ fp, ∃ o, s2.heap.get? b = some o := fun b hb => let ⟨o, e, _⟩ := T.obj 0 _ st2 b hb; ⟨o, e⟩
  have fpD : ∀ b ∈ fp, b ≠ D ∧ b ≠ C := fun b hb => by
    obtain ⟨o, e⟩ := fpo b hb
    exact old (Heap.lt_size e)
  have clD : ∀ x d, X.env.cells.lookup x = some d → d ≠ D ∧ d ≠ C := fun x d e => by
    obtain ⟨v, o, ho, _⟩ := I2.cell x d e
    exact old (Heap.lt_size ho)
  have pinD : ∀ p ∈ X.pn ++ pins, p.1 ≠ D ∧ p.1 ≠ C := fun p hp => by
    exact old (Heap.lt_size (I2.pin p hp).1)
  have locD : D ≠ X.env.locals ∧ C ≠ X.env.locals := by
    exact ⟨(old I2.lt).1.symm, (old I2.lt).2.symm⟩
  let Y := blk X scope (own ++ capN X.N js) s2 H2 C fp
  have IB : Inv Y [] (bst own.length σ js) H2 { s2 with heap := h1, toks := s2.toks + ([] : List (Str × Value)).length } := blk_inv B I2 f2 fpo szC hns1 keep1
  have fpB : ∀ {H' : Hp} {pl : List (Addr × Obj)}, (∀ b ∈ fp, H' b = none) → (∀ p ∈ pl, p.1 = D) → ∀ b ∈ fp, FpOk Y pl H' b := fun {H' pl} hn hp b hb => by
    obtain ⟨f0, f1, f3, f4, f5, f6⟩ := f2 b hb
    refine ⟨hn b hb, (fpD b hb).2, fun z => ?_, .inl hb, fun x c e => f5 x c (closOf_old e), fun p q => ?_⟩
    · rcases List.mem_cons.mp (I2.stkSub b z) with z | z
      · exact f1 z
      · exact f3 z
    · have q' : p ∈ pl := by simpa [Y, blk] using q
      rw [hp p q']
      exact (fpD b hb).1.symm
  have clB : ∀ x d, Y.env.cells.lookup x = some d → d ≠ D := fun x d e => (clD x d (closOf_old e)).1
  have notFs : D ∉ Y.fs := fun z => by
    obtain ⟨_, o, ho, _⟩ := IB.ok.funs.mem z
    exact (old (Heap.lt_size (show s2.heap.get? D = some o from ho))).1 rfl
  have loop : ∀ s3 : Shared, s3 = { s2 with heap := h1, toks := s2.toks + ([] : List (Str × Value)).length } →
      codeAny (model X.prog X.w) X.A (.compLoop (.ListComp elt [⟨tg, iter, ifs, 0⟩] scope pos) 0 (.ref it) (.ref D) (compEnvC scope (closOf scope X.env) C X.env)) (RR (.ref D) C) s3 := by
    rintro s3 rfl
    refine compLoop_by (fun n s' => ∃ (i : Nat) (ys : List V) (its : List Value) (k : Nat) (H' : Hp), Inv Y [] (bst own.length σ js) H' s' ∧ tn i s'.heap ∧ (∀ b ∈ fp, H' b = none) ∧ H' D = none ∧ Vals ys its ∧
      s'.heap.get? D = some { cls := .type "list", data := .seq its.toArray k } ∧ W i n ys H') ?_ m0 ⟨0, [], [], 0, H2, IB, T.keep 0 _ _ st2 (fun b hb o e => keep1 b o e), fun b hb => (f2 b hb).1, I2.hok.fresh szD, .nil, gD1, w0⟩
    rintro n s3 ⟨i, ys, its, k, H3, I3, st3, fr3, hD3, r3, g3, w3⟩
    have I3p : Inv Y [(D, { cls := .type "list", data := .seq its.toArray k })] (bst own.length σ js) H3 s3 := I3.pins_of fun p hp => by
      have e : p = (D, { cls := .type "list", data := .seq its.toArray k }) := by simpa using hp
      subst e
      exact ⟨g3, hD3, neDC, notFs, fun v z => by cases z⟩
    have f3 : ∀ b ∈ fp, FpOk Y [(D, { cls := .type "list", data := .seq its.toArray k })] H3 b := fpB fr3 fun p hp => by
      have e : p = (D, { cls := .type "list", data := .seq its.toArray k }) := by simpa using hp
      rw [e]
    rcases turn i n ys H3 w3 with ⟨stop, hz, qn⟩ | ⟨go, hz, N, hN, step⟩
    · refine thn (T.done Y rfl rfl rfl hc i _ s3 _ H3 (fun _ _ => False) I3p f3 st3 stop) fun r s4 ⟨hr, I4⟩ => ?_
      subst hr
      refine hR C _ s4 ?_
      have g4 := (I4.pin (D, { cls := .type "list", data := .seq its.toArray k }) (by simp [Y, blk])).1
      obtain ⟨m, hn4, _⟩ := id I4.loc
      have un : Un (frs X.stack) fp H2 H3 s2.heap s4.heap := I4.base
      have I5 : Inv X pins σ H3 s4 := I2.call' I4.os un I4.hok I4.bare fun b hb => let ⟨_, b1, _, b3, b4, b5⟩ := f2 b hb; ⟨b3, b1, b4, b5⟩
      have I6 := I5.track (ys := ys) (its := its) (n := k) hD3 (Nat.le_trans I2.sz szD) locD.1 (fun x d e => (clD x d e).1) (fun p hp => (pinD p hp).1) hz r3 g4
      refine ⟨D, _, m, rfl, hn4, I6, ?_, Nat.le_trans I2.sz szC, locD.2, fun x d e => (clD x d e).2, fun p hp => (pinD p hp).2, qn D hD3⟩
      rw [upd_ne (Ne.symm neDC)]
      exact I4.free
    · refine thn (T.item Y rfl rfl rfl hc i _ s3 _ H3 (fun _ _ => False) I3p f3 st3 go) fun r s4 ⟨u, hr, h4⟩ => ?_
      subst hr
      refine thn h4 fun _ s5 ⟨x, H5, I5, r5, y5, st5, fr5⟩ => ?_
      have f5 : ∀ b ∈ fp, FpOk Y [(D, { cls := .type "list", data := .seq its.toArray k })] H5 b := fun b hb => ⟨fr5 b hb, (f3 b hb).2⟩
      have I5' := I5.pinned f5 (T.obj _ _ st5)
      refine thn (hg s2 H2 C fp B.nd _ s5 _ H5 x u _ I5' r5 (step x H5 y5)) fun _ s6 ⟨σ6, H6, I6, d6, q6⟩ => ?_
      refine thn (ht s2 H2 C fp _ s6 σ6 H6 _ I6 q6) fun ok s7 ⟨H7, I7, q7⟩ => ?_
      have after : ∀ {s8 : Shared} {H8 : Hp}, Inv Y ([(D, { cls := .type "list", data := .seq its.toArray k })] ++ pinsAt fp s5.heap) σ6 H8 s8 →
          s8.heap.get? D = some { cls := .type "list", data := .seq its.toArray k } ∧ H8 D = none ∧ tn (i + 1) s8.heap ∧ (∀ b ∈ fp, H8 b = none) ∧ Inv Y [] (bst own.length σ js) H8 s8 := fun {s8 H8} I8 => by
        have p8 := I8.pin (D, { cls := .type "list", data := .seq its.toArray k }) (by simp [Y, blk])
        refine ⟨p8.1, p8.2.1, T.keep _ _ _ st5 fun b hb o e => (I8.pin (b, o) (List.mem_append_right _ (List.mem_append_right _ (mem_pinsAt hb e)))).1, fun b hb => ?_, ?_⟩
        · obtain ⟨o, e, _⟩ := T.obj _ _ st5 b hb
          exact (I8.pin (b, o) (List.mem_append_right _ (List.mem_append_right _ (mem_pinsAt hb e)))).2.1
        · refine (I8.pins_of (pins' := []) fun p hp => absurd hp (by simp [Y, blk])).weak ?_ fun j v e => ?_
          · rw [I8.len, bst_len]
            show _ = (own ++ capN X.N js).length
            unfold capN
            simp
          · rcases Nat.lt_or_ge j own.length with z | z
            · exfalso
              unfold bst at e
              rw [List.getElem?_append_left (by simpa using z), List.getElem?_replicate] at e
              split at e <;> cases e
            · unfold bst at e
              rw [List.getElem?_append_right (by simpa using z), List.length_replicate, ← d6, List.getElem?_drop] at e
              rw [← e]
              congr 1
              omega
      cases ok with
      | false =>
        rw [if_neg Bool.false_ne_true] at q7 ⊢
        obtain ⟨m', hm, w7⟩ := hN _ _ q7
        obtain ⟨a1, a2, a3, a4, a5⟩ := after I7
        exact ⟨m', hm, i + 1, ys, its, k, H7, a5, a3, a4, a2, r3, a1, w7⟩
      | true =>
        rw [if_pos rfl] at q7 ⊢
        refine thn (he s2 H2 C fp _ s7 σ6 H7 _ I7 q7) fun u8 s8 ⟨v8, H8, I8, r8, n8⟩ => ?_
        obtain ⟨m', hm, w8⟩ := hN _ _ n8
        obtain ⟨a1, a2, a3, a4, a5⟩ := after I8
        have hsz : its.toArray.size < sizeLine := by rw [List.size_toArray, ← r3.length]; exact hz
        refine call_meets F.slot_list_append ⟨_, a1, rfl⟩ F.entry_list_append (F.args_list_append_2 _ _) (PySem.list_append D its.toArray k u8 (by omega)) ⟨a1, ?_⟩
        have q9 := PySem.IsL.update a1 (fun xs => xs.push u8)
        have sb : Heap.SameBut D s8.heap (s8.heap.update D (Obj.mapSeq fun xs => xs.push u8)) := Heap.SameBut.update ..
        have I9 := a5.young sb a2 szD neDC clB (fun p hp => absurd hp (by show p ∉ [] ++ []; simp))
        have fin : ∃ k', (s8.heap.update D (Obj.mapSeq fun xs => xs.push u8)).get? D = some { cls := .type "list", data := .seq (its ++ [u8]).toArray k' } := ⟨_, by
          rw [show (its ++ [u8]).toArray = its.toArray.push u8 by simp]
          exact q9⟩
        obtain ⟨k', fin⟩ := fin
        exact ⟨m', hm, i + 1, ys ++ [v8], its ++ [u8], k', H8, I9, T.keep _ _ _ a3 (fun b hb o e => (sb.2 b (fpD b hb).1).trans e), a4, a2, r3.append (.cons r8 .nil), fin, w8⟩
  exact codeAny_compStart_list (loop _ rfl) (T.self _ 0 _ _ _ (T.keep 0 _ _ st2 fun b hb o e => keep1 b o e) (loop _ rfl))
theorem pe_comp {elt tg iter : Expr} {ifs : List Expr} {scope : Scope} {pos : Pos} (own : List Str) (js : List Nat) {wi : TI} {g : TG} {tc : TT} {te : TE} (hc : X.calm = true) (B : Blk X scope own js) (hi : PI X tg iter wi)
    (hg : ∀ s H C fp, (own ++ capN X.N js).Nodup → PG (blk X scope (own ++ capN X.N js) s H C fp) tg g) (ht : ∀ s H C fp, PTs (blk X scope (own ++ capN X.N js) s H C fp) ifs tc) (he : ∀ s H C fp, PE (blk X scope (own ++ capN X.N js) s H C fp) elt te)
    (hs : ∀ x, foldedSetIterable iter X.env x = pure x := by intro _; rfl) : PE X (.ListComp elt [⟨tg, iter, ifs, 0⟩] scope pos) (tComp own.length js wi g tc te) := by
  intro pins s σ H Q I h
  have hcl : closureFor scope X.env = pure (closOf scope X.env) := closureFor_of fun x hx hf => I.ok.has x.1 (B.free x hx hf)
  rw [eval_ListComp]
  refine wpAny_comprehension_free (use := none) rfl hs hcl B.kind B.names (thn (hi pins s σ H _ I h) fun v s1 h1 => thn h1 fun itv s2 h2 => ?_)
  refine comp_block (RR := fun acc C => compPost (model X.prog X.w) X.A X.xe none (EP X pins σ Q) acc C) hc B hg ht he h2 fun C acc s' hb => ?_
  obtain ⟨D, H', m, rfl, hn, I', c1, c2, c3, c4, c5, q⟩ := hb
  exact ⟨m, hn, fun h' hs' => ⟨.ref D, H', I'.young hs' c1 c2 c3 c4 c5, rfl, q⟩⟩
end
end L2
set_option Elab.async false
set_option linter.all false
set_option maxRecDepth 100000
namespace L2
open PySem PySem.Spec PyProof.Rows
section
variable {X : Cx}
def Dv (j : Int) : Prop := 0 < j ∧ j.natAbs.log2 < 9000
theorem Dv.small {j : Int} (h : 0 < j) (h2 : j < 1073741824) : Dv j := ⟨h, by
  have e : j.natAbs ≠ 0 := by omega
  have : j.natAbs.log2 < 30 := (Nat.log2_lt e).mpr (by omega)
  omega⟩
theorem op_fdivL : OpR X (binaryOp .FloorDiv) (rI (fun _ j => Dv j) fun i j => .int (i / j)) := opI fun i j _ _ _ _ _ hc q => by
  rw [← Int.fdiv_eq_ediv_of_nonneg i (Int.le_of_lt hc.1)] at q
  exact floordiv_int (Int.ne_of_gt hc.1) q (.inl (PyProof.noPylong_of_log2 hc.2))
theorem pe_ty {x : Str} {T : String} {pos : Pos} (hg : Gl X x) (hm : X.mg x = none) (hv : bootBuiltins x = some (.type T)) (hn : x ≠ "__name__" := by decide) (hd : (x == ("__debug__" : Str)) = false := by decide) : PE X (.Name x pos) (tC (.ty T)) :=
  pe_bltn hg hm hv rfl hn hd
structure OkN (P : Program) (w : World) (K : PySem.W.Frag) (mg : Str → Option Value) (base : Heap) (k : Nat) (x : Str) (ps : List Str) (sp : Sp) : Prop where
  ex : ∃ f fd, mg x = some (.ref f) ∧ PySem.W.keepIn K (.ref f) = true ∧ Binds K fd ps [] ∧ (∃ oc od osl, K.lookup f = some ⟨oc, od, .func fd, osl⟩) ∧ FnOk P w K mg base CX0 k f fd ps sp
theorem pe_fn {k : Nat} {x : Str} {ps : List Str} {sp : Sp} {p pos : Pos} {e : Expr} {es : List Expr} {t : TA} (F : OkN X.prog X.w X.K X.mg X.base k x ps sp) (hr : Room k X.A) (ha : PA X (e :: es) t) (hg : Gl X x := by rfl)
    (hdb : (x == ("__debug__" : Str)) = false := by decide) (he : starEach (e :: es) X.env = (false, eval e X.env) :: starEach es X.env := by rfl) (hpl : (backTo pos (starEach es X.env)).any (·.1) = false := by rfl) :
    PE X (.Call (.Name x p) (e :: es) [] pos) (tCall sp [] E0 t) := by
  obtain ⟨f, fd, hm, hk, hb, lk, F⟩ := F.ex
  exact pe_call F hr hg hm hk hb .nil pass0 ha hdb he hpl
structure DefN (K : PySem.W.Frag) (mg : Str → Option Value) (x : Str) (st : Stmt) (ps : List Str) : Prop where
  ex : ∃ f fd, mg x = some (.ref f) ∧ Fun K x x st f fd ∧ ∀ us : List Value, us.length = ps.length → bindArgs fd ⟨us, []⟩ = pure (ps.zip us)
theorem DefN.ok {P : Program} {w : World} {K : PySem.W.Frag} {mg : Str → Option Value} {base : Heap} {x : Str} {st : Stmt} {N ps : List Str} {k : Nat} {sp : Sp} (D : DefN K mg x st ps) (S : FnScope N ps (defScope st)) (len : ∀ vs H Q E, sp vs H Q E → vs.length = ps.length)
    (hbody : ∀ (f : Addr) (cdv : Value) (A : Around) (outer : List Env) (s : Shared) (H : Hp) (vs : List V) (Q : VK) (E : XK), Room k (A.deeper (envOfC x (defScope st) s.heap.objs.size f cdv)) → sp vs H Q E →
      ∃ t, PSs (cxOf CX0 P w K mg base N x (defScope st) f cdv A outer s H E).nox (defBody st) t ∧ t { nx := fun _ H' => Q .non H', rt := Q } (start N vs) H) : OkN P w K mg base (k + 1) x ps sp := by
  obtain ⟨f, fd, hm, F, hb⟩ := D.ex
  refine ⟨f, fd, hm, F.kp, .all hb, ?_, F.ok S len fun cdv A outer s H vs Q E hr h => hbody f cdv A outer s H vs Q E hr h⟩
  obtain ⟨oc, od, kV, doc, pm, an, cdv, ct, osl, _, lk, _⟩ := F.ex
  exact ⟨oc, od, osl, lk⟩
theorem OkN.mono {P : Program} {w : World} {K : PySem.W.Frag} {mg : Str → Option Value} {base : Heap} {x : Str} {ps : List Str} {j k : Nat} {sp : Sp} (F : OkN P w K mg base j x ps sp) (h : j ≤ k) : OkN P w K mg base k x ps sp := by
  obtain ⟨f, fd, hm, hk, hb, lk, F⟩ := F.ex
  exact ⟨f, fd, hm, hk, hb, lk, F.mono h⟩
theorem def_mk {K : PySem.W.Frag} {mg : Str → Option Value} {h : Heap} {x : Str} {st : Stmt} {ps : List Str} {f : Addr} {oc : Value} {od an : Option Addr} {osl : Array (Option Value)} {kV doc pm cdv ct : Value} (KX : K.In h) (G : h.Ns mainGlobals mg)
    (a : PySem.W.nsIn K mainGlobals x = some (some (.ref f))) (l : K.lookup f = some ⟨oc, od, .func (PySem.W.fnOf x x (defArgs st) (defBody st) (defScope st) .none kV doc pm an cdv ct), osl⟩)
    (c : PySem.W.codeIn K cdv x = true) (k : PySem.W.keepIn K (.ref f) = true)
    (hb : ∀ (kV doc pm : Value) (an : Option Addr) (cdv ct : Value) (us : List Value), us.length = ps.length → bindArgs (PySem.W.fnOf x x (defArgs st) (defBody st) (defScope st) .none kV doc pm an cdv ct) ⟨us, []⟩ = pure (ps.zip us)) : DefN K mg x st ps :=
  ⟨f, _, PySem.W.mg_of KX G a, fun_mk l c k, fun us hl => hb kV doc pm an cdv ct us hl⟩
theorem law_fin {P : Program} {w : World} {K : PySem.W.Frag} {mg : Str → Option Value} {x p : Str} {st : Stmt} {k : Nat} {fa : Addr} {sp : Sp} (D : DefN K mg x st [p]) (hfa : mg x = some (.ref fa))
    (F : ∀ base : Heap, OkN P w K mg base k x [p] sp) : ∃ fd : FuncData, (∀ (s : Shared) (v : Value), BindsTo s fd ⟨[v], []⟩ [(p, v)]) ∧ ∀ base : Heap, K.In base → base.Ns mainGlobals mg → FnOk P w K mg base CX0 k fa fd [p] sp := by
  obtain ⟨f, fd, hm, F0, hb⟩ := D.ex
  obtain ⟨oc, od, kV, doc, pm, an, cdv, ct, osl, _, lk, _⟩ := F0.ex
  refine ⟨fd, fun s v => .of_eq (hb [v] rfl), fun base _ _ => ?_⟩
  obtain ⟨f', fd', hm', _, _, ⟨oc', od', osl', lk'⟩, G⟩ := (F base).ex
  rw [hfa] at hm'
  cases hm'
  rw [hfa] at hm
  cases hm
  rw [lk] at lk'
  cases lk'
  exact G
end
end L2
set_option Elab.async false
set_option linter.all false
set_option maxRecDepth 100000
namespace L2
open PySem PySem.Spec PyProof.Rows
structure BI (mg : Str → Option Value) : Prop where
  len_ : mg "len" = none
  range_ : mg "range" = none
  isinstance_ : mg "isinstance" = none
  int_ : mg "int" = none
  bool_ : mg "bool" = none
  list_ : mg "list" = none
  tuple_ : mg "tuple" = none
  str_ : mg "str" = none
  sum_ : mg "sum" = none
  all_ : mg "all" = none
  max_ : mg "max" = none
  min_ : mg "min" = none
  sorted_ : mg "sorted" = none
  set_ : mg "set" = none
  zip_ : mg "zip" = none
  enumerate_ : mg "enumerate" = none
  reversed_ : mg "reversed" = none
  dict_ : mg "dict" = none
  any_ : mg "any" = none
  abs_ : mg "abs" = none
theorem bi_mk {K : PySem.W.Frag} {mg : Str → Option Value} {h : Heap} (KX : K.In h) (G : h.Ns mainGlobals mg)
    (len_ : PySem.W.nsIn K mainGlobals "len" = some none) (range_ : PySem.W.nsIn K mainGlobals "range" = some none) (isinstance_ : PySem.W.nsIn K mainGlobals "isinstance" = some none) (int_ : PySem.W.nsIn K mainGlobals "int" = some none) (bool_ : PySem.W.nsIn K mainGlobals "bool" = some none) (list_ : PySem.W.nsIn K mainGlobals "list" = some none) (tuple_ : PySem.W.nsIn K mainGlobals "tuple" = some none) (str_ : PySem.W.nsIn K mainGlobals "str" = some none) (sum_ : PySem.W.nsIn K mainGlobals "sum" = some none) (all_ : PySem.W.nsIn K mainGlobals "all" = some none) (max_ : PySem.W.nsIn K mainGlobals "max" = some none) (min_ : PySem.W.nsIn K mainGlobals "min" = some none) (sorted_ : PySem.W.nsIn K mainGlobals "sorted" = some none) (set_ : PySem.W.nsIn K mainGlobals "set" = some none) (zip_ : PySem.W.nsIn K mainGlobals "zip" = some none) (enumerate_ : PySem.W.nsIn K mainGlobals "enumerate" = some none) (reversed_ : PySem.W.nsIn K mainGlobals "reversed" = some none) (dict_ : PySem.W.nsIn K mainGlobals "dict" = some none) (any_ : PySem.W.nsIn K mainGlobals "any" = some none) (abs_ : PySem.W.nsIn K mainGlobals "abs" = some none) : BI mg :=
  ⟨PySem.W.mg_none_of KX G len_, PySem.W.mg_none_of KX G range_, PySem.W.mg_none_of KX G isinstance_, PySem.W.mg_none_of KX G int_, PySem.W.mg_none_of KX G bool_, PySem.W.mg_none_of KX G list_, PySem.W.mg_none_of KX G tuple_, PySem.W.mg_none_of KX G str_, PySem.W.mg_none_of KX G sum_, PySem.W.mg_none_of KX G all_, PySem.W.mg_none_of KX G max_, PySem.W.mg_none_of KX G min_, PySem.W.mg_none_of KX G sorted_, PySem.W.mg_none_of KX G set_, PySem.W.mg_none_of KX G zip_, PySem.W.mg_none_of KX G enumerate_, PySem.W.mg_none_of KX G reversed_, PySem.W.mg_none_of KX G dict_, PySem.W.mg_none_of KX G any_, PySem.W.mg_none_of KX G abs_⟩
def Grow (t : Addr) (H H' : Hp) : Prop := ∀ b o, H b = some o → b ≠ t → H' b = some o
theorem Grow.refl {t : Addr} {H : Hp} : Grow t H H := fun _ _ h _ => h
theorem Grow.trans {t : Addr} {H H1 H2 : Hp} (a : Grow t H H1) (b : Grow t H1 H2) : Grow t H H2 := fun c o h n => b c o (a c o h n) n
theorem Grow.upd {t : Addr} {H H' : Hp} (g : Grow t H H') (o : HO) : Grow t H (L2.upd H' t o) := fun b u h n => by rw [upd_ne n]; exact g b u h n
theorem Grow.new {t l : Addr} {H H' : Hp} {o : HO} (g : Grow t H H') (h : H' l = none) : Grow t H (L2.upd H' l o) := fun b u e n => by
  have := g b u e n
  rw [upd_ne (ne_of_none this h)]; exact this
theorem Same.grow {t : Addr} {H H' : Hp} (s : Same H H') : Grow t H H' := fun b o h _ => s b o h
theorem Same.new {H H' : Hp} {l : Addr} {o : HO} (s : Same H H') (h : H' l = none) : Same H (L2.upd H' l o) := fun b u e => by
  have := s b u e
  rw [upd_ne (ne_of_none this h)]; exact this
theorem Same.seqT {K : PySem.W.Frag} {H H' : Hp} {a : Addr} {xs : List V} (e : Same H H') (h : SqT K H a xs) : SqT K H' a xs := by
  rcases h with (h | ⟨o, h⟩) | h
  · exact .inl (.inl (e _ _ h))
  · exact .inl (.inr ⟨o, e _ _ h⟩)
  · exact .inr h
theorem Grow.seq {K : PySem.W.Frag} {t : Addr} {H H' : Hp} {a : Addr} {xs : List V} {kvs : List (Key × V)} (g : Grow t H H') (ht : H t = some (.dK kvs)) (h : SqL K H a xs) : SqL K H' a xs := by
  rcases h with (h | ⟨o, h⟩) | h
  · exact .inl (.inl (g _ _ h (ne_of h ht (by intro z; cases z))))
  · exact .inl (.inr ⟨o, g _ _ h (ne_of h ht (by intro z; cases z))⟩)
  · exact .inr h
def tapeK (c : Addr) (sp lf : Int) : List (Key × V) := [(Sum.inr "cells", .ref c), (Sum.inr "spot", .int sp), (Sum.inr "left", .int lf)]
theorem cs_ne : ¬ ((Sum.inr ("cells" : Str) : Key) = Sum.inr ("spot" : Str)) := by decide +kernel
theorem cl_ne : ¬ ((Sum.inr ("cells" : Str) : Key) = Sum.inr ("left" : Str)) := by decide +kernel
theorem sl_ne : ¬ ((Sum.inr ("spot" : Str) : Key) = Sum.inr ("left" : Str)) := by decide +kernel
theorem tape_cells {c : Addr} {sp lf : Int} : valV (tapeK c sp lf) (Sum.inr "cells" : Key) = some (.ref c) := by
  simp [valV, tapeK]
theorem tape_spot {c : Addr} {sp lf : Int} : valV (tapeK c sp lf) (Sum.inr "spot" : Key) = some (.int sp) := by
  simp only [valV, tapeK, List.find?_cons, decide_eq_false cs_ne, decide_true, Option.map_some]
theorem tape_left {c : Addr} {sp lf : Int} : valV (tapeK c sp lf) (Sum.inr "left" : Key) = some (.int lf) := by
  simp only [valV, tapeK, List.find?_cons, decide_eq_false cl_ne, decide_eq_false sl_ne, decide_true, Option.map_some]
theorem put_left {c : Addr} {sp lf x : Int} : putK (tapeK c sp lf) (Sum.inr "left" : Key) (.int x) = tapeK c sp x := by
  unfold putK
  rw [if_pos (by simp [tapeK])]
  simp only [tapeK, List.map_cons, List.map_nil, if_neg cl_ne, if_neg sl_ne, if_pos]
theorem put_spot {c : Addr} {sp lf x : Int} : putK (tapeK c sp lf) (Sum.inr "spot" : Key) (.int x) = tapeK c x lf := by
  unfold putK
  rw [if_pos (by simp [tapeK])]
  simp only [tapeK, List.map_cons, List.map_nil, if_neg cs_ne, if_pos, if_neg (show ¬ ((Sum.inr ("left" : Str) : Key) = Sum.inr ("spot" : Str)) from fun e => sl_ne e.symm)]
theorem tape_made {c : Addr} : mergeK [] [((Sum.inr ("cells" : Str) : Key), V.ref c), ((Sum.inr ("spot" : Str) : Key), V.int 0), ((Sum.inr ("left" : Str) : Key), V.int 0)] = tapeK c 0 0 := by
  simp only [mergeK, List.foldl_cons, List.foldl_nil]
  have e1 : putK ([] : List (Key × V)) (Sum.inr ("cells" : Str)) (V.ref c) = [((Sum.inr ("cells" : Str) : Key), V.ref c)] := by simp [putK]
  have e2 : putK [((Sum.inr ("cells" : Str) : Key), V.ref c)] (Sum.inr ("spot" : Str)) (V.int 0) = [((Sum.inr ("cells" : Str) : Key), V.ref c), ((Sum.inr ("spot" : Str) : Key), V.int 0)] := by
    unfold putK
    rw [if_neg (by simp only [List.any_cons, List.any_nil, decide_eq_false cs_ne]; simp)]
    rfl
  have e3 : putK [((Sum.inr ("cells" : Str) : Key), V.ref c), ((Sum.inr ("spot" : Str) : Key), V.int 0)] (Sum.inr ("left" : Str)) (V.int 0) = tapeK c 0 0 := by
    unfold putK
    rw [if_neg (by simp only [List.any_cons, List.any_nil, decide_eq_false cl_ne, decide_eq_false sl_ne]; simp)]
    rfl
  rw [e1, e2, e3]
def Tape (K : PySem.W.Frag) (H : Hp) (t : Addr) (n : Nat) : Prop := ∃ (c : Addr) (ns : List Int) (sp lf : Int), H t = some (.dK (tapeK c sp lf)) ∧ SqL K H c (ns.map V.int) ∧ 0 ≤ sp ∧ sp ≤ n ∧ 0 ≤ lf
theorem Tape.more {K : PySem.W.Frag} {H : Hp} {t : Addr} {n m : Nat} (T : Tape K H t n) (h : n ≤ m) : Tape K H t m := by
  obtain ⟨c, ns, sp, lf, a, b, c1, c2, c3⟩ := T
  exact ⟨c, ns, sp, lf, a, b, c1, by omega, c3⟩
theorem Tape.dict {K : PySem.W.Frag} {H : Hp} {t : Addr} {n : Nat} (T : Tape K H t n) : ∃ kvs, H t = some (.dK kvs) := by
  obtain ⟨c, ns, sp, lf, a, _⟩ := T
  exact ⟨_, a⟩
theorem Tape.same {K : PySem.W.Frag} {H H' : Hp} {t : Addr} {n : Nat} (T : Tape K H t n) (s : Same H H') : Tape K H' t n := by
  obtain ⟨c, ns, sp, lf, a, b, r⟩ := T
  exact ⟨c, ns, sp, lf, s _ _ a, s.seq b, r⟩
theorem Tape.put {K : PySem.W.Frag} {H : Hp} {t c : Addr} {ns : List Int} {sp lf sp' lf' : Int} {n : Nat} (a : H t = some (.dK (tapeK c sp lf))) (b : SqL K H c (ns.map V.int)) (h1 : 0 ≤ sp') (h2 : sp' ≤ n) (h3 : 0 ≤ lf') : Tape K (upd H t (.dK (tapeK c sp' lf'))) t n :=
  ⟨c, ns, sp', lf', upd_same, Grow.seq (Grow.refl.upd _) a b, h1, h2, h3⟩
theorem cut63 {ns : List Int} : cutV (ns.map V.int) none (some 63) = (ns.take 63).map V.int := by
  unfold cutV
  have e0 : HT.sIx (ns.map V.int).length 0 none = 0 := rfl
  rw [e0, List.drop_zero, Nat.sub_zero, List.map_take]
  show List.take (HT.sIx _ _ (some ((63 : Nat) : Int))) _ = _
  rw [HT.sIx_nat]
  rcases Nat.le_total 63 (ns.map V.int).length with h | h
  · rw [Nat.min_eq_left h]
  · rw [Nat.min_eq_right h, List.take_of_length_le (Nat.le_refl _), List.take_of_length_le h]
end L2
namespace L2
theorem drawn {Q : Int → Hp → Prop} {m x : Int} {H' : Hp} (hm : 0 < m) (k : ∀ r : Nat, (r : Int) < m → Q (r : Nat) H') : Q (x % m) H' := by
  obtain ⟨r, e⟩ := Int.eq_ofNat_of_zero_le (Int.emod_nonneg x (Int.ne_of_gt hm))
  have := Int.emod_lt_of_pos x hm
  rw [e] at this ⊢
  exact k r this
theorem seedOk {y : Int} : -(2 ^ 64) < y % 2147483647 ∧ y % 2147483647 < 2 ^ 64 := by omega
theorem dv64 : Dv 64 := Dv.small (by decide) (by decide)
end L2
set_option Elab.async false
set_option linter.all false
set_option maxRecDepth 100000
namespace L2
open PySem PySem.Spec PyProof.Rows
end L2
set_option Elab.async false
set_option linter.all false
namespace L2
open PySem PySem.Spec PyProof.Rows
def spLaw (K : PySem.W.Frag) : Sp := fun vs H Q _ => ∃ (a : Addr) (ns : List Int), vs = [.ref a] ∧ SqL K H a (ns.map V.int) ∧ ns.length ≤ 63 ∧ ∀ H', Q (.bl true) H'
end L2
set_option Elab.async false
set_option linter.all false
set_option maxRecDepth 100000
namespace L2
open PySem PySem.Spec PyProof.Rows
theorem bt_len : bootBuiltins "len" = some (.builtin "len") := by decide +kernel
theorem bt_isinstance : bootBuiltins "isinstance" = some (.builtin "isinstance") := by decide +kernel
theorem bt_list : bootBuiltins "list" = some (.type "list") := by decide +kernel
theorem bt_sorted : bootBuiltins "sorted" = some (.builtin "sorted") := by decide +kernel
theorem bt_set : bootBuiltins "set" = some (.type "set") := by decide +kernel
section
variable {X : Cx} {a b e o : Expr} {es : List Expr} {ta tb te to : TE} {t : TA} {pos apos cpos : Pos} (K : PySem.W.Frag)
theorem ix_seqK (hK : X.K = K := by rfl) : IxR X (rIx K) := by subst hK; exact ix_seq
theorem sl_listK (hK : X.K = K := by rfl) : SlR X (rSlL K) := by subst hK; exact sl_list
theorem call_lenK (hK : X.K = K := by rfl) : CallR X (.builtin "len") (fun xs H Q => ∃ p ys, xs = [.ref p] ∧ (SqL K H p ys ∨ SqT K H p ys) ∧ Q (.int ys.length) H) := by subst hK; exact call_len_seq
theorem call_listK (hK : X.K = K := by rfl) : CallR X (.type "list") (fun xs H Q => ∃ p ys, xs = [.ref p] ∧ (SqL K H p ys ∨ SqT K H p ys) ∧ ∀ l, H l = none → Q (.ref l) (upd H l (.lst ys))) := by subst hK; exact call_list_of
variable {name : Str} {T id : String} {r : V → List V → Hp → VK → Prop}
theorem pe_bmK (pa : PlainAttrs T) (slot : Slot T name id) (hty : typeOf (.builtin id) = pure (.type "method_descriptor")) (hm : MtR X id r) (ho : PE X o to) (ha : PA X (e :: es) t)
    (hbase : attributeBase o name X.env (eval o X.env) = eval o X.env := by rfl)
    (hfew : ((backTo cpos (starEach (e :: es) X.env)).all (fun x => !x.1) && (backToKw cpos (keywordEach [] X.env)).all (fun x => x.1.isSome) && decide ((e :: es).length + ([] : List Keyword).length + (if ([] : List Keyword).isEmpty then 0 else 1) < 30)) = true := by rfl)
    (hline : (apos.endLine == cpos.line) = true := by rfl) (he : starEach (e :: es) X.env = (false, eval e X.env) :: starEach es X.env := by rfl) (hpl : (backTo cpos (starEach es X.env)).any (·.1) = false := by rfl)
    (hK : X.K = K := by rfl) : PE X (.Call (.Attribute o name apos) (e :: es) [] cpos) (tBM K T r to t) := by
  subst hK
  exact pe_bm pa slot hty hm ho ha hbase hfew hline he hpl
end
end L2
set_option Elab.async false
set_option linter.all false
set_option maxRecDepth 100000
namespace L2
open PySem PySem.Spec PyProof.Rows
inductive D where
  | non | bl (b : Bool) | int (i : Int) | str (x : Str) | tup (ds : List D) | lst (ds : List D)
def StT (H : Hp) (a : Addr) (xs : List V) : Prop := H a = some (.tup xs)
theorem StT.sq {K : PySem.W.Frag} {H : Hp} {a : Addr} {xs : List V} (h : StT H a xs) : SqT K H a xs := SqT.of h
instance {K : PySem.W.Frag} {H : Hp} {a : Addr} {xs : List V} : Coe (StT H a xs) (SqT K H a xs) := ⟨StT.sq⟩
def StL (H : Hp) (a : Addr) (xs : List V) : Prop := H a = some (.lst xs)
theorem StL.sq {K : PySem.W.Frag} {H : Hp} {a : Addr} {xs : List V} (h : StL H a xs) : SqL K H a xs := SqL.of h
instance {K : PySem.W.Frag} {H : Hp} {a : Addr} {xs : List V} : Coe (StL H a xs) (SqL K H a xs) := ⟨StL.sq⟩
mutual
def RepD (K : PySem.W.Frag) (H : Hp) : V → D → Prop
  | v, .non => v = .non
  | v, .bl b => v = .bl b
  | v, .int i => v = .int i
  | v, .str x => v = .str x
  | v, .tup ds => ∃ a vs, v = .ref a ∧ StT H a vs ∧ RepDs K H vs ds
  | v, .lst ds => ∃ a vs, v = .ref a ∧ StL H a vs ∧ RepDs K H vs ds
def RepDs (K : PySem.W.Frag) (H : Hp) : List V → List D → Prop
  | [], [] => True
  | v :: vs, d :: ds => RepD K H v d ∧ RepDs K H vs ds
  | _, _ => False
end
mutual
def eqD : D → D → Bool
  | .non, .non => true
  | .bl a, .bl b => a == b
  | .bl a, .int b => (if a then 1 else 0) == b
  | .int a, .bl b => a == (if b then 1 else 0)
  | .int a, .int b => a == b
  | .str a, .str b => a == b
  | .tup ds, .tup es => eqDs ds es
  | .lst ds, .lst es => eqDs ds es
  | _, _ => false
def eqDs : List D → List D → Bool
  | [], [] => true
  | d :: ds, e :: es => eqD d e && eqDs ds es
  | _, _ => false
end
mutual
def D.depth : D → Nat
  | .tup ds => depths ds + 1
  | .lst ds => depths ds + 1
  | _ => 0
def depths : List D → Nat
  | [] => 0
  | d :: ds => max d.depth (depths ds)
end
section
variable {K : PySem.W.Frag} {H H' : Hp}
theorem RepDs.length : ∀ {vs : List V} {ds : List D}, RepDs K H vs ds → vs.length = ds.length
  | [], [], _ => rfl
  | v :: vs, d :: ds, h => by
    unfold RepDs at h
    rw [List.length_cons, List.length_cons, RepDs.length h.2]
  | [], d :: ds, h => by unfold RepDs at h; exact h.elim
  | v :: vs, [], h => by unfold RepDs at h; exact h.elim
theorem RepDs.get : ∀ {vs : List V} {ds : List D} {i : Nat} {d : D}, RepDs K H vs ds → ds[i]? = some d → ∃ v, vs[i]? = some v ∧ RepD K H v d
  | [], [], _, _, _, e => by simp at e
  | v :: vs, d :: ds, 0, _, h, e => by
    unfold RepDs at h
    simp at e; subst e
    exact ⟨v, rfl, h.1⟩
  | v :: vs, d :: ds, i + 1, _, h, e => by
    unfold RepDs at h
    obtain ⟨u, a, b⟩ := RepDs.get (i := i) h.2 (by simpa using e)
    exact ⟨u, by simpa using a, b⟩
  | [], d :: ds, _, _, h, _ => by unfold RepDs at h; exact h.elim
  | v :: vs, [], _, _, h, _ => by unfold RepDs at h; exact h.elim
theorem RepDs.getV : ∀ {vs : List V} {ds : List D} {i : Nat} {v : V}, RepDs K H vs ds → vs[i]? = some v → ∃ d, ds[i]? = some d ∧ RepD K H v d
  | [], [], _, _, _, e => by simp at e
  | v :: vs, d :: ds, 0, _, h, e => by
    unfold RepDs at h
    simp at e; subst e
    exact ⟨d, rfl, h.1⟩
  | v :: vs, d :: ds, i + 1, _, h, e => by
    unfold RepDs at h
    obtain ⟨u, a, b⟩ := RepDs.getV (i := i) h.2 (by simpa using e)
    exact ⟨u, by simpa using a, b⟩
  | [], d :: ds, _, _, h, _ => by unfold RepDs at h; exact h.elim
  | v :: vs, [], _, _, h, _ => by unfold RepDs at h; exact h.elim
theorem RepDs.append : ∀ {vs ws : List V} {ds es : List D}, RepDs K H vs ds → RepDs K H ws es → RepDs K H (vs ++ ws) (ds ++ es)
  | [], ws, [], es, _, h => h
  | v :: vs, ws, d :: ds, es, h, h' => by
    unfold RepDs at h
    show RepDs K H (v :: (vs ++ ws)) (d :: (ds ++ es))
    unfold RepDs
    exact ⟨h.1, RepDs.append h.2 h'⟩
  | [], _, d :: ds, _, h, _ => by unfold RepDs at h; exact h.elim
  | v :: vs, _, [], _, h, _ => by unfold RepDs at h; exact h.elim
theorem RepDs.one {v : V} {d : D} (h : RepD K H v d) : RepDs K H [v] [d] := by unfold RepDs; exact ⟨h, by unfold RepDs; trivial⟩
theorem RepDs.nil : RepDs K H [] [] := by unfold RepDs; trivial
theorem RepDs.cons {v : V} {d : D} {vs : List V} {ds : List D} (h : RepD K H v d) (t : RepDs K H vs ds) : RepDs K H (v :: vs) (d :: ds) := by unfold RepDs; exact ⟨h, t⟩
theorem repInts : ∀ {vs : List V} {ns : List Int}, RepDs K H vs (ns.map D.int) ↔ vs = ns.map V.int
  | [], [] => by simp [RepDs]
  | v :: vs, n :: ns => by
    have ih := @repInts vs ns
    rw [List.map_cons, List.map_cons]
    unfold RepDs RepD
    rw [ih]
    constructor
    · rintro ⟨rfl, rfl⟩; rfl
    · intro h; injection h with h1 h2; exact ⟨h1, h2⟩
  | [], n :: ns => by rw [List.map_cons]; unfold RepDs; simp
  | v :: vs, [] => by rw [List.map_nil]; unfold RepDs; simp
mutual
theorem RepD.keep (hl : ∀ a vs, StL H a vs → StL H' a vs) (ht : ∀ a vs, StT H a vs → StT H' a vs) : ∀ {v : V} {d : D}, RepD K H v d → RepD K H' v d
  | v, .non, h => by unfold RepD at h ⊢; exact h
  | v, .bl b, h => by unfold RepD at h ⊢; exact h
  | v, .int i, h => by unfold RepD at h ⊢; exact h
  | v, .str x, h => by unfold RepD at h ⊢; exact h
  | v, .tup ds, h => by
    unfold RepD at h ⊢
    obtain ⟨a, vs, e, h1, h2⟩ := h
    exact ⟨a, vs, e, ht _ _ h1, RepDs.keep hl ht h2⟩
  | v, .lst ds, h => by
    unfold RepD at h ⊢
    obtain ⟨a, vs, e, h1, h2⟩ := h
    exact ⟨a, vs, e, hl _ _ h1, RepDs.keep hl ht h2⟩
theorem RepDs.keep (hl : ∀ a vs, StL H a vs → StL H' a vs) (ht : ∀ a vs, StT H a vs → StT H' a vs) : ∀ {vs : List V} {ds : List D}, RepDs K H vs ds → RepDs K H' vs ds
  | [], [], _ => RepDs.nil
  | v :: vs, d :: ds, h => by
    unfold RepDs at h ⊢
    exact ⟨RepD.keep hl ht h.1, RepDs.keep hl ht h.2⟩
  | [], d :: ds, h => by unfold RepDs at h; exact h.elim
  | v :: vs, [], h => by unfold RepDs at h; exact h.elim
end
theorem RepD.same {v : V} {d : D} (h : RepD K H v d) (s : Same H H') : RepD K H' v d := h.keep (fun _ _ q => s _ _ q) fun _ _ q => s _ _ q
theorem RepDs.same {vs : List V} {ds : List D} (h : RepDs K H vs ds) (s : Same H H') : RepDs K H' vs ds := h.keep (fun _ _ q => s _ _ q) fun _ _ q => s _ _ q
theorem Grow.seqT {t : Addr} {a : Addr} {xs : List V} {kvs : List (Key × V)} (g : Grow t H H') (ht : H t = some (.dK kvs)) (h : SqT K H a xs) : SqT K H' a xs := by
  rcases h with (h | ⟨o, h⟩) | h
  · exact .inl (.inl (g _ _ h (ne_of h ht (by intro z; cases z))))
  · exact .inl (.inr ⟨o, g _ _ h (ne_of h ht (by intro z; cases z))⟩)
  · exact .inr h
theorem RepD.grow {v : V} {d : D} {t : Addr} {kvs : List (Key × V)} (h : RepD K H v d) (g : Grow t H H') (ht : H t = some (.dK kvs)) : RepD K H' v d := h.keep (fun _ _ q => g _ _ q (ne_of q ht (by intro z; cases z))) fun _ _ q => g _ _ q (ne_of q ht (by intro z; cases z))
theorem RepDs.grow {vs : List V} {ds : List D} {t : Addr} {kvs : List (Key × V)} (h : RepDs K H vs ds) (g : Grow t H H') (ht : H t = some (.dK kvs)) : RepDs K H' vs ds := h.keep (fun _ _ q => g _ _ q (ne_of q ht (by intro z; cases z))) fun _ _ q => g _ _ q (ne_of q ht (by intro z; cases z))
end
mutual
theorem eqD_refl : ∀ d : D, eqD d d = true
  | .non => by simp [eqD]
  | .bl b => by simp [eqD]
  | .int i => by simp [eqD]
  | .str x => by simp [eqD]
  | .tup ds => by unfold eqD; exact eqDs_refl ds
  | .lst ds => by unfold eqD; exact eqDs_refl ds
theorem eqDs_refl : ∀ ds : List D, eqDs ds ds = true
  | [] => by simp [eqDs]
  | d :: ds => by unfold eqDs; rw [eqD_refl d, eqDs_refl ds]; rfl
end
section
variable {X : Cx} {pins : List (Addr × Obj)} {σ : St} {H : Hp} {s : Shared}
mutual
theorem repD_inj (I : Inv X pins σ H s) : ∀ {v : V} {d e : D}, RepD X.K H v d → RepD X.K H v e → d = e
  | v, .non, e, h, h' => by
    unfold RepD at h; subst h
    cases e <;> (unfold RepD at h'; first | rfl | (obtain ⟨_, _, z, _⟩ := h'; cases z) | cases h')
  | v, .bl b, e, h, h' => by
    unfold RepD at h; subst h
    cases e <;> (unfold RepD at h'; first | (cases h'; rfl) | (obtain ⟨_, _, z, _⟩ := h'; cases z) | cases h')
  | v, .int b, e, h, h' => by
    unfold RepD at h; subst h
    cases e <;> (unfold RepD at h'; first | (cases h'; rfl) | (obtain ⟨_, _, z, _⟩ := h'; cases z) | cases h')
  | v, .str b, e, h, h' => by
    unfold RepD at h; subst h
    cases e <;> (unfold RepD at h'; first | (cases h'; rfl) | (obtain ⟨_, _, z, _⟩ := h'; cases z) | cases h')
  | v, .tup ds, e, h, h' => by
    unfold RepD at h
    obtain ⟨a, vs, rfl, h1, h2⟩ := h
    cases e with
    | tup es =>
      unfold RepD at h'
      obtain ⟨b, ws, z, g1, g2⟩ := h'
      cases z
      rw [I.tuple_inj g1.sq h1.sq] at g2
      rw [repDs_inj I h2 g2]
    | lst es =>
      unfold RepD at h'
      obtain ⟨b, ws, z, g1, g2⟩ := h'
      cases z
      obtain ⟨_, _, ⟨o, n, e1, c1, _⟩, _⟩ := I.list (StL.sq g1)
      obtain ⟨_, _, ⟨o', e2, c2, _⟩, _⟩ := I.tuple h1.sq
      rw [e1] at e2; cases e2
      rw [c1] at c2
      exact absurd c2 (by decide)
    | non => unfold RepD at h'; cases h'
    | bl _ => unfold RepD at h'; cases h'
    | int _ => unfold RepD at h'; cases h'
    | str _ => unfold RepD at h'; cases h'
  | v, .lst ds, e, h, h' => by
    unfold RepD at h
    obtain ⟨a, vs, rfl, h1, h2⟩ := h
    cases e with
    | lst es =>
      unfold RepD at h'
      obtain ⟨b, ws, z, g1, g2⟩ := h'
      cases z
      rw [I.list_inj (StL.sq g1) (StL.sq h1)] at g2
      rw [repDs_inj I h2 g2]
    | tup es =>
      unfold RepD at h'
      obtain ⟨b, ws, z, g1, g2⟩ := h'
      cases z
      obtain ⟨_, _, ⟨o, n, e1, c1, _⟩, _⟩ := I.list (StL.sq h1)
      obtain ⟨_, _, ⟨o', e2, c2, _⟩, _⟩ := I.tuple g1.sq
      rw [e1] at e2; cases e2
      rw [c1] at c2
      exact absurd c2 (by decide)
    | non => unfold RepD at h'; cases h'
    | bl _ => unfold RepD at h'; cases h'
    | int _ => unfold RepD at h'; cases h'
    | str _ => unfold RepD at h'; cases h'
theorem repDs_inj (I : Inv X pins σ H s) : ∀ {vs : List V} {ds es : List D}, RepDs X.K H vs ds → RepDs X.K H vs es → ds = es
  | [], [], [], _, _ => rfl
  | v :: vs, d :: ds, e :: es, h, h' => by
    unfold RepDs at h h'
    rw [repD_inj I h.1 h'.1, repDs_inj I h.2 h'.2]
  | [], d :: ds, _, h, _ => by unfold RepDs at h; exact h.elim
  | v :: vs, [], _, h, _ => by unfold RepDs at h; exact h.elim
  | [], _, d :: ds, _, h => by unfold RepDs at h; exact h.elim
  | v :: vs, _, [], _, h => by unfold RepDs at h; exact h.elim
end
end
theorem in1_units (A : Around) : A.in1.units = A.units + 1 := rfl
theorem depths_get : ∀ {ds : List D} {j : Nat} {d : D}, ds[j]? = some d → d.depth ≤ depths ds
  | [], _, _, h => by simp at h
  | d :: ds, 0, _, h => by simp at h; subst h; unfold depths; omega
  | d :: ds, j + 1, e, h => by
    have := depths_get (ds := ds) (j := j) (by simpa using h)
    unfold depths; omega
def eqAtI (ds es : List D) (j : Nat) : Bool := match ds[j]?, es[j]? with
  | some d, some e => eqD d e
  | _, _ => true
theorem eqDs_range : ∀ {ds es : List D}, ds.length = es.length → (List.range ds.length).all (eqAtI ds es) = eqDs ds es
  | [], [], _ => by simp [eqDs]
  | d :: ds, e :: es, h => by
    have ih := eqDs_range (ds := ds) (es := es) (by simpa using h)
    rw [List.length_cons, List.range_succ_eq_map, List.all_cons, List.all_map]
    unfold eqDs
    rw [← ih]
    congr 1
  | [], _ :: _, h => by simp at h
  | _ :: _, [], h => by simp at h
theorem eqDs_lengths : ∀ {ds es : List D}, ds.length ≠ es.length → eqDs ds es = false
  | [], [], h => absurd rfl h
  | [], _ :: _, _ => by simp [eqDs]
  | _ :: _, [], _ => by simp [eqDs]
  | d :: ds, e :: es, h => by
    unfold eqDs
    rw [eqDs_lengths (ds := ds) (es := es) (by simpa using h), Bool.and_false]
section
variable {X : Cx} {pins : List (Addr × Obj)} {σ : St} {H : Hp} {s : Shared}
theorem items_eq (I : Inv X pins σ H s) {m : Nat} (ih : ∀ {A : Around} {v u : V} {vv uu : Value} {d e : D}, d.depth ≤ m → A.units + m < cLine → RelV v vv → RelV u uu → RepD X.K H v d → RepD X.K H u e → SeqAt.EqAt A s vv uu (eqD d e)) {A : Around} (hu : A.units + m < cLine)
    {vs us : List V} {vvs uus : List Value} {ds es : List D} (hd : depths ds ≤ m) (rv : Vals vs vvs) (ru : Vals us uus) (hv : RepDs X.K H vs ds) (he : RepDs X.K H us es) :
    ∀ j (h1 : j < vvs.toArray.size) (h2 : j < uus.toArray.size), SeqAt.EqAt A s vvs.toArray[j] uus.toArray[j] (eqAtI ds es j) := by
  intro j h1 h2
  rw [List.size_toArray] at h1 h2
  have l1 := rv.length
  have l2 := ru.length
  have g1 : vs[j]? = some vs[j] := List.getElem?_eq_getElem (by omega)
  have g2 : us[j]? = some us[j] := List.getElem?_eq_getElem (by omega)
  obtain ⟨x, ex, rx⟩ := rv.get g1
  obtain ⟨y, ey, ry⟩ := ru.get g2
  obtain ⟨d, ed, rd⟩ := hv.getV g1
  obtain ⟨e, ee, re⟩ := he.getV g2
  rw [List.getElem?_eq_getElem h1] at ex
  rw [List.getElem?_eq_getElem h2] at ey
  cases ex
  cases ey
  have : eqAtI ds es j = eqD d e := by unfold eqAtI; rw [ed, ee]
  rw [this, List.getElem_toArray, List.getElem_toArray]
  exact ih (Nat.le_trans (depths_get ed) hd) hu rx ry rd re
theorem rcStep (I : Inv X pins σ H s) (n : Nat) (ih : 0 < n → ∀ {A : Around} {v u : V} {vv uu : Value} {d e : D}, d.depth ≤ n - 1 → A.units + (n - 1) < cLine → RelV v vv → RelV u uu → RepD X.K H v d → RepD X.K H u e → SeqAt.EqAt A s vv uu (eqD d e))
    {A : Around} {v u : V} {vv uu : Value} {d e : D} (hd : d.depth ≤ n) (hu : A.units + n < cLine) (rv : RelV v vv) (ru : RelV u uu) (hv : RepD X.K H v d) (he : RepD X.K H u e) : SeqAt.RcAt A s vv uu (eqD d e) ∧ SeqAt.EqAt A s vv uu (eqD d e) := by
  have hu0 : A.units < cLine := by omega
  have isL : ∀ {a xs}, StL H a xs → ∃ its : List Value, Vals xs its ∧ s.heap.IsList a its.toArray := fun q => by
    obtain ⟨its, r, p, _⟩ := I.list q.sq
    exact ⟨its, r, p.isList⟩
  have isT : ∀ {a xs}, StT H a xs → ∃ its : List Value, Vals xs its ∧ s.heap.IsTuple a its.toArray := fun q => by
    obtain ⟨its, r, p, _⟩ := I.tuple q.sq
    exact ⟨its, r, p⟩
  cases d with
  | non =>
    unfold RepD at hv; subst hv; cases rv
    cases e with
    | non => unfold RepD at he; subst he; cases ru; exact ⟨.none_none, .same _⟩
    | bl b => unfold RepD at he; subst he; cases ru; exact ⟨.none_bool _, .none_bool _⟩
    | int b => unfold RepD at he; subst he; obtain ⟨t, rfl⟩ := ru; exact ⟨.none_int _ _, .none_int _ _⟩
    | str b => unfold RepD at he; subst he; obtain ⟨t, rfl⟩ := ru; exact ⟨.none_str _ _, .none_str _ _⟩
    | tup es => unfold RepD at he; obtain ⟨a, vs, rfl, q, _⟩ := he; cases ru; obtain ⟨its, _, q⟩ := isT q; exact ⟨.none_tuple q hu0, .none_tuple q hu0⟩
    | lst es => unfold RepD at he; obtain ⟨a, vs, rfl, q, _⟩ := he; cases ru; obtain ⟨its, _, q⟩ := isL q; exact ⟨.none_list q hu0, .none_list q hu0⟩
  | bl x =>
    unfold RepD at hv; subst hv; cases rv
    cases e with
    | non => unfold RepD at he; subst he; cases ru; exact ⟨.bool_none _, .bool_none _⟩
    | bl b => unfold RepD at he; subst he; cases ru; exact ⟨.bool_bool _ _, .bool_bool _ _⟩
    | int b => unfold RepD at he; subst he; obtain ⟨t, rfl⟩ := ru; exact ⟨.bool_int _ _ _, .bool_int _ _ _⟩
    | str b => unfold RepD at he; subst he; obtain ⟨t, rfl⟩ := ru; exact ⟨.bool_str _ _ _, .bool_str _ _ _⟩
    | tup es => unfold RepD at he; obtain ⟨a, vs, rfl, q, _⟩ := he; cases ru; obtain ⟨its, _, q⟩ := isT q; exact ⟨.bool_tuple _ q hu0, .bool_tuple _ q hu0⟩
    | lst es => unfold RepD at he; obtain ⟨a, vs, rfl, q, _⟩ := he; cases ru; obtain ⟨its, _, q⟩ := isL q; exact ⟨.bool_list _ q hu0, .bool_list _ q hu0⟩
  | int x =>
    unfold RepD at hv; subst hv; obtain ⟨t0, rfl⟩ := rv
    cases e with
    | non => unfold RepD at he; subst he; cases ru; exact ⟨.int_none _ _, .int_none _ _⟩
    | bl b => unfold RepD at he; subst he; cases ru; exact ⟨.int_bool _ _ _, .int_bool _ _ _⟩
    | int b => unfold RepD at he; subst he; obtain ⟨t, rfl⟩ := ru; exact ⟨.int_int _ _ _ _, .int_int _ _ _ _⟩
    | str b => unfold RepD at he; subst he; obtain ⟨t, rfl⟩ := ru; exact ⟨.int_str _ _ _ _, .int_str _ _ _ _⟩
    | tup es => unfold RepD at he; obtain ⟨a, vs, rfl, q, _⟩ := he; cases ru; obtain ⟨its, _, q⟩ := isT q; exact ⟨.int_tuple _ _ q hu0, .int_tuple _ _ q hu0⟩
    | lst es => unfold RepD at he; obtain ⟨a, vs, rfl, q, _⟩ := he; cases ru; obtain ⟨its, _, q⟩ := isL q; exact ⟨.int_list _ _ q hu0, .int_list _ _ q hu0⟩
  | str x =>
    unfold RepD at hv; subst hv; obtain ⟨t0, rfl⟩ := rv
    cases e with
    | non => unfold RepD at he; subst he; cases ru; exact ⟨.str_none _ _, .str_none _ _⟩
    | bl b => unfold RepD at he; subst he; cases ru; exact ⟨.str_bool _ _ _, .str_bool _ _ _⟩
    | int b => unfold RepD at he; subst he; obtain ⟨t, rfl⟩ := ru; exact ⟨.str_int _ _ _ _, .str_int _ _ _ _⟩
    | str b => unfold RepD at he; subst he; obtain ⟨t, rfl⟩ := ru; exact ⟨.str_str _ _ _ _, .str_str _ _ _ _⟩
    | tup es => unfold RepD at he; obtain ⟨a, vs, rfl, q, _⟩ := he; cases ru; obtain ⟨its, _, q⟩ := isT q; exact ⟨.str_tuple _ _ q hu0, .str_tuple _ _ q hu0⟩
    | lst es => unfold RepD at he; obtain ⟨a, vs, rfl, q, _⟩ := he; cases ru; obtain ⟨its, _, q⟩ := isL q; exact ⟨.str_list _ _ q hu0, .str_list _ _ q hu0⟩
  | tup ds =>
    have hv0 := hv
    unfold RepD at hv
    obtain ⟨a, vs, rfl, q, hq⟩ := hv
    cases rv
    obtain ⟨its, r1, q1⟩ := isT q
    cases e with
    | non => unfold RepD at he; subst he; cases ru; exact ⟨.tuple_none q1 hu0, .tuple_none q1 hu0⟩
    | bl b => unfold RepD at he; subst he; cases ru; exact ⟨.tuple_bool _ q1 hu0, .tuple_bool _ q1 hu0⟩
    | int b => unfold RepD at he; subst he; obtain ⟨t, rfl⟩ := ru; exact ⟨.tuple_int _ _ q1 hu0, .tuple_int _ _ q1 hu0⟩
    | str b => unfold RepD at he; subst he; obtain ⟨t, rfl⟩ := ru; exact ⟨.tuple_str _ _ q1 hu0, .tuple_str _ _ q1 hu0⟩
    | lst es => unfold RepD at he; obtain ⟨b, ws, rfl, g, _⟩ := he; cases ru; obtain ⟨its2, _, g1⟩ := isL g; exact ⟨.tuple_list q1 g1 hu0, .tuple_list q1 g1 hu0⟩
    | tup es =>
      have he0 := he
      unfold RepD at he
      obtain ⟨b, ws, rfl, g, hg⟩ := he
      cases ru
      obtain ⟨its2, r2, g1⟩ := isT g
      have hd' : depths ds + 1 ≤ n := by simpa [D.depth] using hd
      have l1 := r1.length
      have l2 := r2.length
      have m1 := hq.length
      have m2 := hg.length
      have rc : SeqAt.RcAt A s (.ref a) (.ref b) (eqD (.tup ds) (.tup es)) := by
        have := SeqAt.RcAt.tuples (e := eqAtI ds es) q1 g1 hu0 (items_eq I (fun {A} {v} {u} {vv} {uu} {d} {e} => ih (by omega) (A := A)) (A := A.in1) (by rw [in1_units]; omega) (m := n - 1) (by omega) r1 r2 hq hg)
        rw [List.size_toArray, List.size_toArray] at this
        unfold eqD
        by_cases hl : ds.length = es.length
        · have z : (its.length == its2.length) = true := by rw [beq_iff_eq]; omega
          have mm : min its.length its2.length = ds.length := by omega
          rw [z, Bool.and_true, mm, eqDs_range hl] at this
          exact this
        · have z : (its.length == its2.length) = false := by rw [beq_eq_false_iff_ne]; omega
          rw [z, Bool.and_false] at this
          rw [eqDs_lengths hl]
          exact this
      refine ⟨rc, ?_⟩
      by_cases hab : a = b
      · subst hab
        rw [repD_inj I hv0 he0, eqD_refl]
        exact .same _
      · exact .of_refs hab rc
  | lst ds =>
    have hv0 := hv
    unfold RepD at hv
    obtain ⟨a, vs, rfl, q, hq⟩ := hv
    cases rv
    obtain ⟨its, r1, q1⟩ := isL q
    cases e with
    | non => unfold RepD at he; subst he; cases ru; exact ⟨.list_none q1 hu0, .list_none q1 hu0⟩
    | bl b => unfold RepD at he; subst he; cases ru; exact ⟨.list_bool _ q1 hu0, .list_bool _ q1 hu0⟩
    | int b => unfold RepD at he; subst he; obtain ⟨t, rfl⟩ := ru; exact ⟨.list_int _ _ q1 hu0, .list_int _ _ q1 hu0⟩
    | str b => unfold RepD at he; subst he; obtain ⟨t, rfl⟩ := ru; exact ⟨.list_str _ _ q1 hu0, .list_str _ _ q1 hu0⟩
    | tup es => unfold RepD at he; obtain ⟨b, ws, rfl, g, _⟩ := he; cases ru; obtain ⟨its2, _, g1⟩ := isT g; exact ⟨.list_tuple q1 g1 hu0, .list_tuple q1 g1 hu0⟩
    | lst es =>
      have he0 := he
      unfold RepD at he
      obtain ⟨b, ws, rfl, g, hg⟩ := he
      cases ru
      obtain ⟨its2, r2, g1⟩ := isL g
      have hd' : depths ds + 1 ≤ n := by simpa [D.depth] using hd
      have l1 := r1.length
      have l2 := r2.length
      have m1 := hq.length
      have m2 := hg.length
      have rc : SeqAt.RcAt A s (.ref a) (.ref b) (eqD (.lst ds) (.lst es)) := by
        unfold eqD
        by_cases hl : ds.length = es.length
        · have := SeqAt.RcAt.lists (e := eqAtI ds es) q1 g1 (by rw [List.size_toArray, List.size_toArray]; omega) hu0 (items_eq I (fun {A} {v} {u} {vv} {uu} {d} {e} => ih (by omega) (A := A)) (A := A.in1) (by rw [in1_units]; omega) (m := n - 1) (by omega) r1 r2 hq hg)
          rw [List.size_toArray, show its.length = ds.length by omega, eqDs_range hl] at this
          exact this
        · rw [eqDs_lengths hl]
          exact SeqAt.RcAt.lists_lengths q1 g1 (by rw [List.size_toArray, List.size_toArray, bne_iff_ne]; omega) hu0
      refine ⟨rc, ?_⟩
      by_cases hab : a = b
      · subst hab
        rw [repD_inj I hv0 he0, eqD_refl]
        exact .same _
      · exact .of_refs hab rc
theorem rcAt_D (I : Inv X pins σ H s) : ∀ (n : Nat) {A : Around} {v u : V} {vv uu : Value} {d e : D}, d.depth ≤ n → A.units + n < cLine → RelV v vv → RelV u uu → RepD X.K H v d → RepD X.K H u e →
    SeqAt.RcAt A s vv uu (eqD d e) ∧ SeqAt.EqAt A s vv uu (eqD d e) := by
  intro n
  induction n with
  | zero => exact fun hd hu => rcStep I 0 (fun hlt => absurd hlt (by omega)) hd hu
  | succ n ih => exact fun hd hu => rcStep I (n + 1) (fun _ A v u vv uu d e h1 h2 h3 h4 h5 h6 => (ih (A := A) h1 h2 h3 h4 h5 h6).2) hd hu
end
end L2
set_option Elab.async false
set_option linter.all false
set_option maxRecDepth 100000
namespace L2
open PySem PySem.Spec PyProof.Rows
section
variable {X : Cx} (K : PySem.W.Frag)
def rEqD (K : PySem.W.Frag) : R2 := fun x y H Q => ∃ d e, RepD K H x d ∧ RepD K H y e ∧ d.depth ≤ 60 ∧ Q (.bl (eqD d e)) H
def rNeD (K : PySem.W.Frag) : R2 := fun x y H Q => ∃ d e, RepD K H x d ∧ RepD K H y e ∧ d.depth ≤ 60 ∧ Q (.bl (!eqD d e)) H
theorem op_eqD (hu : X.A.units + 64 < cLine) (hK : X.K = K := by rfl) : OpR X (compareOp .Eq) (rEqD K) := by
  subst hK
  intro pins s σ H x y v u Q I rx ry h
  obtain ⟨d, e, hd, he, hz, q⟩ := h
  exact (rcAt_D I 60 hz (by omega) rx ry hd he).1 X.prog X.w _ _ ⟨.bl _, H, I, rfl, q⟩
theorem rcne_D {pins : List (Addr × Obj)} {σ : St} {H : Hp} {s : Shared} (I : Inv X pins σ H s) {A : Around} {v u : V} {vv uu : Value} {d e : D} (hd : d.depth ≤ 60) (hu : A.units + 61 < cLine) (rv : RelV v vv) (ru : RelV u uu) (hv : RepD X.K H v d) (he : RepD X.K H u e) :
    SeqAt.RcNeAt A s vv uu (!eqD d e) := by
  have hu0 : A.units < cLine := by omega
  have isL : ∀ {a xs}, StL H a xs → ∃ its : List Value, Vals xs its ∧ s.heap.IsList a its.toArray := fun q => by
    obtain ⟨its, r, p, _⟩ := I.list q.sq
    exact ⟨its, r, p.isList⟩
  have isT : ∀ {a xs}, StT H a xs → ∃ its : List Value, Vals xs its ∧ s.heap.IsTuple a its.toArray := fun q => by
    obtain ⟨its, r, p, _⟩ := I.tuple q.sq
    exact ⟨its, r, p⟩
  cases d with
  | non =>
    unfold RepD at hv; subst hv; cases rv
    cases e with
    | non => unfold RepD at he; subst he; cases ru; exact .none_none
    | bl b => unfold RepD at he; subst he; cases ru; exact .none_bool _
    | int b => unfold RepD at he; subst he; obtain ⟨t, rfl⟩ := ru; exact .none_int _ _
    | str b => unfold RepD at he; subst he; obtain ⟨t, rfl⟩ := ru; exact .none_str _ _
    | tup es => unfold RepD at he; obtain ⟨a, vs, rfl, q, _⟩ := he; cases ru; obtain ⟨its, _, q⟩ := isT q; exact .none_tuple q hu0
    | lst es => unfold RepD at he; obtain ⟨a, vs, rfl, q, _⟩ := he; cases ru; obtain ⟨its, _, q⟩ := isL q; exact .none_list q hu0
  | bl x =>
    unfold RepD at hv; subst hv; cases rv
    cases e with
    | non => unfold RepD at he; subst he; cases ru; exact .bool_none _
    | bl b => unfold RepD at he; subst he; cases ru; exact .bool_bool _ _
    | int b => unfold RepD at he; subst he; obtain ⟨t, rfl⟩ := ru; exact .bool_int _ _ _
    | str b => unfold RepD at he; subst he; obtain ⟨t, rfl⟩ := ru; exact .bool_str _ _ _
    | tup es => unfold RepD at he; obtain ⟨a, vs, rfl, q, _⟩ := he; cases ru; obtain ⟨its, _, q⟩ := isT q; exact .bool_tuple _ q hu0
    | lst es => unfold RepD at he; obtain ⟨a, vs, rfl, q, _⟩ := he; cases ru; obtain ⟨its, _, q⟩ := isL q; exact .bool_list _ q hu0
  | int x =>
    unfold RepD at hv; subst hv; obtain ⟨t0, rfl⟩ := rv
    cases e with
    | non => unfold RepD at he; subst he; cases ru; exact .int_none _ _
    | bl b => unfold RepD at he; subst he; cases ru; exact .int_bool _ _ _
    | int b => unfold RepD at he; subst he; obtain ⟨t, rfl⟩ := ru; exact .int_int _ _ _ _
    | str b => unfold RepD at he; subst he; obtain ⟨t, rfl⟩ := ru; exact .int_str _ _ _ _
    | tup es => unfold RepD at he; obtain ⟨a, vs, rfl, q, _⟩ := he; cases ru; obtain ⟨its, _, q⟩ := isT q; exact .int_tuple _ _ q hu0
    | lst es => unfold RepD at he; obtain ⟨a, vs, rfl, q, _⟩ := he; cases ru; obtain ⟨its, _, q⟩ := isL q; exact .int_list _ _ q hu0
  | str x =>
    unfold RepD at hv; subst hv; obtain ⟨t0, rfl⟩ := rv
    cases e with
    | non => unfold RepD at he; subst he; cases ru; exact .str_none _ _
    | bl b => unfold RepD at he; subst he; cases ru; exact .str_bool _ _ _
    | int b => unfold RepD at he; subst he; obtain ⟨t, rfl⟩ := ru; exact .str_int _ _ _ _
    | str b => unfold RepD at he; subst he; obtain ⟨t, rfl⟩ := ru; exact .str_str _ _ _ _
    | tup es => unfold RepD at he; obtain ⟨a, vs, rfl, q, _⟩ := he; cases ru; obtain ⟨its, _, q⟩ := isT q; exact .str_tuple _ _ q hu0
    | lst es => unfold RepD at he; obtain ⟨a, vs, rfl, q, _⟩ := he; cases ru; obtain ⟨its, _, q⟩ := isL q; exact .str_list _ _ q hu0
  | tup ds =>
    unfold RepD at hv
    obtain ⟨a, vs, rfl, q, hq⟩ := hv
    cases rv
    obtain ⟨its, r1, q1⟩ := isT q
    cases e with
    | non => unfold RepD at he; subst he; cases ru; exact .tuple_none q1 hu0
    | bl b => unfold RepD at he; subst he; cases ru; exact .tuple_bool _ q1 hu0
    | int b => unfold RepD at he; subst he; obtain ⟨t, rfl⟩ := ru; exact .tuple_int _ _ q1 hu0
    | str b => unfold RepD at he; subst he; obtain ⟨t, rfl⟩ := ru; exact .tuple_str _ _ q1 hu0
    | lst es => unfold RepD at he; obtain ⟨b, ws, rfl, g, _⟩ := he; cases ru; obtain ⟨its2, _, g1⟩ := isL g; exact .tuple_list q1 g1 hu0
    | tup es =>
      unfold RepD at he
      obtain ⟨b, ws, rfl, g, hg⟩ := he
      cases ru
      obtain ⟨its2, r2, g1⟩ := isT g
      have hd' : depths ds + 1 ≤ 60 := by simpa [D.depth] using hd
      have l1 := r1.length
      have l2 := r2.length
      have m1 := hq.length
      have m2 := hg.length
      have := SeqAt.RcNeAt.tuples (e := eqAtI ds es) q1 g1 hu0 (items_eq I (fun {A} {v} {u} {vv} {uu} {d} {e} a1 a2 a3 a4 a5 a6 => (rcAt_D I 60 a1 a2 a3 a4 a5 a6).2) (A := A.in1) (by rw [in1_units]; omega) (m := 60) (by omega) r1 r2 hq hg)
      rw [List.size_toArray, List.size_toArray] at this
      unfold eqD
      by_cases hl : ds.length = es.length
      · have z : (its.length == its2.length) = true := by rw [beq_iff_eq]; omega
        have mm : min its.length its2.length = ds.length := by omega
        rw [z, Bool.and_true, mm, eqDs_range hl] at this
        exact this
      · have z : (its.length == its2.length) = false := by rw [beq_eq_false_iff_ne]; omega
        rw [z, Bool.and_false] at this
        rw [eqDs_lengths hl]
        exact this
  | lst ds =>
    unfold RepD at hv
    obtain ⟨a, vs, rfl, q, hq⟩ := hv
    cases rv
    obtain ⟨its, r1, q1⟩ := isL q
    cases e with
    | non => unfold RepD at he; subst he; cases ru; exact .list_none q1 hu0
    | bl b => unfold RepD at he; subst he; cases ru; exact .list_bool _ q1 hu0
    | int b => unfold RepD at he; subst he; obtain ⟨t, rfl⟩ := ru; exact .list_int _ _ q1 hu0
    | str b => unfold RepD at he; subst he; obtain ⟨t, rfl⟩ := ru; exact .list_str _ _ q1 hu0
    | tup es => unfold RepD at he; obtain ⟨b, ws, rfl, g, _⟩ := he; cases ru; obtain ⟨its2, _, g1⟩ := isT g; exact .list_tuple q1 g1 hu0
    | lst es =>
      unfold RepD at he
      obtain ⟨b, ws, rfl, g, hg⟩ := he
      cases ru
      obtain ⟨its2, r2, g1⟩ := isL g
      have hd' : depths ds + 1 ≤ 60 := by simpa [D.depth] using hd
      have l1 := r1.length
      have l2 := r2.length
      have m1 := hq.length
      have m2 := hg.length
      unfold eqD
      by_cases hl : ds.length = es.length
      · have := SeqAt.RcNeAt.lists (e := eqAtI ds es) q1 g1 (by rw [List.size_toArray, List.size_toArray]; omega) hu0 (items_eq I (fun {A} {v} {u} {vv} {uu} {d} {e} a1 a2 a3 a4 a5 a6 => (rcAt_D I 60 a1 a2 a3 a4 a5 a6).2) (A := A.in1) (by rw [in1_units]; omega) (m := 60) (by omega) r1 r2 hq hg)
        rw [List.size_toArray, show its.length = ds.length by omega, eqDs_range hl] at this
        exact this
      · rw [eqDs_lengths hl]
        exact SeqAt.RcNeAt.lists_lengths q1 g1 (by rw [List.size_toArray, List.size_toArray, bne_iff_ne]; omega) hu0
theorem op_neD (hu : X.A.units + 64 < cLine) (hK : X.K = K := by rfl) : OpR X (compareOp .NotEq) (rNeD K) := by
  subst hK
  intro pins s σ H x y v u Q I rx ry h
  obtain ⟨d, e, hd, he, hz, q⟩ := h
  exact rcne_D I hz (by omega) rx ry hd he X.prog X.w _ _ ⟨.bl _, H, I, rfl, q⟩
end
end L2
set_option Elab.async false
set_option linter.all false
set_option maxRecDepth 100000
namespace L2
open PySem PySem.Spec PyProof.Rows
abbrev natsV (ks : List Nat) : List V := ks.map fun j => V.int (j : Nat)
abbrev natsD (ks : List Nat) : List D := ks.map fun j => D.int (j : Nat)
end L2
set_option Elab.async false
set_option linter.all false
namespace L2
open PySem PySem.Spec PyProof.Rows
end L2
set_option Elab.async false
set_option linter.all false
set_option maxRecDepth 100000
namespace L2
open PySem PySem.Spec PyProof.Rows
section
variable {X : Cx}
end
end L2
set_option Elab.async false
set_option linter.all false
namespace L2
open PySem PySem.Spec PyProof.Rows
theorem PSs.pre {X : Cx} {sts : List Stmt} {u P : TS} (h : PSs X sts u) (hw : ∀ D σ H, P D σ H → u D σ H) : PSs X sts P := fun pins s σ H D I hp => h pins s σ H D I (hw D σ H hp)
end L2
set_option Elab.async false
set_option linter.all false
set_option maxRecDepth 100000
namespace L2
open PySem PySem.Spec PyProof.Rows
section
variable {X : Cx}
end
structure Net where
  m : Nat
  js : List (Nat × Nat)
  os : List Nat
def stepRows (rows : List Nat) (p : Nat × Nat) : List Nat := rows ++ [rows.getD p.1 0 ^^^ rows.getD p.2 0]
def ownRows (m : Nat) : List Nat := (List.range m).map fun k => 1 <<< k
def rowsN (N : Net) : List Nat := N.js.foldl stepRows (ownRows N.m)
def okIx : Nat → List (Nat × Nat) → Prop
  | _, [] => True
  | n, p :: r => p.1 < p.2 ∧ p.2 < n ∧ okIx (n + 1) r
def okJs : List Nat → List (Nat × Nat) → Prop
  | _, [] => True
  | rows, p :: r => p.1 < p.2 ∧ p.2 < rows.length ∧ rows.getD p.1 0 ≠ rows.getD p.2 0 ∧ okJs (stepRows rows p) r
theorem step_len (rows : List Nat) (p : Nat × Nat) : (stepRows rows p).length = rows.length + 1 := by simp [stepRows]
theorem fold_len (js : List (Nat × Nat)) : ∀ rows : List Nat, (js.foldl stepRows rows).length = rows.length + js.length := by
  induction js with
  | nil => intro rows; rfl
  | cons p r ih => intro rows; rw [List.foldl_cons, ih, step_len, List.length_cons]; omega
theorem own_len (m : Nat) : (ownRows m).length = m := by simp [ownRows]
section
variable {K : PySem.W.Frag} {H H' : Hp}
end
end L2
set_option Elab.async false
set_option linter.all false
set_option maxRecDepth 100000
namespace L2
open PySem PySem.Spec PyProof.Rows
def PairsAt (K : PySem.W.Frag) (H : Hp) : List V → List (Nat × Nat) → Prop
  | [], [] => True
  | v :: vs, p :: ps => (∃ a, v = .ref a ∧ StT H a [.int (p.1 : Nat), .int (p.2 : Nat)]) ∧ PairsAt K H vs ps
  | _, _ => False
section
variable {K : PySem.W.Frag} {H H' : Hp}
def KeepT (K : PySem.W.Frag) (H H' : Hp) : Prop := ∀ a xs, StT H a xs → StT H' a xs
theorem KeepT.trans {H1 : Hp} (a : KeepT K H H1) (b : KeepT K H1 H') : KeepT K H H' := fun x xs q => b x xs (a x xs q)
theorem PairsAt.keep (k : KeepT K H H') : ∀ {vs : List V} {ps : List (Nat × Nat)}, PairsAt K H vs ps → PairsAt K H' vs ps
  | [], [], _ => trivial
  | v :: vs, p :: ps, ⟨⟨a, e, h⟩, t⟩ => ⟨⟨a, e, k _ _ h⟩, t.keep k⟩
  | [], _ :: _, h => h.elim
  | _ :: _, [], h => h.elim
theorem PairsAt.snoc {v : V} {p : Nat × Nat} (hv : ∃ a, v = .ref a ∧ StT H a [.int (p.1 : Nat), .int (p.2 : Nat)]) : ∀ {vs : List V} {ps : List (Nat × Nat)}, PairsAt K H vs ps → PairsAt K H (vs ++ [v]) (ps ++ [p])
  | [], [], _ => ⟨hv, trivial⟩
  | _ :: _, _ :: _, ⟨h, t⟩ => ⟨h, t.snoc hv⟩
  | [], _ :: _, h => h.elim
  | _ :: _, [], h => h.elim
theorem PairsAt.length : ∀ {vs : List V} {ps : List (Nat × Nat)}, PairsAt K H vs ps → vs.length = ps.length
  | [], [], _ => rfl
  | _ :: _, _ :: _, ⟨_, t⟩ => by rw [List.length_cons, List.length_cons, t.length]
  | [], _ :: _, h => h.elim
  | _ :: _, [], h => h.elim
theorem Grow.keepT {t : Addr} {kvs : List (Key × V)} (g : Grow t H H') (ht : H t = some (.dK kvs)) : KeepT K H H' := fun _ _ q => g _ _ q (ne_of q ht (by intro z; cases z))
theorem Same.keepT (s : Same H H') : KeepT K H H' := fun _ _ q => s _ _ q
end
structure Mid (K : PySem.W.Frag) (t lr lj : Addr) (m : Nat) (js : List (Nat × Nat)) (H0 H : Hp) : Prop where
  rows : H lr = some (.lst (natsV (js.foldl stepRows (ownRows m))))
  joins : ∃ ps, H lj = some (.lst ps) ∧ PairsAt K H ps js
  ok : okJs (ownRows m) js
  gr : Grow t H0 H
  fr : H0 lr = none
  fj : H0 lj = none
  ne : lr ≠ lj
  td : ∃ kvs, H t = some (.dK kvs)
theorem Mid.grow {K : PySem.W.Frag} {t lr lj : Addr} {m : Nat} {js : List (Nat × Nat)} {H0 H H' : Hp} (M : Mid K t lr lj m js H0 H) (g : Grow t H H') (T : ∃ kvs, H' t = some (.dK kvs)) : Mid K t lr lj m js H0 H' := by
  obtain ⟨kvs, ht⟩ := M.td
  obtain ⟨ps, h1, h2⟩ := M.joins
  exact ⟨g _ _ M.rows (ne_of M.rows ht (by intro z; cases z)), ⟨ps, g _ _ h1 (ne_of h1 ht (by intro z; cases z)), h2.keep (g.keepT ht)⟩, M.ok, M.gr.trans g, M.fr, M.fj, M.ne, T⟩
theorem Mid.len {K : PySem.W.Frag} {t lr lj : Addr} {m : Nat} {js : List (Nat × Nat)} {H0 H : Hp} (M : Mid K t lr lj m js H0 H) : (natsV (js.foldl stepRows (ownRows m))).length = m + js.length := by
  rw [List.length_map, fold_len, own_len]
end L2
set_option Elab.async false
set_option linter.all false
set_option maxRecDepth 100000
namespace L2
open PySem PySem.Spec PyProof.Rows
inductive Sv where
  | un | vl (d : D) | ow (ds : List D) | tp (n : Nat) | dk (kvs : List (Key × D)) | dt (kvs : List (List Key × D)) | ex (C : Addr) (fs : Option (List (Str × D))) | sc (ns : List Int) | px (d : D) (C : Addr) (fs : Option (List (Str × D))) | xl (es : List (Addr × Option (List (Str × D))))
def Sv.own : Sv → Bool
  | .ow _ => true
  | .tp _ => true
  | .dk _ => true
  | .dt _ => true
  | _ => false
abbrev En := List Sv
inductive R where
  | d (d : D) | o (i : Nat) | n (s : Sv) | t (n : String) | x (s : Sv)
abbrev R.f (ds : List D) : R := .n (.ow ds)
def gt : En → Nat → Sv
  | [], _ => .un
  | s :: _, 0 => s
  | _ :: r, n + 1 => gt r n
def pt : En → Nat → Sv → En
  | [], _, _ => []
  | _ :: r, 0, s => s :: r
  | x :: r, n + 1, s => x :: pt r n s
theorem pt_len : ∀ (ρ : En) (i : Nat) (s : Sv), (pt ρ i s).length = ρ.length
  | [], _, _ => rfl
  | _ :: _, 0, _ => rfl
  | x :: r, n + 1, s => by simp [pt, pt_len r n s]
theorem gt_pt_ne : ∀ (ρ : En) (i j : Nat) (s : Sv), i ≠ j → gt (pt ρ i s) j = gt ρ j
  | [], _, _, _, _ => rfl
  | _ :: _, 0, 0, _, h => absurd rfl h
  | _ :: _, 0, j + 1, _, _ => rfl
  | x :: r, i + 1, 0, s, _ => rfl
  | x :: r, i + 1, j + 1, s, h => gt_pt_ne r i j s (by omega)
theorem gt_pt : ∀ (ρ : En) (i : Nat) (s : Sv), i < ρ.length → gt (pt ρ i s) i = s
  | [], _, _, h => by simp at h
  | _ :: _, 0, _, _ => rfl
  | x :: r, i + 1, s, h => gt_pt r i s (by simpa using h)
theorem gt_out : ∀ (ρ : En) (i : Nat), ρ.length ≤ i → gt ρ i = .un
  | [], _, _ => rfl
  | x :: r, 0, h => by simp at h
  | x :: r, i + 1, h => gt_out r i (by simpa using h)
theorem own_lt {ρ : En} {i : Nat} (h : (gt ρ i).own = true) : i < ρ.length := by
  rcases Nat.lt_or_ge i ρ.length with q | q
  · exact q
  · rw [gt_out ρ i q] at h; cases h
def owned (σ : St) (ρ : En) (a : Addr) : Prop := ∃ i, (gt ρ i).own = true ∧ σ[i]? = some (some (.ref a))
open Classical in
noncomputable def hid (H : Hp) (S : Addr → Prop) : Hp := fun a => if S a then none else H a
theorem hid_some {H : Hp} {S : Addr → Prop} {a : Addr} {o : HO} : hid H S a = some o ↔ ¬ S a ∧ H a = some o := by
  unfold hid
  split
  · rename_i h; simp [h]
  · rename_i h; simp [h]
theorem hid_of {H : Hp} {S : Addr → Prop} {a : Addr} {o : HO} (h : ¬ S a) (e : H a = some o) : hid H S a = some o := hid_some.mpr ⟨h, e⟩
theorem hid_same {H H' : Hp} {S S' : Addr → Prop} (h : ∀ a o, H a = some o → ¬ S a → H' a = some o ∧ ¬ S' a) : Same (hid H S) (hid H' S') := fun a o e => by
  obtain ⟨n, e⟩ := hid_some.mp e
  obtain ⟨e', n'⟩ := h a o e n
  exact hid_of n' e'
theorem hid_sub {H : Hp} {S : Addr → Prop} : Same (hid H S) H := fun a o e => (hid_some.mp e).2
structure Fr where
  H0 : Hp
  Z : Addr → Prop
  M : Addr → Prop
  I : Nat → Addr → Prop
  P : Nat → Addr → Prop
def Fr.pin (F : Fr) (i : Nat) (a : Addr) : Prop := F.I i a ∨ F.P i a
def hs (F : Fr) (σ : St) (ρ : En) : Addr → Prop := fun a => F.Z a ∨ owned σ ρ a
def exP (e C : Addr) (od : Option Addr) : Heap → Prop := fun h => ∃ oe vs, h.get? e = some oe ∧ oe.cls = .ref C ∧ oe.dict = od ∧ oe.data = .fields vs
def exD (K : PySem.W.Frag) (Hh : Hp) : Option (List (Str × D)) → Option Addr → Prop
  | none, none => True
  | some fs, some dx => ∃ ks, Hh dx = some (.xd ks) ∧ ks.map Prod.fst = fs.map Prod.fst ∧ RepDs K Hh (ks.map Prod.snd) (fs.map Prod.snd)
  | _, _ => False
theorem exD.same {K : PySem.W.Frag} {Hh Hh' : Hp} : ∀ {fs : Option (List (Str × D))} {od : Option Addr}, exD K Hh fs od → Same Hh Hh' → exD K Hh' fs od
  | none, none, h, _ => h
  | some fs, some dx, ⟨ks, h1, h2, h3⟩, g => ⟨ks, g _ _ h1, h2, h3.same g⟩
  | none, some _, h, _ => h.elim
  | some _, none, h, _ => h.elim
def Exs (K : PySem.W.Frag) (Hh : Hp) : List V → List (Addr × Option (List (Str × D))) → Prop
  | [], [] => True
  | x :: vs, c :: es => (∃ e od, x = .ref e ∧ Hh e = some (.ext (exP e c.1 od)) ∧ exD K Hh c.2 od) ∧ Exs K Hh vs es
  | _, _ => False
theorem Exs.same {K : PySem.W.Frag} {Hh Hh' : Hp} : ∀ {vs : List V} {es : List (Addr × Option (List (Str × D)))}, Exs K Hh vs es → Same Hh Hh' → Exs K Hh' vs es
  | [], [], h, _ => h
  | x :: vs, c :: es, ⟨⟨e, od, h1, h2, h3⟩, h4⟩, g => ⟨⟨e, od, h1, g _ _ h2, h3.same g⟩, Exs.same h4 g⟩
  | [], _ :: _, h, _ => h.elim
  | _ :: _, [], h, _ => h.elim
def SvOk (K : PySem.W.Frag) (Hh H : Hp) (v : Option (Option V)) : Sv → Prop
  | .xl es => ∃ l vs, v = some (some (.ref l)) ∧ Hh l = some (.lst vs) ∧ Exs K Hh vs es
  | .px d C fs => ∃ p x e od, v = some (some (.ref p)) ∧ Hh p = some (.tup [x, .ref e]) ∧ RepD K Hh x d ∧ Hh e = some (.ext (exP e C od)) ∧ exD K Hh fs od
  | .sc ns => ∃ c, v = some (some (.ref c)) ∧ SqL K Hh c (List.map V.int ns)
  | .ex C fs => ∃ e od, v = some (some (.ref e)) ∧ Hh e = some (.ext (exP e C od)) ∧ exD K Hh fs od
  | .un => True
  | .vl d => ∃ x, v = some (some x) ∧ RepD K Hh x d
  | .ow ds => ∃ l vs, v = some (some (.ref l)) ∧ H l = some (.lst vs) ∧ RepDs K Hh vs ds
  | .tp n => ∃ t c ns sp lf, v = some (some (.ref t)) ∧ H t = some (.dK (tapeK c sp lf)) ∧ SqL K Hh c (List.map V.int ns) ∧ 0 ≤ sp ∧ sp ≤ n ∧ 0 ≤ lf
  | .dk kvs => ∃ t ks, v = some (some (.ref t)) ∧ H t = some (.dK ks) ∧ ks.map Prod.fst = kvs.map Prod.fst ∧ RepDs K Hh (ks.map Prod.snd) (kvs.map Prod.snd)
  | .dt kvs => ∃ t ks, v = some (some (.ref t)) ∧ H t = some (.dT ks) ∧ ks.map Prod.fst = kvs.map Prod.fst ∧ RepDs K Hh (ks.map Prod.snd) (kvs.map Prod.snd)
theorem SvOk.keep {K : PySem.W.Frag} {Hh Hh' H H' : Hp} {v : Option (Option V)} {s : Sv} (h : SvOk K Hh H v s) (g : Same Hh Hh') (k : ∀ l o, s.own = true → v = some (some (.ref l)) → H l = some o → H' l = some o) : SvOk K Hh' H' v s := by
  cases s with
  | un => trivial
  | vl d => obtain ⟨x, e, r⟩ := h; exact ⟨x, e, r.same g⟩
  | ow ds => obtain ⟨l, vs, e, a, r⟩ := h; exact ⟨l, vs, e, k _ _ rfl e a, r.same g⟩
  | tp n => obtain ⟨t, c, ns, sp, lf, e, a, b, r⟩ := h; exact ⟨t, c, ns, sp, lf, e, k _ _ rfl e a, g.seq b, r⟩
  | dk kvs => obtain ⟨t, ks, e, a, b, r⟩ := h; exact ⟨t, ks, e, k _ _ rfl e a, b, r.same g⟩
  | dt kvs => obtain ⟨t, ks, e, a, b, r⟩ := h; exact ⟨t, ks, e, k _ _ rfl e a, b, r.same g⟩
  | ex C fs => obtain ⟨t, od, e, a, b⟩ := h; exact ⟨t, od, e, g _ _ a, b.same g⟩
  | sc ns => obtain ⟨c, e, a⟩ := h; exact ⟨c, e, g.seq a⟩
  | px d C fs => obtain ⟨p, x, e, od, a, b, c, d', e'⟩ := h; exact ⟨p, x, e, od, a, g _ _ b, c.same g, g _ _ d', e'.same g⟩
  | xl es => obtain ⟨p, vs, a, b, c⟩ := h; exact ⟨p, vs, a, g _ _ b, c.same g⟩
theorem SvOk.alive {K : PySem.W.Frag} {Hh H : Hp} {v : Option (Option V)} {s : Sv} (h : SvOk K Hh H v s) (ho : s.own = true) : ∃ l o, v = some (some (.ref l)) ∧ H l = some o := by
  cases s with
  | un => cases ho
  | vl d => cases ho
  | ow ds => obtain ⟨l, vs, e, a, r⟩ := h; exact ⟨l, _, e, a⟩
  | tp n => obtain ⟨t, c, ns, sp, lf, e, a, b, r⟩ := h; exact ⟨t, _, e, a⟩
  | dk kvs => obtain ⟨t, ks, e, a, b, r⟩ := h; exact ⟨t, _, e, a⟩
  | dt kvs => obtain ⟨t, ks, e, a, b, r⟩ := h; exact ⟨t, _, e, a⟩
  | ex C fs => cases ho
  | sc ns => cases ho
  | px d C fs => cases ho
  | xl es => cases ho
def Nt (H : Hp) (a : Addr) : Prop := H a ≠ none ∧ ∀ xs, H a ≠ some (.tup xs)
theorem nt_upd {H : Hp} {a l : Addr} {o : HO} (al : a ≠ l) (h : Nt H a) : Nt (upd H l o) a := by unfold Nt; rw [upd_ne al]; exact h
structure Rel (K : PySem.W.Frag) (F : Fr) (σ : St) (ρ : En) (H : Hp) : Prop where
  len : σ.length = ρ.length
  fr : ∀ a o, F.H0 a = some o → ¬ F.M a → H a = some o
  zl : ∀ a, F.Z a → Nt H a
  zo : ∀ a, owned σ ρ a → ¬ F.Z a
  ow : ∀ i a, (gt ρ i).own = true → σ[i]? = some (some (.ref a)) → (F.I i a ∧ F.M a) ∨ F.H0 a = none
  mi : ∀ i a, F.pin i a → σ[i]? = some (some (.ref a))
  ml : ∀ a, F.M a → F.H0 a ≠ none
  ma : ∀ a, F.M a → H a ≠ none
  nd : ∀ i j a, (gt ρ i).own = true → (gt ρ j).own = true → σ[i]? = some (some (.ref a)) → σ[j]? = some (some (.ref a)) → i = j
  sl : ∀ i, SvOk K (hid H (hs F σ ρ)) H σ[i]? (gt ρ i)
structure Kp (σ : St) (ρ ρ' : En) (H H' : Hp) : Prop where
  st : ∀ a o, H a = some o → ¬ owned σ ρ a → H' a = some o
  sb : ∀ i, (gt ρ' i).own = true → (gt ρ i).own = true
theorem Kp.so {σ : St} {ρ ρ' : En} {H H' : Hp} (k : Kp σ ρ ρ' H H') {a : Addr} (h : owned σ ρ' a) : owned σ ρ a := by
  obtain ⟨i, hi, e⟩ := h
  exact ⟨i, k.sb i hi, e⟩
theorem Kp.refl {σ : St} {ρ : En} {H : Hp} : Kp σ ρ ρ H H := ⟨fun _ _ e _ => e, fun _ h => h⟩
theorem Kp.trans {σ : St} {ρ ρ1 ρ2 : En} {H H1 H2 : Hp} (a : Kp σ ρ ρ1 H H1) (b : Kp σ ρ1 ρ2 H1 H2) : Kp σ ρ ρ2 H H2 :=
  ⟨fun x o e n => b.st x o (a.st x o e n) fun z => n (a.so z), fun x z => a.sb x (b.sb x z)⟩
theorem Kp.fresh {σ : St} {ρ : En} {H : Hp} {l : Addr} {o : HO} (h : H l = none) : Kp σ ρ ρ H (upd H l o) :=
  ⟨fun a u e _ => by rw [upd_ne (ne_of_none e h)]; exact e, fun _ h => h⟩
section
variable {K : PySem.W.Frag} {F : Fr} {σ : St} {ρ ρ' : En} {H H' : Hp}
theorem owned_alive (r : Rel K F σ ρ H) {a : Addr} (h : owned σ ρ a) : H a ≠ none := by
  obtain ⟨i, hi, e⟩ := h
  obtain ⟨l, o, e', h'⟩ := (r.sl i).alive hi
  rw [e] at e'; injection e' with e'; injection e' with e'; injection e' with e'
  rw [e', h']; exact fun z => nomatch z
theorem hs_alive (r : Rel K F σ ρ H) {a : Addr} (h : hs F σ ρ a) : H a ≠ none := by
  rcases h with h | h
  · exact (r.zl a h).1
  · exact owned_alive r h
theorem SvOk.nt {K : PySem.W.Frag} {Hh H : Hp} {v : Option (Option V)} {s : Sv} (h : SvOk K Hh H v s) (ho : s.own = true) : ∃ l, v = some (some (.ref l)) ∧ Nt H l := by
  cases s with
  | un => cases ho
  | vl d => cases ho
  | ow ds => obtain ⟨l, vs, e, a, r⟩ := h; exact ⟨l, e, by rw [a]; exact (fun z => nomatch z), by rw [a]; exact fun _ z => nomatch z⟩
  | tp n => obtain ⟨l, c, ns, sp, lf, e, a, b, r⟩ := h; exact ⟨l, e, by rw [a]; exact (fun z => nomatch z), by rw [a]; exact fun _ z => nomatch z⟩
  | dk kvs => obtain ⟨l, ks, e, a, b, r⟩ := h; exact ⟨l, e, by rw [a]; exact (fun z => nomatch z), by rw [a]; exact fun _ z => nomatch z⟩
  | dt kvs => obtain ⟨l, ks, e, a, b, r⟩ := h; exact ⟨l, e, by rw [a]; exact (fun z => nomatch z), by rw [a]; exact fun _ z => nomatch z⟩
  | ex C fs => cases ho
  | sc ns => cases ho
  | px d C fs => cases ho
  | xl es => cases ho
theorem owned_nt (r : Rel K F σ ρ H) {a : Addr} (h : owned σ ρ a) : Nt H a := by
  obtain ⟨i, hi, e⟩ := h
  obtain ⟨l, e', h'⟩ := (r.sl i).nt hi
  rw [e] at e'; injection e' with e'; injection e' with e'; injection e' with e'
  rw [e']; exact h'
theorem hs_nt (r : Rel K F σ ρ H) {a : Addr} (h : hs F σ ρ a) : Nt H a := by
  rcases h with h | h
  · exact r.zl a h
  · exact owned_nt r h
theorem fresh_vis (r : Rel K F σ ρ H) {l : Addr} (h : H l = none) : ¬ hs F σ ρ l := fun z => hs_alive r z h
theorem fresh_H0 (r : Rel K F σ ρ H) {l : Addr} (h : H l = none) : F.H0 l = none := by
  cases h0 : F.H0 l with
  | none => rfl
  | some o =>
    by_cases q : F.M l
    · exact absurd h (r.ma l q)
    · have := r.fr l o h0 q
      rw [h] at this; cases this
theorem Kp.vis (k : Kp σ ρ ρ' H H') : Same (hid H (hs F σ ρ)) (hid H' (hs F σ ρ')) := hid_same fun a o e n =>
  ⟨k.st a o e fun z => n (.inr z), fun z => by
    rcases z with z | z
    · exact n (.inl z)
    · exact n (.inr (k.so z))⟩
theorem grow_alive {a : Addr} (g : Same H H') (h : H a ≠ none) : H' a ≠ none := fun e => by
  cases h' : H a with
  | none => exact h h'
  | some o => rw [g a o h'] at e; cases e
theorem grow_nt {a : Addr} (g : Same H H') (h : Nt H a) : Nt H' a := by
  cases h' : H a with
  | none => exact (h.1 h').elim
  | some o =>
    have e := g a o h'
    unfold Nt
    rw [e, ← h']; exact h
theorem Rel.grow (r : Rel K F σ ρ H) (g : Same H H') : Rel K F σ ρ H' where
  len := r.len
  fr := fun a o e n => g a o (r.fr a o e n)
  zl := fun a z => grow_nt g (r.zl a z)
  zo := r.zo
  ow := r.ow
  mi := r.mi
  ml := r.ml
  ma := fun a z => grow_alive g (r.ma a z)
  nd := r.nd
  sl := fun i => (r.sl i).keep (hid_same fun a o e n => ⟨g a o e, n⟩) fun l o _ _ e => g l o e
theorem Rel.fresh (r : Rel K F σ ρ H) {l : Addr} {o : HO} (h : H l = none) : Rel K F σ ρ (upd H l o) := r.grow ((Same.refl H).new h)
theorem pt_out : ∀ (ρ : En) (i : Nat) (s : Sv), ρ.length ≤ i → pt ρ i s = ρ
  | [], _, _, _ => rfl
  | x :: r, 0, s, h => by simp at h
  | x :: r, i + 1, s, h => by simp [pt, pt_out r i s (by simpa using h)]
theorem own_set {i j : Nat} {s : Sv} (hs : s.own = false) (hj : (gt (pt ρ i s) j).own = true) : i ≠ j ∧ (gt ρ j).own = true := by
  by_cases ij : i = j
  · subst ij
    rcases Nat.lt_or_ge i ρ.length with q | q
    · rw [gt_pt ρ i s q, hs] at hj; cases hj
    · rw [gt_out _ i (by rw [pt_len]; exact q)] at hj; cases hj
  · rw [gt_pt_ne ρ i j s ij] at hj
    exact ⟨ij, hj⟩
theorem Rel.setS (r : Rel K F σ ρ H) {i : Nat} {v : V} {s : Sv} (hs' : s.own = false) (hd : SvOk K (hid H (hs F σ ρ)) H (some (some v)) s) (hm : ∀ a, ¬ F.pin i a) : Rel K F (σ.set i (some v)) (pt ρ i s) H := by
  rcases Nat.lt_or_ge i ρ.length with hi | hi
  case inr =>
    rw [pt_out ρ i s hi, List.set_eq_of_length_le (by rw [r.len]; exact hi)]; exact r
  have sub : ∀ a, owned (σ.set i (some v)) (pt ρ i s) a → owned σ ρ a := fun a ⟨j, hj, e⟩ => by
    obtain ⟨ij, hj⟩ := own_set hs' hj
    rw [List.getElem?_set_ne ij] at e
    exact ⟨j, hj, e⟩
  have vis : Same (hid H (hs F σ ρ)) (hid H (hs F (σ.set i (some v)) (pt ρ i s))) := hid_same fun a o e n => ⟨e, fun z => n (z.imp id (sub a))⟩
  refine ⟨by rw [List.length_set, pt_len, r.len], r.fr, r.zl, fun a h => r.zo a (sub a h), fun j a hj e => ?_, fun j a h => ?_, r.ml, r.ma, fun j k a hj hk ej ek => ?_, fun j => ?_⟩
  · obtain ⟨ij, hj⟩ := own_set hs' hj
    rw [List.getElem?_set_ne ij] at e
    exact r.ow j a hj e
  · have : i ≠ j := fun e => hm a (e ▸ h)
    rw [List.getElem?_set_ne this]; exact r.mi j a h
  · obtain ⟨nj, hj⟩ := own_set hs' hj
    obtain ⟨nk, hk⟩ := own_set hs' hk
    rw [List.getElem?_set_ne nj] at ej
    rw [List.getElem?_set_ne nk] at ek
    exact r.nd j k a hj hk ej ek
  · by_cases ij : i = j
    · subst ij
      rw [gt_pt ρ i _ hi, List.getElem?_set_self (by rw [r.len]; exact hi)]
      exact hd.keep vis fun l o ho => by rw [hs'] at ho; cases ho
    · rw [gt_pt_ne ρ i j _ ij, List.getElem?_set_ne ij]
      exact (r.sl j).keep vis fun l o _ _ e => e
theorem Rel.set (r : Rel K F σ ρ H) {i : Nat} {v : V} {d : D} (hd : RepD K (hid H (hs F σ ρ)) v d) (hm : ∀ a, ¬ F.pin i a) : Rel K F (σ.set i (some v)) (pt ρ i (.vl d)) H :=
  r.setS rfl ⟨v, rfl, hd⟩ hm
theorem Rel.setF (r : Rel K F σ ρ H) {i : Nat} {l : Addr} {o : HO} {s : Sv} (hs' : s.own = true) (hd : SvOk K (hid H (hs F σ ρ)) (upd H l o) (some (some (.ref l))) s) (hn : H l = none) (hm : ∀ a, ¬ F.pin i a) :
    Rel K F (σ.set i (some (.ref l))) (pt ρ i s) (upd H l o) := by
  have rf := r.fresh (o := o) hn
  rcases Nat.lt_or_ge i ρ.length with hi | hi
  case inr =>
    rw [pt_out ρ i s hi, List.set_eq_of_length_le (by rw [r.len]; exact hi)]; exact rf
  have at1 : ∀ {a}, (σ.set i (some (V.ref l)))[i]? = some (some (.ref a)) → a = l := fun e => by
    rw [List.getElem?_set_self (by rw [r.len]; exact hi)] at e
    injection e with e; injection e with e; injection e with e
    exact e.symm
  have sub : ∀ a, owned (σ.set i (some (.ref l))) (pt ρ i s) a → owned σ ρ a ∨ a = l := fun a h => by
    obtain ⟨j, hj, e⟩ := h
    by_cases ij : i = j
    · subst ij; exact .inr (at1 e)
    · rw [gt_pt_ne ρ i j _ ij] at hj
      rw [List.getElem?_set_ne ij] at e
      exact .inl ⟨j, hj, e⟩
  have vis : Same (hid H (hs F σ ρ)) (hid (upd H l o) (hs F (σ.set i (some (.ref l))) (pt ρ i s))) := hid_same fun a u e n => by
    have al := ne_of_none e hn
    refine ⟨by rw [upd_ne al]; exact e, fun z => ?_⟩
    rcases z with z | z
    · exact n (.inl z)
    · rcases sub a z with z | z
      · exact n (.inr z)
      · exact al z
  have nol : ∀ j, (gt ρ j).own = true → σ[j]? ≠ some (some (.ref l)) := fun j hj e => owned_alive r ⟨j, hj, e⟩ hn
  refine ⟨by rw [List.length_set, pt_len, r.len], rf.fr, rf.zl, fun a h => ?_, fun j a hj e => ?_, fun j a h => ?_, r.ml, rf.ma, fun j k a hj hk ej ek => ?_, fun j => ?_⟩
  · rcases sub a h with h | h
    · exact r.zo a h
    · subst h; exact fun z => (r.zl _ z).1 hn
  · by_cases ij : i = j
    · subst ij
      rw [at1 e]; exact .inr (fresh_H0 r hn)
    · rw [gt_pt_ne ρ i j _ ij] at hj
      rw [List.getElem?_set_ne ij] at e
      exact r.ow j a hj e
  · have : i ≠ j := fun e => hm a (e ▸ h)
    rw [List.getElem?_set_ne this]; exact r.mi j a h
  · by_cases nj : i = j
    · by_cases nk : i = k
      · omega
      · subst nj
        have := at1 ej
        subst this
        rw [gt_pt_ne ρ i k _ nk] at hk
        rw [List.getElem?_set_ne nk] at ek
        exact absurd ek (nol k hk)
    · rw [gt_pt_ne ρ i j _ nj] at hj
      rw [List.getElem?_set_ne nj] at ej
      by_cases nk : i = k
      · subst nk
        have := at1 ek
        subst this
        exact absurd ej (nol j hj)
      · rw [gt_pt_ne ρ i k _ nk] at hk
        rw [List.getElem?_set_ne nk] at ek
        exact r.nd j k a hj hk ej ek
  · by_cases ij : i = j
    · subst ij
      rw [gt_pt ρ i _ hi, List.getElem?_set_self (by rw [r.len]; exact hi)]
      exact hd.keep vis fun _ _ _ _ e => e
    · rw [gt_pt_ne ρ i j _ ij, List.getElem?_set_ne ij]
      exact (r.sl j).keep vis fun a o ho e h => by
        rw [upd_ne (ne_of_none h hn)]; exact h
theorem Rel.write (r : Rel K F σ ρ H) {i : Nat} {l : Addr} {o : HO} {s : Sv} (hi : (gt ρ i).own = true) (el : σ[i]? = some (some (.ref l))) (hs' : s.own = true) (new : SvOk K (hid H (hs F σ ρ)) (upd H l o) (some (some (.ref l))) s) : Rel K F σ (pt ρ i s) (upd H l o) ∧ Kp σ ρ (pt ρ i s) H (upd H l o) := by
  have lt := own_lt hi
  have own' : ∀ j, (gt (pt ρ i s) j).own = true → (gt ρ j).own = true := fun j h => by
    by_cases ij : i = j
    · subst ij; exact hi
    · rw [gt_pt_ne ρ i j _ ij] at h; exact h
  have sub : ∀ a, owned σ (pt ρ i s) a → owned σ ρ a := fun a ⟨j, hj, e⟩ => ⟨j, own' j hj, e⟩
  have hso : owned σ ρ l := ⟨i, hi, el⟩
  have vis : Same (hid H (hs F σ ρ)) (hid (upd H l o) (hs F σ (pt ρ i s))) := hid_same fun a u e n => by
    have al : a ≠ l := fun z => n (.inr (z ▸ hso))
    exact ⟨by rw [upd_ne al]; exact e, fun z => n (z.imp id (sub a))⟩
  have up : ∀ {a}, H a ≠ none → (upd H l o) a ≠ none := fun {a} h e => by
    by_cases al : a = l
    · subst al; rw [upd_same] at e; cases e
    · rw [upd_ne al] at e; exact h e
  refine ⟨⟨by rw [pt_len, r.len], fun a u e n => ?_, fun a z => nt_upd (fun q => r.zo l hso (q ▸ z)) (r.zl a z), fun a h => r.zo a (sub a h), fun j a hj e => r.ow j a (own' j hj) e, r.mi, r.ml, fun a z => up (r.ma a z), fun j k a hj hk ej ek => r.nd j k a (own' j hj) (own' k hk) ej ek, fun j => ?_⟩, ⟨fun a u e n => ?_, own'⟩⟩
  · have al : a ≠ l := fun z => by
      subst z
      rcases r.ow i _ hi el with ⟨_, q⟩ | q
      · exact n q
      · rw [e] at q; cases q
    rw [upd_ne al]; exact r.fr a u e n
  · by_cases ij : i = j
    · subst ij
      rw [gt_pt ρ i s lt, el]
      exact new.keep vis fun _ _ _ _ e => e
    · rw [gt_pt_ne ρ i j _ ij]
      refine (r.sl j).keep vis fun a u ho e h => ?_
      have al : a ≠ l := fun z => ij (r.nd i j l hi ho el (z ▸ e))
      rw [upd_ne al]; exact h
  · have al : a ≠ l := fun z => n (z ▸ hso)
    rw [upd_ne al]; exact e
theorem Rel.frz (r : Rel K F σ ρ H) {i : Nat} {ds : List D} (hi : gt ρ i = .ow ds) : ∃ l, σ[i]? = some (some (.ref l)) ∧ Rel K F σ (pt ρ i (.vl (.lst ds))) H ∧ Kp σ ρ (pt ρ i (.vl (.lst ds))) H H ∧ RepD K (hid H (hs F σ (pt ρ i (.vl (.lst ds))))) (.ref l) (.lst ds) := by
  have ho : (gt ρ i).own = true := by rw [hi]; rfl
  have lt := own_lt ho
  have q := r.sl i
  rw [hi] at q
  obtain ⟨l, vs, el, hl, hd⟩ := q
  have own' : ∀ j, (gt (pt ρ i (.vl (.lst ds))) j).own = true → i ≠ j ∧ (gt ρ j).own = true := fun j h => own_set rfl h
  have sub : ∀ a, owned σ (pt ρ i (.vl (.lst ds))) a → owned σ ρ a ∧ a ≠ l := fun a ⟨j, hj, e⟩ => by
    obtain ⟨ij, hj⟩ := own' j hj
    exact ⟨⟨j, hj, e⟩, fun z => ij (r.nd i j l ho hj el (z ▸ e))⟩
  have vis : Same (hid H (hs F σ ρ)) (hid H (hs F σ (pt ρ i (.vl (.lst ds))))) := hid_same fun a u e n => ⟨e, fun z => n (z.imp id fun z => (sub a z).1)⟩
  have vl : ¬ hs F σ (pt ρ i (.vl (.lst ds))) l := fun z => by
    rcases z with z | z
    · exact r.zo l ⟨i, ho, el⟩ z
    · exact (sub l z).2 rfl
  have rd : RepD K (hid H (hs F σ (pt ρ i (.vl (.lst ds))))) (.ref l) (.lst ds) := by
    unfold RepD
    exact ⟨l, vs, rfl, hid_of vl hl, hd.same vis⟩
  refine ⟨l, el, ⟨by rw [pt_len, r.len], r.fr, r.zl, fun a h => r.zo a (sub a h).1, fun j a hj e => r.ow j a (own' j hj).2 e, r.mi, r.ml, r.ma, fun j k a hj hk ej ek => r.nd j k a (own' j hj).2 (own' k hk).2 ej ek, fun j => ?_⟩, ⟨fun _ _ e _ => e, fun j h => (own' j h).2⟩, rd⟩
  by_cases ij : i = j
  · subst ij
    rw [gt_pt ρ i _ lt, el]
    exact ⟨_, rfl, rd⟩
  · rw [gt_pt_ne ρ i j _ ij]
    exact (r.sl j).keep vis fun a u _ _ h => h
end
end L2
set_option Elab.async false
set_option linter.all false
set_option maxRecDepth 100000
namespace L2
open PySem PySem.Spec PyProof.Rows
def RelR (K : PySem.W.Frag) (F : Fr) (σ : St) (ρ : En) (v : V) (H : Hp) : R → Prop
  | .d d => Rel K F σ ρ H ∧ RepD K (hid H (hs F σ ρ)) v d
  | .o i => Rel K F σ ρ H ∧ σ[i]? = some (some v)
  | .n s => ∃ Hb l o, Rel K F σ ρ Hb ∧ s.own = true ∧ SvOk K (hid Hb (hs F σ ρ)) (upd Hb l o) (some (some (.ref l))) s ∧ Hb l = none ∧ H = upd Hb l o ∧ v = .ref l
  | .t n => Rel K F σ ρ H ∧ v = .ty n
  | .x s => Rel K F σ ρ H ∧ s.own = false ∧ SvOk K (hid H (hs F σ ρ)) H (some (some v)) s
def Out (K : PySem.W.Frag) (F : Fr) (σ : St) (ρ : En) (H : Hp) (ρ' : En) (v : V) (H' : Hp) : R → Prop
  | .d d => Rel K F σ ρ' H' ∧ Kp σ ρ ρ' H H' ∧ RepD K (hid H' (hs F σ ρ')) v d
  | .o i => Rel K F σ ρ' H' ∧ Kp σ ρ ρ' H H' ∧ σ[i]? = some (some v)
  | .n s => ∃ Hb l o, Rel K F σ ρ' Hb ∧ Kp σ ρ ρ' H Hb ∧ s.own = true ∧ SvOk K (hid Hb (hs F σ ρ')) (upd Hb l o) (some (some (.ref l))) s ∧ Hb l = none ∧ H' = upd Hb l o ∧ v = .ref l
  | .t n => Rel K F σ ρ' H' ∧ Kp σ ρ ρ' H H' ∧ v = .ty n
  | .x s => Rel K F σ ρ' H' ∧ Kp σ ρ ρ' H H' ∧ s.own = false ∧ SvOk K (hid H' (hs F σ ρ')) H' (some (some v)) s
def InF (K : PySem.W.Frag) (F : Fr) (σ : St) (ρ : En) (H : Hp) (v : V) : R → Prop
  | .d d => RepD K (hid H (hs F σ ρ)) v d
  | .o i => σ[i]? = some (some v)
  | .n _ => True
  | .t n => v = .ty n
  | .x s => s.own = false ∧ SvOk K (hid H (hs F σ ρ)) H (some (some v)) s
def R.frz : R → R
  | .n (.ow ds) => .d (.lst ds)
  | r => r
inductive InFs (K : PySem.W.Frag) (F : Fr) (σ : St) (ρ : En) (H : Hp) : List V → List R → Prop
  | nil : InFs K F σ ρ H [] []
  | cons {v : V} {r : R} {vs : List V} {rs : List R} : InF K F σ ρ H v r → InFs K F σ ρ H vs rs → InFs K F σ ρ H (v :: vs) (r :: rs)
def view (ρ : En) : R → Option D
  | .d d => some d
  | .o i => (match gt ρ i with | .ow ds => some (.lst ds) | .vl d => some d | _ => none)
  | _ => none
section
variable {K : PySem.W.Frag} {F : Fr} {σ : St} {ρ ρ' : En} {H H' : Hp} {v : V} {r : R}
theorem InF.keep (h : InF K F σ ρ H v r) (k : Kp σ ρ ρ' H H') : InF K F σ ρ' H' v r := by
  cases r with
  | d d => exact RepD.same h k.vis
  | o i => exact h
  | n s => exact h
  | t n => exact h
  | x s => exact ⟨h.1, h.2.keep k.vis fun l o ho => by rw [h.1] at ho; cases ho⟩
theorem InFs.keep {vs : List V} {rs : List R} (h : InFs K F σ ρ H vs rs) (k : Kp σ ρ ρ' H H') : InFs K F σ ρ' H' vs rs := by
  induction h with
  | nil => exact .nil
  | cons a _ ih => exact .cons (a.keep k) ih
theorem Out.inF (h : Out K F σ ρ H ρ' v H' r) : Rel K F σ ρ' H' ∧ Kp σ ρ ρ' H H' ∧ InF K F σ ρ' H' v r.frz := by
  cases r with
  | d d => exact ⟨h.1, h.2.1, h.2.2⟩
  | o i => exact ⟨h.1, h.2.1, h.2.2⟩
  | t n => exact ⟨h.1, h.2.1, h.2.2⟩
  | x s => exact ⟨h.1, h.2.1, h.2.2⟩
  | n s =>
    obtain ⟨Hb, l, o, a, k0, hs', b, c, rfl, rfl⟩ := h
    have k : Kp σ ρ' ρ' Hb (upd Hb l o) := Kp.fresh c
    refine ⟨a.fresh c, k0.trans k, ?_⟩
    cases s with
    | un => trivial
    | vl d => trivial
    | tp n => trivial
    | dk n => trivial
    | dt n => trivial
    | ex n m => trivial
    | sc n => trivial
    | px n m k => trivial
    | xl es => trivial
    | ow ds =>
      obtain ⟨l', vs, e, h1, h2⟩ := b
      injection e with e; injection e with e; injection e with e; subst e
      show RepD K _ (.ref l) (.lst ds)
      unfold RepD
      exact ⟨l, vs, rfl, hid_of (fresh_vis a c) h1, h2.same k.vis⟩
theorem Out.rel (h : Out K F σ ρ H ρ' v H' r) : RelR K F σ ρ' v H' r := by
  cases r with
  | d d => exact ⟨h.1, h.2.2⟩
  | o i => exact ⟨h.1, h.2.2⟩
  | t n => exact ⟨h.1, h.2.2⟩
  | x s => exact ⟨h.1, h.2.2⟩
  | n s =>
    obtain ⟨Hb, l, o, a, k0, hs', b, c, e1, e2⟩ := h
    exact ⟨Hb, l, o, a, hs', b, c, e1, e2⟩
theorem Out.after {ρ1 : En} {H1 : Hp} (k : Kp σ ρ ρ1 H H1) (h : Out K F σ ρ1 H1 ρ' v H' r) : Out K F σ ρ H ρ' v H' r := by
  cases r with
  | d d => exact ⟨h.1, k.trans h.2.1, h.2.2⟩
  | o i => exact ⟨h.1, k.trans h.2.1, h.2.2⟩
  | t n => exact ⟨h.1, k.trans h.2.1, h.2.2⟩
  | x s => exact ⟨h.1, k.trans h.2.1, h.2.2⟩
  | n s =>
    obtain ⟨Hb, l, o, a, k0, hs', b, c, e1, e2⟩ := h
    exact ⟨Hb, l, o, a, k.trans k0, hs', b, c, e1, e2⟩
theorem view_rep {d : D} (a : Rel K F σ ρ H) (h : InF K F σ ρ H v r) (e : view ρ r = some d) : RepD K H v d := by
  cases r with
  | d d' => injection e with e; subst e; exact RepD.same h hid_sub
  | t n => cases e
  | x s => cases e
  | n s => cases e
  | o i =>
    have q := a.sl i
    unfold view at e
    cases hg : gt ρ i with
    | un => simp [hg] at e
    | tp n => simp [hg] at e
    | dk n => simp [hg] at e
    | dt n => simp [hg] at e
    | ex n m => simp [hg] at e
    | sc n => simp [hg] at e
    | px n m k => simp [hg] at e
    | xl es => simp [hg] at e
    | vl d' =>
      simp [hg] at e
      subst e
      rw [hg] at q
      obtain ⟨x, e1, r1⟩ := q
      rw [show σ[i]? = _ from h] at e1
      injection e1 with e1; injection e1 with e1; subst e1
      exact r1.same hid_sub
    | ow ds =>
      simp [hg] at e
      subst e
      rw [hg] at q
      obtain ⟨l, vs, e1, r1, r2⟩ := q
      rw [show σ[i]? = _ from h] at e1
      injection e1 with e1; injection e1 with e1; subst e1
      unfold RepD
      exact ⟨l, vs, rfl, r1, r2.same hid_sub⟩
theorem view_lst {ds : List D} (a : Rel K F σ ρ H) (h : InF K F σ ρ H v r) (e : view ρ r = some (.lst ds)) : ∃ l vs, v = .ref l ∧ SqL K H l vs ∧ RepDs K (hid H (hs F σ ρ)) vs ds := by
  cases r with
  | d d' =>
    injection e with e; subst e
    have h' : RepD K _ v (.lst ds) := h
    unfold RepD at h'
    obtain ⟨l, vs, e, q, r⟩ := h'
    exact ⟨l, vs, e, hid_sub.seq (StL.sq q), r⟩
  | t n => cases e
  | x s => cases e
  | n s => cases e
  | o i =>
    have q := a.sl i
    unfold view at e
    cases hg : gt ρ i with
    | un => simp [hg] at e
    | tp n => simp [hg] at e
    | dk n => simp [hg] at e
    | dt n => simp [hg] at e
    | ex n m => simp [hg] at e
    | sc n => simp [hg] at e
    | px n m k => simp [hg] at e
    | xl es => simp [hg] at e
    | vl d' =>
      simp [hg] at e
      subst e
      rw [hg] at q
      obtain ⟨x, e1, r1⟩ := q
      rw [show σ[i]? = _ from h] at e1
      injection e1 with e1; injection e1 with e1; subst e1
      unfold RepD at r1
      obtain ⟨l, vs, e, q, r⟩ := r1
      exact ⟨l, vs, e, hid_sub.seq (StL.sq q), r⟩
    | ow ds =>
      simp [hg] at e
      subst e
      rw [hg] at q
      obtain ⟨l, vs, e1, r1, r2⟩ := q
      rw [show σ[i]? = _ from h] at e1
      injection e1 with e1; injection e1 with e1; subst e1
      exact ⟨l, vs, rfl, SqL.of r1, r2⟩
theorem view_tup {ds : List D} (a : Rel K F σ ρ H) (h : InF K F σ ρ H v r) (e : view ρ r = some (.tup ds)) : ∃ l vs, v = .ref l ∧ SqT K H l vs ∧ RepDs K (hid H (hs F σ ρ)) vs ds ∧ StT (hid H (hs F σ ρ)) l vs := by
  have go : ∀ {x : V}, RepD K (hid H (hs F σ ρ)) x (.tup ds) → ∃ l vs, x = .ref l ∧ SqT K H l vs ∧ RepDs K (hid H (hs F σ ρ)) vs ds ∧ StT (hid H (hs F σ ρ)) l vs := fun h' => by
    unfold RepD at h'
    obtain ⟨l, vs, e, q, r⟩ := h'
    exact ⟨l, vs, e, hid_sub.seqT q.sq, r, q⟩
  cases r with
  | d d' => injection e with e; subst e; exact go h
  | t n => cases e
  | x s => cases e
  | n s => cases e
  | o i =>
    have q := a.sl i
    unfold view at e
    cases hg : gt ρ i with
    | un => simp [hg] at e
    | tp n => simp [hg] at e
    | dk n => simp [hg] at e
    | dt n => simp [hg] at e
    | ex n m => simp [hg] at e
    | sc n => simp [hg] at e
    | px n m k => simp [hg] at e
    | xl es => simp [hg] at e
    | ow ds' => simp [hg] at e
    | vl d' =>
      simp [hg] at e
      subst e
      rw [hg] at q
      obtain ⟨x, e1, r1⟩ := q
      rw [show σ[i]? = _ from h] at e1
      injection e1 with e1; injection e1 with e1; subst e1
      exact go r1
end
abbrev Ko := R → En → Prop
abbrev AE := En → Ko → Prop
abbrev AT := En → (Bool → En → Prop) → Prop
abbrev AA := En → (List R → En → Prop) → Prop
structure AEnds where
  nx : En → Prop
  rt : R → En → Prop
  bk : En → Prop
  ct : En → Prop
abbrev AS := AEnds → En → Prop
def Beh (K : PySem.W.Frag) (F : Fr) (σ : St) (ρ : En) (H : Hp) (q : Ko) (Q : VK) : Prop := ∀ r ρ' v H', q r ρ' → Out K F σ ρ H ρ' v H' r → Q v H'
def TEok (K : PySem.W.Frag) (t : TE) (a : AE) : Prop := ∀ F σ ρ H q Q, Rel K F σ ρ H → a ρ q → Beh K F σ ρ H q Q → t σ H Q
def TTok (K : PySem.W.Frag) (t : TT) (a : AT) : Prop := ∀ F σ ρ H q Q, Rel K F σ ρ H → a ρ q → (∀ b ρ' H', q b ρ' → Rel K F σ ρ' H' → Kp σ ρ ρ' H H' → Q b H') → t σ H Q
def TAok (K : PySem.W.Frag) (t : TA) (a : AA) : Prop := ∀ F σ ρ H q Q, Rel K F σ ρ H → a ρ q → (∀ rs ρ' vs H', q rs ρ' → Rel K F σ ρ' H' → InFs K F σ ρ' H' vs rs → Kp σ ρ ρ' H H' → Q vs H') → t σ H Q
def OpOk (K : PySem.W.Frag) (r : R2) (g : R → R → AE) : Prop := ∀ F σ ρ H x y r1 r2 q Q, Rel K F σ ρ H → InF K F σ ρ H x r1 → InF K F σ ρ H y r2 → g r1 r2 ρ q → Beh K F σ ρ H q Q → r x y H Q
def CbOk (K : PySem.W.Frag) (r : List V → Hp → VK → Prop) (g : List R → AE) : Prop := ∀ F σ ρ H vs rs q Q, Rel K F σ ρ H → InFs K F σ ρ H vs rs → g rs ρ q → Beh K F σ ρ H q Q → r vs H Q
section
variable {K : PySem.W.Frag} {F : Fr} {σ : St} {ρ ρ' : En} {H H' : Hp} {v : V} {r : R} {q : Ko} {Q : VK}
theorem Beh.dat (b : Beh K F σ ρ H q Q) (a : Rel K F σ ρ H) {d : D} (hq : q (.d d) ρ) (h : RepD K (hid H (hs F σ ρ)) v d) : Q v H := b (.d d) ρ v H hq ⟨a, .refl, h⟩
theorem Beh.int (b : Beh K F σ ρ H q Q) (a : Rel K F σ ρ H) {i : Int} (hq : q (.d (.int i)) ρ) : Q (.int i) H := b.dat a hq (by unfold RepD; rfl)
theorem Beh.bl (b : Beh K F σ ρ H q Q) (a : Rel K F σ ρ H) {i : Bool} (hq : q (.d (.bl i)) ρ) : Q (.bl i) H := b.dat a hq (by unfold RepD; rfl)
theorem Beh.non (b : Beh K F σ ρ H q Q) (a : Rel K F σ ρ H) (hq : q (.d .non) ρ) : Q .non H := b.dat a hq (by unfold RepD; rfl)
theorem Beh.str (b : Beh K F σ ρ H q Q) (a : Rel K F σ ρ H) {x : Str} (hq : q (.d (.str x)) ρ) : Q (.str x) H := b.dat a hq (by unfold RepD; rfl)
theorem Beh.new (b : Beh K F σ ρ H q Q) (a : Rel K F σ ρ H) {ds : List D} {vs : List V} {l : Addr} (hq : q (.f ds) ρ) (hd : RepDs K (hid H (hs F σ ρ)) vs ds) (hl : H l = none) : Q (.ref l) (upd H l (.lst vs)) :=
  b (.f ds) ρ _ _ hq ⟨H, l, _, a, .refl, rfl, ⟨l, vs, rfl, upd_same, hd⟩, hl, rfl, rfl⟩
theorem Beh.after {ρ1 : En} {H1 : Hp} (b : Beh K F σ ρ H q Q) (k : Kp σ ρ ρ1 H H1) : Beh K F σ ρ1 H1 q Q := fun r ρ' v H' hq h => b r ρ' v H' hq (.after k h)
def aVar (i : Nat) : AE := fun ρ q => match gt ρ i with
  | .un => False
  | .vl d => q (.d d) ρ
  | .ow _ => q (.o i) ρ
  | .tp _ => q (.o i) ρ
  | .dk _ => q (.o i) ρ
  | .dt _ => q (.o i) ρ
  | .ex _ _ => q (.o i) ρ
  | .sc _ => q (.o i) ρ
  | .px _ _ _ => q (.o i) ρ
  | .xl _ => q (.o i) ρ
theorem tok_var {i : Nat} : TEok K (tVar i) (aVar i) := by
  intro F σ ρ H q Q a h b
  have s := a.sl i
  unfold aVar at h
  cases hg : gt ρ i with
  | un => rw [hg] at h; exact h.elim
  | vl d =>
    rw [hg] at h s
    obtain ⟨x, e, r⟩ := s
    exact ⟨x, e, b _ _ _ _ h ⟨a, .refl, r⟩⟩
  | ow ds =>
    rw [hg] at h s
    obtain ⟨l, vs, e, _⟩ := s
    exact ⟨_, e, b _ _ _ _ h ⟨a, .refl, e⟩⟩
  | tp n =>
    rw [hg] at h s
    obtain ⟨l, c, ns, sp, lf, e, _⟩ := s
    exact ⟨_, e, b _ _ _ _ h ⟨a, .refl, e⟩⟩
  | dk kvs =>
    rw [hg] at h s
    obtain ⟨l, ks, e, _⟩ := s
    exact ⟨_, e, b _ _ _ _ h ⟨a, .refl, e⟩⟩
  | dt kvs =>
    rw [hg] at h s
    obtain ⟨l, ks, e, _⟩ := s
    exact ⟨_, e, b _ _ _ _ h ⟨a, .refl, e⟩⟩
  | ex C fs =>
    rw [hg] at h s
    obtain ⟨l, ks, e, _⟩ := s
    exact ⟨_, e, b _ _ _ _ h ⟨a, .refl, e⟩⟩
  | sc ns =>
    rw [hg] at h s
    obtain ⟨l, e, _⟩ := s
    exact ⟨_, e, b _ _ _ _ h ⟨a, .refl, e⟩⟩
  | xl es =>
    rw [hg] at h s
    obtain ⟨l, ks, e, _⟩ := s
    exact ⟨_, e, b _ _ _ _ h ⟨a, .refl, e⟩⟩
  | px d C fs =>
    rw [hg] at h s
    obtain ⟨l, x, e', od, e, _⟩ := s
    exact ⟨_, e, b _ _ _ _ h ⟨a, .refl, e⟩⟩
def aC (r : R) : AE := fun ρ q => q r ρ
theorem tok_int {i : Int} : TEok K (tC (.int i)) (aC (.d (.int i))) := fun _ _ _ _ _ _ a h b => b.int a h
theorem tok_bl {i : Bool} : TEok K (tC (.bl i)) (aC (.d (.bl i))) := fun _ _ _ _ _ _ a h b => b.bl a h
theorem tok_str {i : Str} : TEok K (tC (.str i)) (aC (.d (.str i))) := fun _ _ _ _ _ _ a h b => b.str a h
def aOp (g : R → R → AE) (a b : AE) : AE := fun ρ q => a ρ fun r1 ρ1 => b ρ1 fun r2 ρ2 => g r1.frz r2.frz ρ2 q
variable {t t' ta tb tc : TE} {a b c : AE} {rr : R2} {g : R → R → AE}
theorem tok_op (ho : OpOk K rr g) (ha : TEok K ta a) (hb : TEok K tb b) : TEok K (tOp rr ta tb) (aOp g a b) := by
  intro F σ ρ H q Q r h k
  refine ha F σ ρ H _ _ r h fun r1 ρ1 x H1 h1 rel1 => ?_
  obtain ⟨r', k1, i1⟩ := rel1.inF
  refine hb F σ ρ1 H1 _ _ r' h1 fun r2 ρ2 y H2 h2 rel2 => ?_
  obtain ⟨r'', k2, i2⟩ := rel2.inF
  exact ho F σ ρ2 H2 x y _ _ q Q r'' (i1.keep k2) i2 h2 (k.after (k1.trans k2))
def gI (C : Int → Int → Prop) (f : Int → Int → D) : R → R → AE := fun r1 r2 ρ q => match r1, r2 with
  | .d (.int i), .d (.int j) => C i j ∧ q (.d (f i j)) ρ
  | _, _ => False
theorem gI_inv {C : Int → Int → Prop} {f : Int → Int → D} {r1 r2 : R} (h : gI C f r1 r2 ρ q) : ∃ i j, r1 = .d (.int i) ∧ r2 = .d (.int j) ∧ C i j ∧ q (.d (f i j)) ρ := by
  unfold gI at h
  split at h
  · exact ⟨_, _, rfl, rfl, h⟩
  · exact h.elim
theorem InF.int {i : Int} (h : InF K F σ ρ H v (.d (.int i))) : v = .int i := by
  unfold InF RepD at h; exact h
theorem InF.blv {i : Bool} (h : InF K F σ ρ H v (.d (.bl i))) : v = .bl i := by
  unfold InF RepD at h; exact h
theorem ook_int {C : Int → Int → Prop} {f : Int → Int → Int} : OpOk K (rI C fun i j => .int (f i j)) (gI C fun i j => .int (f i j)) := by
  intro F σ ρ H x y r1 r2 q Q a h1 h2 h b
  obtain ⟨i, j, rfl, rfl, c, h⟩ := gI_inv h
  exact ⟨i, j, h1.int, h2.int, c, b.int a h⟩
def gI0 (f : Int → Int → D) : R → R → AE := fun r1 r2 ρ q => match r1, r2 with
  | .d (.int i), .d (.int j) => q (.d (f i j)) ρ
  | _, _ => False
theorem gI0_inv {f : Int → Int → D} {r1 r2 : R} (h : gI0 f r1 r2 ρ q) : ∃ i j, r1 = .d (.int i) ∧ r2 = .d (.int j) ∧ q (.d (f i j)) ρ := by
  unfold gI0 at h
  split at h
  · exact ⟨_, _, rfl, rfl, h⟩
  · exact h.elim
theorem ook_int0 {f : Int → Int → Int} : OpOk K (rI0 fun i j => .int (f i j)) (gI0 fun i j => .int (f i j)) := by
  intro F σ ρ H x y r1 r2 q Q a h1 h2 h b
  obtain ⟨i, j, rfl, rfl, h⟩ := gI0_inv h
  exact ⟨i, j, h1.int, h2.int, b.int a h⟩
@[irreducible] def gEq (neg : Bool) : R → R → AE := fun r1 r2 ρ q => match view ρ r1, view ρ r2 with
  | some d, some e => d.depth ≤ 60 ∧ q (.d (.bl (if neg then !eqD d e else eqD d e))) ρ
  | _, _ => False
theorem gEq_inv {neg : Bool} {r1 r2 : R} (h : gEq neg r1 r2 ρ q) : ∃ d e, view ρ r1 = some d ∧ view ρ r2 = some e ∧ d.depth ≤ 60 ∧ q (.d (.bl (if neg then !eqD d e else eqD d e))) ρ := by
  unfold gEq at h
  split at h
  · rename_i d e h1 h2; exact ⟨d, e, h1, h2, h⟩
  · exact h.elim
theorem ook_eq : OpOk K (rEqD K) (gEq false) := by
  intro F σ ρ H x y r1 r2 q Q a h1 h2 h b
  obtain ⟨d, e, e1, e2, c, h⟩ := gEq_inv h
  exact ⟨d, e, view_rep a h1 e1, view_rep a h2 e2, c, b.bl a h⟩
theorem ook_ne : OpOk K (rNeD K) (gEq true) := by
  intro F σ ρ H x y r1 r2 q Q a h1 h2 h b
  obtain ⟨d, e, e1, e2, c, h⟩ := gEq_inv h
  exact ⟨d, e, view_rep a h1 e1, view_rep a h2 e2, c, b.bl a h⟩
variable {tt tu : TT} {at' au : AT}
def aB (a : AE) : AT := fun ρ q => a ρ fun r ρ1 => match r with
  | .d (.bl c) => q c ρ1
  | _ => False
theorem ttok_B (ha : TEok K ta a) : TTok K (tB ta) (aB a) := by
  intro F σ ρ H q Q r h k
  refine ha F σ ρ H _ _ r h fun r1 ρ1 x H1 h1 rel1 => ?_
  split at h1
  · rename_i c
    obtain ⟨r', k1, i1⟩ := rel1.inF
    exact ⟨c, i1.blv, k _ _ _ h1 r' k1⟩
  · exact h1.elim
theorem ttok_test (ha : TEok K ta a) : TTok K (tTest ta) (aB a) := ttok_B ha
def aOr (a b : AT) : AT := fun ρ q => a ρ fun c ρ1 => if c = true then q true ρ1 else b ρ1 q
def aNot (a : AT) : AT := fun ρ q => a ρ fun c ρ1 => q (!c) ρ1
theorem ttok_or (ha : TTok K tt at') (hb : TTok K tu au) : TTok K (tOr tt tu) (aOr at' au) := by
  intro F σ ρ H q Q r h k
  refine ha F σ ρ H _ _ r h fun c ρ1 H1 h1 r1 k1 => ?_
  cases c with
  | true => exact k _ _ _ h1 r1 k1
  | false => exact hb F σ ρ1 H1 q Q r1 h1 fun b ρ2 H2 h2 r2 k2 => k _ _ _ h2 r2 (k1.trans k2)
theorem ttok_not (ha : TTok K tt at') : TTok K (tNot tt) (aNot at') := fun F σ ρ H q Q r h k => ha F σ ρ H _ _ r h fun c ρ1 H1 h1 r1 k1 => k _ _ _ h1 r1 k1
variable {ts : TA} {as : AA}
def aNil : AA := fun ρ q => q [] ρ
def aCons (a : AE) (as : AA) : AA := fun ρ q => a ρ fun r ρ1 => as ρ1 fun rs ρ2 => q (r.frz :: rs) ρ2
theorem taok_nil : TAok K tNil aNil := fun F σ ρ H q Q r h k => k _ _ _ _ h r .nil .refl
theorem taok_cons (ha : TEok K ta a) (hs : TAok K ts as) : TAok K (tCons ta ts) (aCons a as) := by
  intro F σ ρ H q Q r h k
  refine ha F σ ρ H _ _ r h fun r1 ρ1 x H1 h1 rel1 => ?_
  obtain ⟨r', k1, i1⟩ := rel1.inF
  refine hs F σ ρ1 H1 _ _ r' h1 fun rs ρ2 vs H2 h2 r2 i2 k2 => ?_
  exact k _ _ _ _ h2 r2 (.cons (i1.keep k2) i2) (k1.trans k2)
def sto : List R → En → (List D → En → Prop) → Prop
  | [], ρ, q => q [] ρ
  | .d d :: rs, ρ, q => sto rs ρ fun ds ρ' => q (d :: ds) ρ'
  | .o i :: rs, ρ, q => (match gt ρ i with
    | .ow ds => sto rs (pt ρ i (.vl (.lst ds))) fun es ρ' => q (.lst ds :: es) ρ'
    | .vl d => sto rs ρ fun es ρ' => q (d :: es) ρ'
    | _ => False)
  | _ :: _, _, _ => False
theorem sto_ok : ∀ {vs : List V} {rs : List R} {ρ : En} {q : List D → En → Prop}, Rel K F σ ρ H → InFs K F σ ρ H vs rs → sto rs ρ q → ∃ ds ρ', q ds ρ' ∧ Rel K F σ ρ' H ∧ Kp σ ρ ρ' H H ∧ RepDs K (hid H (hs F σ ρ')) vs ds
  | _, _, ρ, q, r, .nil, h => ⟨[], ρ, h, r, .refl, .nil⟩
  | _, _, ρ, q, r, .cons (v := v) (r := rr) (vs := vs) (rs := rs) a t, h => by
    cases rr with
    | n s => exact h.elim
    | t n => exact h.elim
    | x s => exact h.elim
    | d d =>
      obtain ⟨ds, ρ', hq, r', k, rd⟩ := sto_ok r t (show sto rs ρ _ from h)
      exact ⟨d :: ds, ρ', hq, r', k, .cons (RepD.same a k.vis) rd⟩
    | o i =>
      have s := r.sl i
      unfold sto at h
      cases hg : gt ρ i with
      | un => rw [hg] at h; exact h.elim
      | tp n => rw [hg] at h; exact h.elim
      | dk n => rw [hg] at h; exact h.elim
      | dt n => rw [hg] at h; exact h.elim
      | ex n m => rw [hg] at h; exact h.elim
      | sc n => rw [hg] at h; exact h.elim
      | px n m k => rw [hg] at h; exact h.elim
      | xl es => rw [hg] at h; exact h.elim
      | vl d =>
        rw [hg] at h s
        obtain ⟨x, e, rd1⟩ := s
        rw [show σ[i]? = _ from a] at e
        injection e with e; injection e with e; subst e
        obtain ⟨ds, ρ', hq, r', k, rd⟩ := sto_ok r t h
        exact ⟨d :: ds, ρ', hq, r', k, .cons (rd1.same k.vis) rd⟩
      | ow ds =>
        rw [hg] at h
        obtain ⟨l, e, r1, k1, rd1⟩ := r.frz hg
        rw [show σ[i]? = _ from a] at e
        injection e with e; injection e with e; subst e
        obtain ⟨es, ρ', hq, r', k, rd⟩ := sto_ok r1 (t.keep k1) h
        exact ⟨_, ρ', hq, r', k1.trans k, .cons (rd1.same k.vis) rd⟩
theorem small {n : Nat} (h : n ≤ 1000000) : n ≤ sizeLine := by unfold sizeLine; omega
theorem smallS {n : Nat} (h : n ≤ 1000000) : n < sizeLine := by unfold sizeLine; omega
def aLst (as : AA) : AE := fun ρ q => as ρ fun rs ρ1 => sto rs ρ1 fun ds ρ2 => ds.length ≤ 1000000 ∧ q (.f ds) ρ2
theorem tok_lst (hs : TAok K ts as) : TEok K (tLst ts) (aLst as) := by
  intro F σ ρ H q Q r h k
  refine hs F σ ρ H _ _ r h fun rs ρ1 vs H1 h1 r1 i1 k1 => ?_
  obtain ⟨ds, ρ2, ⟨hz, hq⟩, r2, k2, rd⟩ := sto_ok r1 i1 h1
  exact ⟨small (by rw [rd.length]; exact hz), fun p hp => ((k.after k1).after k2).new r2 hq rd hp⟩
def aCB (g : List R → AE) (as : AA) : AE := fun ρ q => as ρ fun rs ρ1 => g rs ρ1 q
theorem tok_cb {rb : List V → Hp → VK → Prop} {g : List R → AE} (hb : CbOk K rb g) (hs : TAok K ts as) : TEok K (tCB rb ts) (aCB g as) := by
  intro F σ ρ H q Q r h k
  exact hs F σ ρ H _ _ r h fun rs ρ1 vs H1 h1 r1 i1 k1 => hb F σ ρ1 H1 vs rs q Q r1 i1 h1 (k.after k1)
theorem InFs.one {vs : List V} {r1 : R} (h : InFs K F σ ρ H vs [r1]) : ∃ x, vs = [x] ∧ InF K F σ ρ H x r1 := by
  cases h with | cons a t => cases t; exact ⟨_, rfl, a⟩
def gList : List R → AE := fun rs ρ q => match rs with
  | [r] => (match view ρ r with
    | some (.lst ds) => q (.f ds) ρ
    | some (.tup ds) => q (.f ds) ρ
    | _ => False)
  | _ => False
theorem cbok_list : CbOk K (fun xs H Q => ∃ p ys, xs = [.ref p] ∧ (SqL K H p ys ∨ SqT K H p ys) ∧ ∀ l, H l = none → Q (.ref l) (upd H l (.lst ys))) gList := by
  intro F σ ρ H vs rs q Q a i h b
  unfold gList at h
  split at h
  · obtain ⟨x, rfl, i1⟩ := i.one
    split at h
    · rename_i ds e
      obtain ⟨l, vs, rfl, sq, rd⟩ := view_lst a i1 e
      exact ⟨l, vs, rfl, .inl sq, fun p hp => b.new a h rd hp⟩
    · rename_i ds e
      obtain ⟨l, vs, rfl, sq, rd, _⟩ := view_tup a i1 e
      exact ⟨l, vs, rfl, .inr sq, fun p hp => b.new a h rd hp⟩
    · exact h.elim
  · exact h.elim
def intsOf : List D → Option (List Int)
  | [] => some []
  | .int i :: ds => (intsOf ds).map (i :: ·)
  | _ => none
theorem intsOf_eq : ∀ {ds : List D} {ns : List Int}, intsOf ds = some ns → ds = ns.map D.int
  | [], ns, h => by simp [intsOf] at h; subst h; rfl
  | .int i :: ds, ns, h => by
    simp only [intsOf, Option.map_eq_some_iff] at h
    obtain ⟨ms, e, rfl⟩ := h
    rw [intsOf_eq e]; rfl
  | .non :: ds, ns, h => by simp [intsOf] at h
  | .bl _ :: ds, ns, h => by simp [intsOf] at h
  | .str _ :: ds, ns, h => by simp [intsOf] at h
  | .tup _ :: ds, ns, h => by simp [intsOf] at h
  | .lst _ :: ds, ns, h => by simp [intsOf] at h
theorem intsOf_map (ns : List Int) : intsOf (ns.map D.int) = some ns := by
  induction ns with
  | nil => rfl
  | cons n ns ih => simp [intsOf, ih]
def aApp (a : AE) (as : AA) : AE := fun ρ q => a ρ fun r ρ1 => match r with
  | .o i => (match gt ρ1 i with
    | .ow _ => as ρ1 fun rs ρ2 => (match rs with
      | [y] => sto [y] ρ2 fun es ρ3 => (match gt ρ3 i with
        | .ow ds => ds.length ≤ 1000000 ∧ q (.d .non) (pt ρ3 i (.ow (ds ++ es)))
        | _ => False)
      | _ => False)
    | _ => False)
  | _ => False
theorem tok_app (ha : TEok K ta a) (hs : TAok K ts as) : TEok K (tBM K "list" rAppend ta ts) (aApp a as) := by
  intro F σ ρ H q Q r h k
  refine ha F σ ρ H _ _ r h fun r1 ρ1 x H1 h1 rel1 => ?_
  split at h1
  · rename_i i
    obtain ⟨r', k1, i1⟩ := rel1.inF
    have ex : σ[i]? = some (some x) := i1
    split at h1
    · rename_i ds0 hg0
      have s := r'.sl i
      rw [hg0, ex] at s
      obtain ⟨l, vs0, e, hl, _⟩ := s
      injection e with e; injection e with e; subst e
      refine ⟨.inl ⟨rfl, _, SqL.of hl⟩, hs F σ ρ1 H1 _ _ r' h1 fun rs ρ2 vs H2 h2 r2 i2 k2 => ?_⟩
      split at h2
      · obtain ⟨es, ρ3, h3, r3, k3, rd⟩ := sto_ok r2 i2 h2
        split at h3
        · rename_i ds hg
          have s := r3.sl i
          rw [hg, ex] at s
          obtain ⟨l', us, e, hl', rd'⟩ := s
          injection e with e; injection e with e; injection e with e; subst e
          obtain ⟨y, rfl, _⟩ := i2.one
          have hw := r3.write (i := i) (l := l) (o := .lst (us ++ [y])) (s := .ow (ds ++ es)) (by rw [hg]; rfl) ex rfl ⟨l, _, rfl, upd_same, rd'.append rd⟩
          refine ⟨l, us, y, rfl, rfl, hl', smallS (by rw [rd'.length]; exact h3.1), ?_⟩
          exact (((k.after k1).after k2).after (k3.trans hw.2)).non hw.1 h3.2
        · exact h3.elim
      · exact h2.elim
    · exact h1.elim
  · exact h1.elim
theorem RepDs.drop : ∀ {vs : List V} {ds : List D} (n : Nat), RepDs K H vs ds → RepDs K H (vs.drop n) (ds.drop n)
  | [], [], n, h => by simp [RepDs.nil]
  | v :: vs, d :: ds, 0, h => h
  | v :: vs, d :: ds, n + 1, h => by unfold RepDs at h; exact RepDs.drop n h.2
  | [], d :: ds, _, h => by unfold RepDs at h; exact h.elim
  | v :: vs, [], _, h => by unfold RepDs at h; exact h.elim
theorem RepDs.take : ∀ {vs : List V} {ds : List D} (n : Nat), RepDs K H vs ds → RepDs K H (vs.take n) (ds.take n)
  | [], [], n, h => by simp [RepDs.nil]
  | v :: vs, d :: ds, 0, h => .nil
  | v :: vs, d :: ds, n + 1, h => by unfold RepDs at h; exact .cons h.1 (RepDs.take n h.2)
  | [], d :: ds, _, h => by unfold RepDs at h; exact h.elim
  | v :: vs, [], _, h => by unfold RepDs at h; exact h.elim
end
end L2
set_option Elab.async false
set_option linter.all false
set_option maxRecDepth 100000
namespace L2
open PySem PySem.Spec PyProof.Rows
def slotR (ρ : En) : R → Sv
  | .d d => .vl d
  | .o j => gt ρ j
  | .x s => s
  | _ => .un
def Src (K : PySem.W.Frag) (F : Fr) (σ : St) (ρ : En) (H : Hp) (ov : Option V) : R → Prop
  | .d d => ∃ v, ov = some v ∧ RepD K (hid H (hs F σ ρ)) v d
  | .o j => (σ[j]?).getD none = ov
  | .x s => ∃ v, ov = some v ∧ s.own = false ∧ SvOk K (hid H (hs F σ ρ)) H (some (some v)) s
  | _ => True
inductive Srcs (K : PySem.W.Frag) (F : Fr) (σ : St) (ρ : En) (H : Hp) : St → List R → Prop
  | nil : Srcs K F σ ρ H [] []
  | cons {v : Option V} {r : R} {vs : St} {rs : List R} : Src K F σ ρ H v r → Srcs K F σ ρ H vs rs → Srcs K F σ ρ H (v :: vs) (r :: rs)
def isO (j : Nat) : R → Bool
  | .o i => i == j
  | _ => false
def dis : List R → Bool
  | [] => true
  | .o j :: rs => rs.all (fun r => !isO j r) && dis rs
  | _ :: rs => dis rs
theorem dis_uniq : ∀ {rs : List R} {k k' j : Nat}, dis rs = true → rs[k]? = some (.o j) → rs[k']? = some (.o j) → k = k' := by
  intro rs
  induction rs with
  | nil => intro k k' j _ h; simp at h
  | cons r rs ih =>
    intro k k' j hd h h'
    have hd' : dis rs = true := by
      cases r <;> simp [dis] at hd <;> first | exact hd.2 | exact hd
    have no : ∀ (m : Nat), r = .o j → rs[m]? = some (.o j) → False := fun m e hm => by
      subst e
      simp [dis] at hd
      have := hd.1 _ (List.mem_of_getElem? hm)
      simp [isO] at this
    cases k with
    | zero =>
      cases k' with
      | zero => rfl
      | succ k' => simp at h h'; exact (no k' h h').elim
    | succ k =>
      cases k' with
      | zero => simp at h h'; exact (no k h' h).elim
      | succ k' => simp at h h'; rw [ih hd' h h']
def back : En → List R → En → En
  | ρ, .o j :: rs, s :: ss => back (pt ρ j s) rs ss
  | ρ, _ :: rs, _ :: ss => back ρ rs ss
  | ρ, _, _ => ρ
theorem back_len : ∀ (rs : List R) (ρ ss : En), (back ρ rs ss).length = ρ.length
  | [], ρ, ss => by cases ss <;> rfl
  | r :: rs, ρ, [] => by cases r <;> rfl
  | .o j :: rs, ρ, s :: ss => by show (back (pt ρ j s) rs ss).length = _; rw [back_len, pt_len]
  | .d d :: rs, ρ, s :: ss => back_len rs ρ ss
  | .n d :: rs, ρ, s :: ss => back_len rs ρ ss
  | .t d :: rs, ρ, s :: ss => back_len rs ρ ss
  | .x d :: rs, ρ, s :: ss => back_len rs ρ ss
theorem back_ne : ∀ (rs : List R) (ρ ss : En) (i : Nat), (∀ k : Nat, rs[k]? ≠ some (R.o i)) → gt (back ρ rs ss) i = gt ρ i
  | [], ρ, ss, i, _ => by cases ss <;> rfl
  | r :: rs, ρ, [], i, _ => by cases r <;> rfl
  | .o j :: rs, ρ, s :: ss, i, h => by
    have ne : j ≠ i := fun e => h 0 (by simp [e])
    show gt (back (pt ρ j s) rs ss) i = _
    rw [back_ne rs _ ss i (fun k z => h (k + 1) (by simpa using z)), gt_pt_ne ρ j i s ne]
  | .d d :: rs, ρ, s :: ss, i, h => back_ne rs ρ ss i (fun k z => h (k + 1) (by simpa using z))
  | .n d :: rs, ρ, s :: ss, i, h => back_ne rs ρ ss i (fun k z => h (k + 1) (by simpa using z))
  | .t d :: rs, ρ, s :: ss, i, h => back_ne rs ρ ss i (fun k z => h (k + 1) (by simpa using z))
  | .x d :: rs, ρ, s :: ss, i, h => back_ne rs ρ ss i (fun k z => h (k + 1) (by simpa using z))
theorem back_at : ∀ (rs : List R) (ρ ss : En) (i k : Nat), dis rs = true → rs[k]? = some (.o i) → ss.length = rs.length → i < ρ.length → gt (back ρ rs ss) i = gt ss k
  | [], ρ, ss, i, k, _, h, _, _ => by simp at h
  | r :: rs, ρ, [], i, k, _, _, e, _ => by simp at e
  | .o j :: rs, ρ, s :: ss, i, 0, hd, h, e, l => by
    simp at h; subst h
    simp [dis] at hd
    show gt (back (pt ρ j s) rs ss) j = s
    rw [back_ne rs _ ss j (fun k z => by have := hd.1 _ (List.mem_of_getElem? z); simp [isO] at this), gt_pt ρ j s l]
  | .o j :: rs, ρ, s :: ss, i, k + 1, hd, h, e, l => by
    simp [dis] at hd
    exact back_at rs (pt ρ j s) ss i k hd.2 (by simpa using h) (by simpa using e) (by rw [pt_len]; exact l)
  | .d d :: rs, ρ, s :: ss, i, 0, hd, h, e, l => by simp at h
  | .n d :: rs, ρ, s :: ss, i, 0, hd, h, e, l => by simp at h
  | .t d :: rs, ρ, s :: ss, i, 0, hd, h, e, l => by simp at h
  | .x d :: rs, ρ, s :: ss, i, 0, hd, h, e, l => by simp at h
  | .d d :: rs, ρ, s :: ss, i, k + 1, hd, h, e, l => back_at rs ρ ss i k hd (by simpa using h) (by simpa using e) l
  | .n d :: rs, ρ, s :: ss, i, k + 1, hd, h, e, l => back_at rs ρ ss i k hd (by simpa using h) (by simpa using e) l
  | .t d :: rs, ρ, s :: ss, i, k + 1, hd, h, e, l => back_at rs ρ ss i k hd (by simpa using h) (by simpa using e) l
  | .x d :: rs, ρ, s :: ss, i, k + 1, hd, h, e, l => back_at rs ρ ss i k hd (by simpa using h) (by simpa using e) l
theorem gt_map (ρ : En) : ∀ (rs : List R) (k : Nat), gt (rs.map (slotR ρ)) k = (match rs[k]? with | some r => slotR ρ r | none => .un)
  | [], k => by simp [gt]
  | r :: rs, 0 => by simp [gt]
  | r :: rs, k + 1 => by simp [gt, gt_map ρ rs k]
section
variable {K : PySem.W.Frag} {F : Fr} {σ : St} {ρ ρ' : En} {H H' : Hp} {ovs : St} {rs : List R}
theorem Srcs.length (s : Srcs K F σ ρ H ovs rs) : ovs.length = rs.length := by
  induction s with
  | nil => rfl
  | cons _ _ ih => simp [ih]
theorem Srcs.get {k : Nat} {r : R} (s : Srcs K F σ ρ H ovs rs) (h : rs[k]? = some r) : ∃ ov, ovs[k]? = some ov ∧ Src K F σ ρ H ov r := by
  induction s generalizing k with
  | nil => simp at h
  | cons a _ ih =>
    cases k with
    | zero => simp at h; subst h; exact ⟨_, rfl, a⟩
    | succ k => obtain ⟨ov, e, q⟩ := ih (by simpa using h); exact ⟨ov, by simpa using e, q⟩
def subFr (F : Fr) (σ : St) (ρ : En) (H : Hp) (ovs : St) (ss : En) : Fr :=
  ⟨H, fun a => F.Z a ∨ (owned σ ρ a ∧ ¬ owned ovs ss a), fun a => owned ovs ss a, fun i a => (gt ss i).own = true ∧ ovs[i]? = some (some (.ref a)), fun _ _ => False⟩
theorem sub_own (s : Srcs K F σ ρ H ovs rs) {k : Nat} (h : (gt (rs.map (slotR ρ)) k).own = true) : ∃ j : Nat, rs[k]? = some (R.o j) ∧ (gt ρ j).own = true ∧ gt (rs.map (slotR ρ)) k = gt ρ j ∧ ovs[k]? = some ((σ[j]?).getD none) := by
  rw [gt_map] at h
  cases e : rs[k]? with
  | none => simp [e] at h; cases h
  | some r =>
    rw [e] at h
    cases r with
    | d d => cases h
    | n d => cases h
    | t d => cases h
    | x d =>
      obtain ⟨ov, _, _, _, hx, _⟩ := s.get e
      have h : d.own = true := h
      rw [hx] at h; cases h
    | o j =>
      obtain ⟨ov, e1, e2⟩ := s.get e
      exact ⟨j, rfl, h, by rw [gt_map, e]; rfl, by rw [e1, show _ = ov from e2]⟩
theorem getD_ref {x : Option (Option V)} {a : Addr} (h : some (x.getD none) = some (some (V.ref a))) : x = some (some (.ref a)) := by
  cases x with
  | none => simp at h
  | some y => simpa using h
theorem sub_owned (s : Srcs K F σ ρ H ovs rs) {a : Addr} (h : owned ovs (rs.map (slotR ρ)) a) : ∃ k j : Nat, rs[k]? = some (R.o j) ∧ (gt ρ j).own = true ∧ σ[j]? = some (some (V.ref a)) ∧ ovs[k]? = some (some (V.ref a)) := by
  obtain ⟨k, hk, e⟩ := h
  obtain ⟨j, e1, e2, e3, e4⟩ := sub_own s hk
  rw [e] at e4
  exact ⟨k, j, e1, e2, getD_ref e4.symm, e⟩
theorem sub_hs (r : Rel K F σ ρ H) (s : Srcs K F σ ρ H ovs rs) : hs (subFr F σ ρ H ovs (rs.map (slotR ρ))) ovs (rs.map (slotR ρ)) = hs F σ ρ := by
  funext a
  apply propext
  constructor
  · rintro ((h | h) | h)
    · exact .inl h
    · exact .inr h.1
    · obtain ⟨k, j, e1, e2, e3, _⟩ := sub_owned s h
      exact .inr ⟨j, e2, e3⟩
  · rintro (h | h)
    · exact .inl (.inl h)
    · by_cases q : owned ovs (rs.map (slotR ρ)) a
      · exact .inr q
      · exact .inl (.inr ⟨h, q⟩)
theorem Rel.sub (r : Rel K F σ ρ H) (s : Srcs K F σ ρ H ovs rs) (hd : dis rs = true) : Rel K (subFr F σ ρ H ovs (rs.map (slotR ρ))) ovs (rs.map (slotR ρ)) H := by
  refine ⟨by rw [s.length, List.length_map], fun a o e _ => e, fun a z => ?_, fun a h z => ?_, fun i a hi e => .inl ⟨⟨hi, e⟩, i, hi, e⟩, fun i a h => ?_, fun a h => ?_, fun a h => ?_, fun i j a hi hj ei ej => ?_, fun k => ?_⟩
  · rcases z with z | z
    · exact r.zl a z
    · exact owned_nt r z.1
  · obtain ⟨k, j, e1, e2, e3, _⟩ := sub_owned s h
    rcases z with z | z
    · exact r.zo a ⟨j, e2, e3⟩ z
    · exact z.2 h
  · rcases h with h | h
    · exact h.2
    · exact h.elim
  · obtain ⟨k, j, e1, e2, e3, _⟩ := sub_owned s h
    exact owned_alive r ⟨j, e2, e3⟩
  · obtain ⟨k, j, e1, e2, e3, _⟩ := sub_owned s h
    exact owned_alive r ⟨j, e2, e3⟩
  · obtain ⟨p, a1, a2, a3, a4⟩ := sub_own s hi
    obtain ⟨p', b1, b2, b3, b4⟩ := sub_own s hj
    rw [ei] at a4
    rw [ej] at b4
    have : p = p' := r.nd p p' a a2 b2 (getD_ref a4.symm) (getD_ref b4.symm)
    subst this
    exact dis_uniq hd a1 b1
  · rw [sub_hs r s, gt_map]
    cases e : rs[k]? with
    | none => trivial
    | some x =>
      obtain ⟨ov, e1, e2⟩ := s.get e
      cases x with
      | n d => trivial
      | t d => trivial
      | x d => obtain ⟨v, e3, _, e4⟩ := e2; rw [e1, e3]; exact e4
      | d d => obtain ⟨v, e3, e4⟩ := e2; rw [e1, e3]; exact ⟨v, rfl, e4⟩
      | o j =>
        rw [e1]
        have q := r.sl j
        show SvOk K _ H (some ov) (gt ρ j)
        rw [← show (σ[j]?).getD none = ov from e2]
        cases e5 : σ[j]? with
        | none =>
          rw [e5] at q
          cases hg : gt ρ j with
          | un => trivial
          | vl d => rw [hg] at q; obtain ⟨x, z, _⟩ := q; cases z
          | ow d => rw [hg] at q; obtain ⟨x, _, z, _⟩ := q; cases z
          | tp d => rw [hg] at q; obtain ⟨x, _, _, _, _, z, _⟩ := q; cases z
          | dk d => rw [hg] at q; obtain ⟨x, _, z, _⟩ := q; cases z
          | dt d => rw [hg] at q; obtain ⟨x, _, z, _⟩ := q; cases z
          | ex d m => rw [hg] at q; obtain ⟨x, _, z, _⟩ := q; cases z
          | sc d => rw [hg] at q; obtain ⟨x, z, _⟩ := q; cases z
          | px d m k => rw [hg] at q; obtain ⟨x, _, _, _, z, _⟩ := q; cases z
          | xl es => rw [hg] at q; obtain ⟨x, _, z, _⟩ := q; cases z
        | some y => rw [e5] at q; exact q
theorem Rel.back (r : Rel K F σ ρ H) (s : Srcs K F σ ρ H ovs rs) (hd : dis rs = true) {ss' : En} (r' : Rel K (subFr F σ ρ H ovs (rs.map (slotR ρ))) ovs ss' H') (sb : ∀ i, (gt ss' i).own = true → (gt (rs.map (slotR ρ)) i).own = true) :
    Rel K F σ (L2.back ρ rs ss') H' ∧ Kp σ ρ (L2.back ρ rs ss') H H' ∧ Same (hid H' (hs (subFr F σ ρ H ovs (rs.map (slotR ρ))) ovs ss')) (hid H' (hs F σ (L2.back ρ rs ss'))) := by
  have ln : ss'.length = rs.length := by rw [← r'.len, s.length]
  have cs : ∀ i : Nat, (∃ k : Nat, rs[k]? = some (R.o i) ∧ i < ρ.length ∧ gt (L2.back ρ rs ss') i = gt ss' k) ∨ ((∀ k : Nat, i < ρ.length → rs[k]? ≠ some (R.o i)) ∧ gt (L2.back ρ rs ss') i = gt ρ i) := fun i => by
    by_cases hi : i < ρ.length
    · by_cases q : ∃ k : Nat, rs[k]? = some (R.o i)
      · obtain ⟨k, e⟩ := q
        exact .inl ⟨k, e, hi, back_at rs ρ ss' i k hd e ln hi⟩
      · exact .inr ⟨fun k _ z => q ⟨k, z⟩, back_ne rs ρ ss' i fun k z => q ⟨k, z⟩⟩
    · refine .inr ⟨fun k z => absurd z hi, ?_⟩
      rw [gt_out _ i (by rw [back_len]; omega), gt_out _ i (by omega)]
  have own' : ∀ i, (gt (L2.back ρ rs ss') i).own = true → (gt ρ i).own = true := fun i h => by
    rcases cs i with ⟨k, e, hi, g⟩ | ⟨_, g⟩
    · rw [g] at h
      have := sb k h
      rw [gt_map, e] at this
      exact this
    · rw [g] at h; exact h
  have subo : ∀ {a}, owned σ (L2.back ρ rs ss') a → owned σ ρ a := fun ⟨i, hi, e⟩ => ⟨i, own' i hi, e⟩
  have no : ∀ a, ¬ owned σ ρ a → ¬ owned ovs (rs.map (slotR ρ)) a := fun a h z => by
    obtain ⟨k, j, e1, e2, e3, _⟩ := sub_owned s z
    exact h ⟨j, e2, e3⟩
  have st : ∀ a o, H a = some o → ¬ owned ovs (rs.map (slotR ρ)) a → H' a = some o := fun a o e n => r'.fr a o e n
  have hsub : ∀ a, hs F σ (L2.back ρ rs ss') a → hs (subFr F σ ρ H ovs (rs.map (slotR ρ))) ovs ss' a := fun a h => by
    rcases h with h | ⟨i, hi, e⟩
    · exact .inl (.inl h)
    · rcases cs i with ⟨k, e1, hl, g⟩ | ⟨n, g⟩
      · right
        rw [g] at hi
        obtain ⟨ov, q1, q2⟩ := s.get e1
        refine ⟨k, hi, ?_⟩
        rw [q1, ← show (σ[i]?).getD none = ov from q2, e]
        rfl
      · left; right
        rw [g] at hi
        refine ⟨⟨i, hi, e⟩, fun z => ?_⟩
        obtain ⟨k, j, e1, e2, e3, _⟩ := sub_owned s z
        have : i = j := r.nd i j a hi e2 e e3
        subst this
        exact n k (own_lt hi) e1
  have v1 : Same (hid H' (hs (subFr F σ ρ H ovs (rs.map (slotR ρ))) ovs ss')) (hid H' (hs F σ (L2.back ρ rs ss'))) := hid_same fun a o e n => ⟨e, fun z => n (hsub a z)⟩
  have v2 : Same (hid H (hs F σ ρ)) (hid H' (hs F σ (L2.back ρ rs ss'))) := hid_same fun a o e n => ⟨st a o e (no a fun z => n (.inr z)), fun z => n (z.imp id subo)⟩
  refine ⟨⟨by rw [back_len, r.len], fun a o e n => ?_, fun a z => r'.zl a (.inl z), fun a h => r.zo a (subo h), fun i a hi e => r.ow i a (own' i hi) e, r.mi, r.ml, fun a z => ?_, fun i j a hi hj ei ej => r.nd i j a (own' i hi) (own' j hj) ei ej, fun i => ?_⟩, ⟨fun a o e n => st a o e (no a n), own'⟩, v1⟩
  · have e1 := r.fr a o e n
    refine st a o e1 fun z => ?_
    obtain ⟨k, j, h1, h2, h3, _⟩ := sub_owned s z
    rcases r.ow j a h2 h3 with q | q
    · exact n q.2
    · rw [e] at q; cases q
  · by_cases q : owned ovs (rs.map (slotR ρ)) a
    · exact r'.ma a q
    · cases h : H a with
      | none => exact absurd h (r.ma a z)
      | some o => rw [st a o h q]; exact fun z => nomatch z
  · rcases cs i with ⟨k, e1, hl, g⟩ | ⟨n, g⟩
    · rw [g]
      have q := (r'.sl k).keep v1 fun _ _ _ _ e => e
      obtain ⟨ov, q1, q2⟩ := s.get e1
      rw [q1, ← show (σ[i]?).getD none = ov from q2] at q
      cases e5 : σ[i]? with
      | none =>
        rw [e5] at q
        cases hg : gt ss' k with
        | un => trivial
        | vl d => rw [hg] at q; obtain ⟨x, z, _⟩ := q; cases z
        | ow d => rw [hg] at q; obtain ⟨x, _, z, _⟩ := q; cases z
        | tp d => rw [hg] at q; obtain ⟨x, _, _, _, _, z, _⟩ := q; cases z
        | dk d => rw [hg] at q; obtain ⟨x, _, z, _⟩ := q; cases z
        | dt d => rw [hg] at q; obtain ⟨x, _, z, _⟩ := q; cases z
        | ex d m => rw [hg] at q; obtain ⟨x, _, z, _⟩ := q; cases z
        | sc d => rw [hg] at q; obtain ⟨x, z, _⟩ := q; cases z
        | px d m k => rw [hg] at q; obtain ⟨x, _, _, _, z, _⟩ := q; cases z
        | xl es => rw [hg] at q; obtain ⟨x, _, z, _⟩ := q; cases z
      | some y => rw [e5] at q; exact q
    · rw [g]
      refine (r.sl i).keep v2 fun l o ho e h => st l o h fun z => ?_
      obtain ⟨k, j, e1, e2, e3, _⟩ := sub_owned s z
      have : i = j := r.nd i j l ho e2 e e3
      subst this
      exact n k (own_lt ho) e1
end
abbrev ASp := En → Ko → Prop
def F0 (vs : List V) (ss : En) (H : Hp) (Z : Addr → Prop) : Fr := ⟨H, Z, fun a => owned (vs.map some) ss a, fun i a => (gt ss i).own = true ∧ (vs.map some)[i]? = some (some (.ref a)), fun _ _ => False⟩
def spA (K : PySem.W.Frag) (S : ASp) : Sp := fun vs H Q _ => ∃ ss Z q, Rel K (F0 vs ss H Z) (vs.map some) ss H ∧ S ss q ∧
  ∀ r ss' v H', q r ss' → (∀ i, (gt ss' i).own = true → (gt ss i).own = true) → (∀ i, r ≠ .o i) → RelR K (F0 vs ss H Z) (vs.map some) ss' v H' r → Q v H'
def aCall (S : ASp) (as : AA) : AE := fun ρ q => as ρ fun rs ρ1 => dis rs = true ∧ S (rs.map (slotR ρ1)) fun r ss' => q r (back ρ1 rs ss')
section
variable {K : PySem.W.Frag} {F : Fr} {σ : St} {ρ ρ' : En} {H H' : Hp} {ovs : St} {rs : List R}
theorem InFs.srcs {vs : List V} (h : InFs K F σ ρ H vs rs) : Srcs K F σ ρ H (vs.map some) rs := by
  induction h with
  | nil => exact .nil
  | cons a t ih =>
    rename_i v r vs rs
    refine .cons ?_ ih
    cases r with
    | d d => exact ⟨v, rfl, a⟩
    | o j => show (σ[j]?).getD none = some v; rw [show σ[j]? = _ from a]; rfl
    | n s => trivial
    | t n => trivial
    | x n => exact ⟨v, rfl, a⟩
theorem tok_call {S : ASp} {E : XK} {ts : TA} {as : AA} (hs' : TAok K ts as) : TEok K (tCall (spA K S) [] E ts) (aCall S as) := by
  intro F σ ρ H q Q r h k
  refine hs' F σ ρ H _ _ r h fun rs ρ1 vs H1 h1 r1 i1 k1 => ?_
  obtain ⟨hd, hS⟩ := h1
  have s := i1.srcs
  rw [List.append_nil]
  refine ⟨rs.map (slotR ρ1), (subFr F σ ρ1 H1 (vs.map some) (rs.map (slotR ρ1))).Z, _, r1.sub s hd, hS, fun rr ss' v H' hq sb no out => ?_⟩
  refine (k.after k1) rr (back ρ1 rs ss') v H' hq ?_
  cases rr with
  | o i => exact absurd rfl (no i)
  | d d =>
    obtain ⟨a, b⟩ := out
    obtain ⟨x, y, z⟩ := r1.back s hd a sb
    exact ⟨x, y, RepD.same b z⟩
  | x sv =>
    obtain ⟨a, b, c⟩ := out
    obtain ⟨x, y, z⟩ := r1.back s hd a sb
    exact ⟨x, y, b, c.keep z fun l o ho => by rw [b] at ho; cases ho⟩
  | t n =>
    obtain ⟨a, b⟩ := out
    obtain ⟨x, y, z⟩ := r1.back s hd a sb
    exact ⟨x, y, b⟩
  | n sv =>
    obtain ⟨Hb, l, o, a, b, c, e1, e2, e3⟩ := out
    obtain ⟨x, y, z⟩ := r1.back s hd a sb
    exact ⟨Hb, l, o, x, y, b, c.keep z fun _ _ _ _ e => e, e1, e2, e3⟩
end
end L2
set_option Elab.async false
set_option linter.all false
set_option maxRecDepth 100000
namespace L2
open PySem PySem.Spec PyProof.Rows
section
variable {K : PySem.W.Frag} {F : Fr} {σ σ' : St} {ρ ρ' : En} {H H' : Hp}
open Classical in
noncomputable def rebase (F : Fr) (σ : St) (ρ : En) (H : Hp) (pin : Nat → Bool) : Fr :=
  ⟨fun a => if owned σ ρ a ∧ F.H0 a = none then none else H a, F.Z, fun a => F.M a ∧ owned σ ρ a, F.I, fun i a => F.P i a ∨ (pin i = true ∧ σ[i]? = some (some (.ref a)))⟩
open Classical in
theorem rb_some {pin : Nat → Bool} {a : Addr} {o : HO} (h : ¬ (owned σ ρ a ∧ F.H0 a = none)) (e : H a = some o) : (rebase F σ ρ H pin).H0 a = some o := by
  show (if owned σ ρ a ∧ F.H0 a = none then none else H a) = some o
  rw [if_neg h]; exact e
open Classical in
theorem rb_inv {pin : Nat → Bool} {a : Addr} {o : HO} (e : (rebase F σ ρ H pin).H0 a = some o) : H a = some o := by
  have e' : (if owned σ ρ a ∧ F.H0 a = none then none else H a) = some o := e
  split at e'
  · cases e'
  · exact e'
open Classical in
theorem Rel.rebase (r : Rel K F σ ρ H) (pin : Nat → Bool) : Rel K (L2.rebase F σ ρ H pin) σ ρ H where
  len := r.len
  fr := fun a o e _ => rb_inv e
  zl := r.zl
  zo := r.zo
  ow := fun i a hi e => by
    rcases r.ow i a hi e with ⟨h1, h2⟩ | h
    · exact .inl ⟨h1, h2, i, hi, e⟩
    · refine .inr ?_
      show (if owned σ ρ a ∧ F.H0 a = none then none else H a) = none
      rw [if_pos ⟨⟨i, hi, e⟩, h⟩]
  mi := fun i a h => by
    rcases h with h | h | h
    · exact r.mi i a (.inl h)
    · exact r.mi i a (.inr h)
    · exact h.2
  ml := fun a h => by
    cases e : H a with
    | none => exact absurd e (r.ma a h.1)
    | some o => rw [rb_some (fun z => r.ml a h.1 z.2) e]; exact fun z => nomatch z
  ma := fun a h => r.ma a h.1
  nd := r.nd
  sl := r.sl
theorem Rel.unbase {pin : Nat → Bool} (r : Rel K F σ ρ H) (r' : Rel K (L2.rebase F σ ρ H pin) σ' ρ' H') : Rel K F σ' ρ' H' ∧ Same (hid H (hs F σ ρ)) (hid H' (hs F σ' ρ')) := by
  refine ⟨⟨r'.len, fun a o e n => ?_, r'.zl, r'.zo, fun i a hi e => ?_, fun i a h => r'.mi i a (h.imp id .inl), r.ml, fun a h => ?_, r'.nd, r'.sl⟩, hid_same fun a o e n => ?_⟩
  · exact r'.fr a o (rb_some (fun z => by rw [e] at z; cases z.2) (r.fr a o e n)) fun z => n z.1
  · rcases r'.ow i a hi e with ⟨h1, h2⟩ | h
    · exact .inl ⟨h1, h2.1⟩
    · right
      cases h0 : F.H0 a with
      | none => rfl
      | some o =>
        exfalso
        have nn : H a ≠ none := by
          by_cases q : F.M a
          · exact r.ma a q
          · rw [r.fr a o h0 q]; exact fun z => nomatch z
        cases e2 : H a with
        | none => exact nn e2
        | some u =>
          rw [rb_some (fun z => by rw [h0] at z; cases z.2) e2] at h
          cases h
  · by_cases q : owned σ ρ a
    · exact r'.ma a ⟨h, q⟩
    · cases e : H a with
      | none => exact absurd e (r.ma a h)
      | some o => rw [r'.fr a o (rb_some (fun z => q z.1) e) fun z => q z.2]; exact fun z => nomatch z
  · have n' : ¬ owned σ ρ a := fun z => n (.inr z)
    have e0 := rb_some (F := F) (pin := pin) (fun z => n' z.1) e
    refine ⟨r'.fr a o e0 fun z => n' z.2, fun z => ?_⟩
    rcases z with z | ⟨i, hi, ei⟩
    · exact n (.inl z)
    · rcases r'.ow i a hi ei with ⟨_, h2⟩ | h
      · exact n' h2.2
      · rw [e0] at h; cases h
theorem RelR.unbase {pin : Nat → Bool} {v : V} {rr : R} (r : Rel K F σ ρ H) (r' : RelR K (L2.rebase F σ ρ H pin) σ' ρ' v H' rr) : RelR K F σ' ρ' v H' rr := by
  cases rr with
  | d d => exact ⟨(r.unbase r'.1).1, r'.2⟩
  | o d => exact ⟨(r.unbase r'.1).1, r'.2⟩
  | t d => exact ⟨(r.unbase r'.1).1, r'.2⟩
  | x d => exact ⟨(r.unbase r'.1).1, r'.2⟩
  | n s =>
    obtain ⟨Hb, l, o, a, b, c, e⟩ := r'
    exact ⟨Hb, l, o, (r.unbase a).1, b, c, e⟩
end
structure EndOk (K : PySem.W.Frag) (F : Fr) (D : Ends) (e : AEnds) : Prop where
  nx : ∀ σ' ρ' H', e.nx ρ' → Rel K F σ' ρ' H' → D.nx σ' H'
  bk : ∀ σ' ρ' H', e.bk ρ' → Rel K F σ' ρ' H' → D.bk σ' H'
  ct : ∀ σ' ρ' H', e.ct ρ' → Rel K F σ' ρ' H' → D.ct σ' H'
  rt : ∀ σ' ρ' r v H', e.rt r ρ' → RelR K F σ' ρ' v H' r → D.rt v H'
def TSok (K : PySem.W.Frag) (pr : Nat → Bool) (t : TS) (a : AS) : Prop := ∀ F σ ρ H D e, (∀ i a, F.pin i a → pr i = true) → Rel K F σ ρ H → a e ρ → EndOk K F D e → t D σ H
abbrev AG := D → En → (En → Prop) → Prop
def TGok (K : PySem.W.Frag) (pr : Nat → Bool) (g : TG) (ag : AG) : Prop := ∀ F σ ρ H v d k Q, (∀ i a, F.pin i a → pr i = true) → Rel K F σ ρ H → RepD K (hid H (hs F σ ρ)) v d → ag d ρ k →
  (∀ σ' ρ', k ρ' → Rel K F σ' ρ' H → σ'.length = σ.length → (∀ i, pr i = true → σ'[i]? = σ[i]?) → (∀ i, (gt ρ' i).own = true → (gt ρ i).own = true ∧ σ'[i]? = σ[i]?) → Q σ' H) → g v σ H Q
section
variable {K : PySem.W.Frag} {pr : Nat → Bool} {t u : TS} {a b : AS} {te : TE} {ae : AE} {tt : TT} {at' : AT}
theorem nopin {F : Fr} {i : Nat} (hp : ∀ i a, F.pin i a → pr i = true) (h : pr i = false) : ∀ a, ¬ F.pin i a := fun a z => by rw [hp i a z] at h; cases h
def gaName (i : Nat) : AG := fun d ρ k => k (pt ρ i (.vl d))
theorem tgok_name {i : Nat} (h : pr i = false) : TGok K pr (gName i) (gaName i) := by
  intro F σ ρ H v d k Q hp r hd ha kk
  refine kk _ _ ha (r.set hd (nopin hp h)) (by rw [List.length_set]) (fun j hj => ?_) fun j hj => ?_
  · rw [List.getElem?_set_ne]; rintro rfl; rw [h] at hj; cases hj
  · obtain ⟨ne, q⟩ := own_set rfl hj
    exact ⟨q, by rw [List.getElem?_set_ne ne]⟩
def aNext : AS := fun e ρ => e.nx ρ
def aSeq (a b : AS) : AS := fun e ρ => a { e with nx := b e } ρ
theorem sok_next : TSok K pr tNext aNext := fun F σ ρ H D e hp r h k => k.nx _ _ _ h r
theorem sok_seq (ha : TSok K pr t a) (hb : TSok K pr u b) : TSok K pr (tSeq t u) (aSeq a b) := fun F σ ρ H D e hp r h k =>
  ha F σ ρ H _ _ hp r h ⟨fun σ' ρ' H' h' r' => hb F σ' ρ' H' D e hp r' h' k, k.bk, k.ct, k.rt⟩
def aDrop (x : AE) : AS := fun e ρ => x ρ fun _ ρ1 => e.nx ρ1
theorem sok_drop (h : TEok K te ae) : TSok K pr (tDrop te) (aDrop ae) := fun F σ ρ H D e hp r ha k =>
  h F σ ρ H _ _ r ha fun r1 ρ1 v H1 h1 o => k.nx _ _ _ h1 o.inF.1
def aRet (x : AE) : AS := fun e ρ => x ρ e.rt
theorem sok_ret (h : TEok K te ae) : TSok K pr (tRet te) (aRet ae) := fun F σ ρ H D e hp r ha k =>
  h F σ ρ H _ _ r ha fun r1 ρ1 v H1 h1 o => k.rt _ _ _ _ _ h1 o.rel
def aIfS (c : AT) (a b : AS) : AS := fun e ρ => c ρ fun k ρ1 => if k = true then a e ρ1 else b e ρ1
theorem sok_if (hc : TTok K tt at') (ha : TSok K pr t a) (hb : TSok K pr u b) : TSok K pr (tIfS tt t u) (aIfS at' a b) := by
  intro F σ ρ H D e hp r h k
  refine hc F σ ρ H _ _ r h fun c ρ1 H1 h1 r1 k1 => ?_
  cases c with
  | true => exact ha F σ ρ1 H1 D e hp r1 h1 k
  | false => exact hb F σ ρ1 H1 D e hp r1 h1 k
def stS (i : Nat) : R → En → (En → Prop) → Prop
  | .d d, ρ, k => k (pt ρ i (.vl d))
  | .n s, ρ, k => k (pt ρ i s)
  | .o j, ρ, k => (match gt ρ j with
    | .ow ds => k (pt (pt ρ j (.vl (.lst ds))) i (.vl (.lst ds)))
    | .vl d => k (pt ρ i (.vl d))
    | .ex C fs => k (pt ρ i (.ex C fs))
    | _ => False)
  | .t _, _, _ => False
  | .x s, ρ, k => k (pt ρ i s)
def aSet (i : Nat) (x : AE) : AS := fun e ρ => x ρ fun r ρ1 => stS i r ρ1 e.nx
theorem set_ok {i : Nat} (hi : pr i = false) (h : TEok K te ae) : TSok K pr (fun D σ H => te σ H fun v H' => D.nx (σ.set i (some v)) H') (aSet i ae) := by
  intro F σ ρ H D e hp r ha k
  refine h F σ ρ H _ _ r ha fun r1 ρ1 v H1 h1 o => ?_
  have np := nopin hp hi
  cases r1 with
  | d d => exact k.nx _ _ _ h1 (o.1.set o.2.2 np)
  | t n => exact h1.elim
  | x s => exact k.nx _ _ _ h1 (o.1.setS o.2.2.1 o.2.2.2 np)
  | n s =>
    obtain ⟨Hb, l, u, a1, a2, a3, a4, a5, rfl, rfl⟩ := o
    exact k.nx _ _ _ h1 (a1.setF a3 a4 a5 np)
  | o j =>
    obtain ⟨r1, k1, ej⟩ := o
    have h2 : (match gt ρ1 j with
      | .ow ds => e.nx (pt (pt ρ1 j (.vl (.lst ds))) i (.vl (.lst ds)))
      | .vl d => e.nx (pt ρ1 i (.vl d))
      | .ex C fs => e.nx (pt ρ1 i (.ex C fs))
      | _ => False) := h1
    clear h1
    split at h2
    · rename_i ds hg
      obtain ⟨l, el, r2, k2, rd⟩ := r1.frz hg
      rw [ej] at el
      injection el with el; injection el with el; subst el
      exact k.nx _ _ _ h2 (r2.set rd np)
    · rename_i d hg
      have q := r1.sl j
      rw [hg] at q
      obtain ⟨x, e1, e2⟩ := q
      rw [ej] at e1
      injection e1 with e1; injection e1 with e1; subst e1
      exact k.nx _ _ _ h2 (r1.set e2 np)
    · rename_i C fs hg
      have q := r1.sl j
      rw [hg, ej] at q
      exact k.nx _ _ _ h2 (r1.setS rfl q np)
    · exact h2.elim
theorem sok_set {i : Nat} (h : TEok K te ae) (hi : pr i = false) : TSok K pr (tAsg te (gName i)) (aSet i ae) := set_ok hi h
theorem RepDs.set {H : Hp} : ∀ {vs : List V} {ds : List D} {v : V} {d : D} (p : Nat), RepDs K H vs ds → RepD K H v d → RepDs K H (vs.set p v) (ds.set p d)
  | [], [], _, _, p, h, _ => by simp [RepDs.nil]
  | v :: vs, d :: ds, _, _, 0, h, q => by unfold RepDs at h; exact .cons q h.2
  | v :: vs, d :: ds, _, _, p + 1, h, q => by unfold RepDs at h; exact .cons h.1 (RepDs.set p h.2 q)
  | [], d :: ds, _, _, _, h, _ => by unfold RepDs at h; exact h.elim
  | v :: vs, [], _, _, _, h, _ => by unfold RepDs at h; exact h.elim
abbrev AI := En → (List D → (En → Prop) → En → Prop) → Prop
def WkAt (K : PySem.W.Frag) (S : Addr → Prop) (H : Hp) (J : It) (ds : List D) : Prop := ∀ k : Nat, (∀ d, ds[k]? = some d → J.go k H ∧ ∀ x H', J.yld k H x H' → Same H H' ∧ RepD K (hid H' S) x d) ∧ (ds.length ≤ k → J.stop k H)
def TIok (K : PySem.W.Frag) (pin : Nat → Bool) (wi : TI) (ai : AI) : Prop := ∀ F σ ρ H q Rk, Rel K F σ ρ H → ai ρ q → (∀ ds c ρ' J H', q ds c ρ' → Rel K F σ ρ' H' → Kp σ ρ ρ' H H' →
  (∀ σ2 ρ2 H2, Same (hid H' (hs F σ ρ')) (hid H2 (hs F σ2 ρ2)) → (∀ i, SvOk K (hid H2 (hs F σ2 ρ2)) H2 σ2[i]? (gt ρ2 i)) → (∀ j a, pin j = true → σ[j]? = some (some (.ref a)) → σ2[j]? = some (some (.ref a))) → (∀ a, hs F σ2 ρ2 a → Nt H2 a) → c ρ2 → WkAt K (hs F σ2 ρ2) H2 J ds) → Rk J H') → wi σ H Rk
def rngD (lo : Int) (n : Nat) : List D := (List.range n).map fun (i : Nat) => D.int (lo + (i : Nat))
theorem rngD_len (lo : Int) (n : Nat) : (rngD lo n).length = n := by simp [rngD]
theorem wk_rng {S : Addr → Prop} {H : Hp} {lo : Int} {n : Nat} : WkAt K S H (Itr lo n) (rngD lo n) := by
  intro k
  constructor
  · intro d h
    unfold rngD at h
    rw [List.getElem?_map] at h
    obtain ⟨j, e1, e2⟩ := Option.map_eq_some_iff.mp h
    have lt : k < n := by
      rcases Nat.lt_or_ge k n with q | q
      · exact q
      · rw [List.getElem?_eq_none (by simpa using q)] at e1; cases e1
    rw [List.getElem?_range lt] at e1
    cases e1
    refine ⟨lt, fun x H' z => ⟨z.1 ▸ Same.refl H, ?_⟩⟩
    rw [z.2, ← e2]
    unfold RepD; rfl
  · intro h; rw [rngD_len] at h; exact h
def aRng1 (as : AA) : AI := fun ρ q => as ρ fun rs ρ1 => match rs with
  | [.d (.int j)] => (-(2 ^ 62) ≤ j ∧ j < 2 ^ 62) ∧ q (rngD 0 j.toNat) (fun _ => True) ρ1
  | _ => False
theorem tiok_rng1 {pin : Nat → Bool} {ta : TA} {as : AA} (h : TAok K ta as) : TIok K pin (iRng1 ta) (aRng1 as) := by
  intro F σ ρ H q Rk r ha k
  refine h F σ ρ H _ _ r ha fun rs ρ1 vs H1 h1 r1 i1 k1 => ?_
  split at h1
  · obtain ⟨x, rfl, i⟩ := i1.one
    exact ⟨_, by rw [i.int], h1.1.1, h1.1.2, k _ _ _ _ _ h1.2 r1 k1 fun _ _ _ _ _ _ _ _ => wk_rng⟩
  · exact h1.elim
def forA (c : En → Prop) (g : AG) (b : AS) (e : AEnds) : List D → En → Prop
  | [], ρ => c ρ ∧ e.nx ρ
  | d :: ds, ρ => c ρ ∧ g d ρ fun ρ1 => b { nx := forA c g b e ds, ct := forA c g b e ds, bk := e.nx, rt := e.rt } ρ1
def aFor (i : AI) (g : AG) (b : AS) : AS := fun e ρ => i ρ fun ds c ρ1 => forA c g b e ds ρ1
theorem sok_for {pin : Nat → Bool} {wi : TI} {ai : AI} {g : TG} {ag : AG} (hi : TIok K pin wi ai) (hg : TGok K (fun j => pr j || pin j) g ag) (hb : TSok K (fun j => pr j || pin j) t a) : TSok K pr (tFor wi g t) (aFor ai ag a) := by
  intro F σ ρ H D e hp r ha k
  refine hi F σ ρ H _ _ r ha fun ds c ρ1 J H1 h1 r1 k1 wk => ?_
  have hp' : ∀ i a, (rebase F σ ρ1 H1 pin).pin i a → (pr i || pin i) = true := fun i a h => by
    rcases h with h | h | h
    · rw [hp i a (.inl h)]; rfl
    · rw [hp i a (.inr h)]; rfl
    · rw [h.1]; cases pr i <;> rfl
  have ek : EndOk K (rebase F σ ρ1 H1 pin) D e := ⟨fun _ _ _ h' r' => k.nx _ _ _ h' (r1.unbase r').1, fun _ _ _ h' r' => k.bk _ _ _ h' (r1.unbase r').1, fun _ _ _ h' r' => k.ct _ _ _ h' (r1.unbase r').1, fun _ _ _ _ _ h' r' => k.rt _ _ _ _ _ h' (RelR.unbase r1 r')⟩
  refine ⟨fun i m σ' H' => ∃ ρ', m = ds.length - i ∧ i ≤ ds.length ∧ Rel K (rebase F σ ρ1 H1 pin) σ' ρ' H' ∧ forA c ag a e (ds.drop i) ρ', ⟨ds.length, ρ1, rfl, Nat.zero_le _, r1.rebase pin, h1⟩, ?_⟩
  rintro i m σ' H' ⟨ρ', rfl, hl, r', h'⟩
  have w : c ρ' → WkAt K (hs F σ' ρ') H' J ds := fun hc => wk σ' ρ' H' (r1.unbase r').2 r'.sl (fun j x hj ej => r'.mi j x (.inr (.inr ⟨hj, ej⟩))) (fun a z => hs_nt r' z) hc
  rcases Nat.lt_or_ge i ds.length with q | q
  · right
    rw [List.drop_eq_getElem_cons q] at h'
    unfold forA at h'
    obtain ⟨hc, h'⟩ := h'
    obtain ⟨go, yld⟩ := (w hc i).1 ds[i] (List.getElem?_eq_getElem q)
    refine ⟨go, fun σ2 H2 => ∃ ρ2, Rel K (rebase F σ ρ1 H1 pin) σ2 ρ2 H2 ∧ forA c ag a e (ds.drop (i + 1)) ρ2, fun σ2 H2 ⟨ρ2, r2, h2⟩ => ⟨ds.length - (i + 1), by omega, ρ2, rfl, q, r2, h2⟩, fun x H2 hy => ?_⟩
    obtain ⟨sm, rd⟩ := yld x H2 hy
    refine hg _ σ' ρ' _ x _ _ _ hp' (r'.grow sm) rd h' fun σ3 ρ3 h3 r3 _ _ _ => ?_
    exact hb _ σ3 ρ3 _ _ _ hp' r3 h3 ⟨fun σ' ρ' H' h' r' => ⟨ρ', r', h'⟩, ek.nx, fun σ' ρ' H' h' r' => ⟨ρ', r', h'⟩, ek.rt⟩
  · left
    rw [List.drop_eq_nil_of_le q] at h'
    unfold forA at h'
    obtain ⟨hc, h'⟩ := h'
    exact ⟨(w hc i).2 q, ek.nx _ _ _ h' r'⟩
end
end L2
set_option Elab.async false
set_option linter.all false
set_option maxRecDepth 100000
namespace L2
open PySem PySem.Spec PyProof.Rows
def blkE (n : Nat) (js : List Nat) (ρ : En) : En := List.replicate n .un ++ js.map (gt ρ)
def blkR (n : Nat) (js : List Nat) : List R := List.replicate n (R.t "") ++ js.map R.o
theorem blkR_slots (n : Nat) (js : List Nat) (ρ : En) : (blkR n js).map (slotR ρ) = blkE n js ρ := by
  unfold blkR blkE
  rw [List.map_append, List.map_replicate, List.map_map]
  rfl
theorem blkR_dis (js : List Nat) : ∀ n, dis (blkR n js) = dis (js.map R.o)
  | 0 => rfl
  | n + 1 => by
    show dis (R.t "" :: blkR n js) = _
    exact blkR_dis js n
theorem blkR_back (js : List Nat) (ρ : En) (n : Nat) : ∀ ss : En, ss.length = n + js.length → back ρ (blkR n js) ss = back ρ (js.map R.o) (ss.drop n) := by
  induction n with
  | zero => intro ss _; rfl
  | succ n ih =>
    intro ss h
    cases ss with
    | nil => simp at h; omega
    | cons s ss => exact ih ss (by simp at h; omega)
theorem blkE_own {n : Nat} {js : List Nat} {ρ : En} {i : Nat} (h : (gt (blkE n js ρ) i).own = true) : n ≤ i := by
  rcases Nat.lt_or_ge i n with q | q
  · exfalso
    have : ∀ (n i : Nat) (x : En), i < n → gt (List.replicate n Sv.un ++ x) i = .un := by
      intro n
      induction n with
      | zero => intro i x h; omega
      | succ n ih =>
        intro i x h
        cases i with
        | zero => rfl
        | succ i => exact ih i x (by omega)
    unfold blkE at h
    rw [this n i _ q] at h
    cases h
  · exact q
section
variable {K : PySem.W.Frag} {F : Fr} {σ σ' : St} {ρ ρ' : En} {H H' : Hp}
theorem blk_srcs (n : Nat) (js : List Nat) : Srcs K F σ ρ H (bst n σ js) (blkR n js) := by
  unfold bst blkR
  induction n with
  | zero =>
    induction js with
    | nil => exact .nil
    | cons j js ih => exact .cons rfl ih
  | succ n ih => exact .cons trivial ih
theorem gt_drop : ∀ (n i : Nat) (ρ : En), gt (ρ.drop n) i = gt ρ (n + i)
  | 0, i, ρ => by simp
  | n + 1, i, [] => by simp [gt]
  | n + 1, i, s :: ρ => by rw [List.drop_succ_cons, gt_drop n i ρ, Nat.add_right_comm]; rfl
theorem gt_pad : ∀ (n i : Nat) (x : En), gt (List.replicate n Sv.un ++ x) i = if i < n then .un else gt x (i - n)
  | 0, i, x => by simp
  | n + 1, 0, x => by simp [List.replicate_succ, gt]
  | n + 1, i + 1, x => by
    show gt (List.replicate n Sv.un ++ x) i = _
    rw [gt_pad n i x]
    by_cases h : i < n
    · rw [if_pos h, if_pos (by omega)]
    · rw [if_neg h, if_neg (by omega)]; congr 1; omega
theorem Rel.forget {n : Nat} (r : Rel K F σ ρ H) (hn : n ≤ σ.length) (hp : ∀ i a, F.pin i a → n ≤ i) : Rel K F (List.replicate n none ++ σ.drop n) (List.replicate n .un ++ ρ.drop n) H ∧ Same (hid H (hs F σ ρ)) (hid H (hs F (List.replicate n none ++ σ.drop n) (List.replicate n .un ++ ρ.drop n))) := by
  have g : ∀ i, gt (List.replicate n .un ++ ρ.drop n) i = if i < n then .un else gt ρ i := fun i => by
    rw [gt_pad]
    split
    · rfl
    · rw [gt_drop]; congr 1; omega
  have s : ∀ i, n ≤ i → (List.replicate n none ++ σ.drop n)[i]? = σ[i]? := fun i h => by
    rw [List.getElem?_append_right (by simpa using h), List.length_replicate, List.getElem?_drop]
    congr 1; omega
  have own' : ∀ i, (gt (List.replicate n .un ++ ρ.drop n) i).own = true → n ≤ i ∧ (gt ρ i).own = true := fun i h => by
    rw [g] at h
    split at h
    · cases h
    · exact ⟨by omega, h⟩
  have sub : ∀ a, owned (List.replicate n none ++ σ.drop n) (List.replicate n .un ++ ρ.drop n) a → owned σ ρ a := fun a ⟨i, hi, e⟩ => by
    obtain ⟨h1, h2⟩ := own' i hi
    rw [s i h1] at e
    exact ⟨i, h2, e⟩
  have vis : Same (hid H (hs F σ ρ)) (hid H (hs F (List.replicate n none ++ σ.drop n) (List.replicate n .un ++ ρ.drop n))) := hid_same fun a o e n => ⟨e, fun z => n (z.imp id (sub a))⟩
  refine ⟨⟨by have := r.len; simp; omega, r.fr, r.zl, fun a h => r.zo a (sub a h), fun i a hi e => ?_, fun i a h => ?_, r.ml, r.ma, fun i j a hi hj ei ej => ?_, fun i => ?_⟩, vis⟩
  · obtain ⟨h1, h2⟩ := own' i hi
    rw [s i h1] at e
    exact r.ow i a h2 e
  · rw [s i (hp i a h)]; exact r.mi i a h
  · obtain ⟨h1, h2⟩ := own' i hi
    obtain ⟨h3, h4⟩ := own' j hj
    rw [s i h1] at ei
    rw [s j h3] at ej
    exact r.nd i j a h2 h4 ei ej
  · rw [g]
    split
    · trivial
    · rw [s i (by omega)]
      exact (r.sl i).keep vis fun _ _ _ _ e => e
end
def compA (n : Nat) (js : List Nat) (c : En → Prop) (g : AG) (tc : AT) (te : AE) (q : List D → En → Prop) : List D → List D → En → Prop
  | [], acc, ρ => c ρ ∧ q acc ρ
  | d :: ds, acc, ρ => c ρ ∧ g d (blkE n js ρ) fun ρ1 => tc ρ1 fun b ρ2 => if b = true then te ρ2 fun r ρ3 => sto [r.frz] ρ3 fun es ρ4 => compA n js c g tc te q ds (acc ++ es) (back ρ (js.map R.o) (ρ4.drop n)) else compA n js c g tc te q ds acc (back ρ (js.map R.o) (ρ2.drop n))
def aComp (n : Nat) (js : List Nat) (i : AI) (g : AG) (tc : AT) (te : AE) : AE := fun ρ q => i ρ fun ds c ρ1 => ds.length ≤ 1000000 ∧ compA n js c g tc te (fun acc ρ2 => q (.f acc) ρ2) ds [] ρ1
def aAll : AT := fun ρ q => q true ρ
section
variable {K : PySem.W.Frag}
theorem ttok_all : TTok K tAll aAll := fun F σ ρ H q Q r h k => k _ _ _ h r .refl
theorem sto_one {F : Fr} {σ : St} {ρ : En} {H : Hp} {v : V} {r : R} {q : List D → En → Prop} (a : Rel K F σ ρ H) (i : InF K F σ ρ H v r) (h : sto [r] ρ q) : ∃ d ρ', q [d] ρ' ∧ Rel K F σ ρ' H ∧ Kp σ ρ ρ' H H ∧ RepD K (hid H (hs F σ ρ')) v d := by
  obtain ⟨ds, ρ', h1, h2, h3, h4⟩ := sto_ok a (.cons i .nil) h
  cases ds with
  | nil => unfold RepDs at h4; exact h4.elim
  | cons d ds =>
    unfold RepDs at h4
    cases ds with
    | nil => exact ⟨d, ρ', h1, h2, h3, h4.1⟩
    | cons _ _ => obtain ⟨_, z⟩ := h4; unfold RepDs at z; exact z.elim
theorem tok_comp {n : Nat} {js : List Nat} {wi : TI} {g : TG} {tc : TT} {te : TE} {ai : AI} {ag : AG} {atc : AT} {ate : AE} (hi : TIok K (fun _ => true) wi ai) (hg : TGok K (fun j => decide (n ≤ j)) g ag) (hc : TTok K tc atc) (he : TEok K te ate)
    (hd : dis (js.map R.o) = true := by rfl) : TEok K (tComp n js wi g tc te) (aComp n js ai ag atc ate) := by
  intro F σ ρ H q Q r h k
  refine hi F σ ρ H _ _ r h fun ds c ρ1 J H1 h1 r1 k1 wk => ?_
  obtain ⟨hz, h1⟩ := h1
  have hd' : dis (blkR n js) = true := by rw [blkR_dis]; exact hd
  refine ⟨fun i m ys H' => ∃ ρ' acc, m = ds.length - i ∧ i ≤ ds.length ∧ Rel K F σ ρ' H' ∧ Kp σ ρ1 ρ' H1 H' ∧ RepDs K (hid H' (hs F σ ρ')) ys acc ∧ acc.length ≤ i ∧ compA n js c ag atc ate (fun acc ρ2 => q (.f acc) ρ2) (ds.drop i) acc ρ', ⟨ds.length, ρ1, [], rfl, Nat.zero_le _, r1, .refl, .nil, Nat.zero_le _, h1⟩, ?_⟩
  rintro i m ys H' ⟨ρ', acc, rfl, hl, r', k', rd, al, h'⟩
  have w : c ρ' → WkAt K (hs F σ ρ') H' J ds := fun hc => wk σ ρ' H' k'.vis r'.sl (fun _ _ _ e => e) (fun a z => hs_nt r' z) hc
  have yl : ys.length = acc.length := rd.length
  rcases Nat.lt_or_ge i ds.length with lt | ge
  · right
    rw [List.drop_eq_getElem_cons lt] at h'
    unfold compA at h'
    obtain ⟨hcc, h'⟩ := h'
    obtain ⟨go, yld⟩ := (w hcc i).1 ds[i] (List.getElem?_eq_getElem lt)
    refine ⟨go, smallS (by omega), fun zs H2 => ∃ ρ2 acc2, Rel K F σ ρ2 H2 ∧ Kp σ ρ1 ρ2 H1 H2 ∧ RepDs K (hid H2 (hs F σ ρ2)) zs acc2 ∧ acc2.length ≤ i + 1 ∧ compA n js c ag atc ate (fun acc ρ2 => q (.f acc) ρ2) (ds.drop (i + 1)) acc2 ρ2,
      fun zs H2 ⟨ρ2, acc2, a1, a2, a3, a4, a5⟩ => ⟨ds.length - (i + 1), by omega, ρ2, acc2, rfl, lt, a1, a2, a3, a4, a5⟩, fun x H2 hy => ?_⟩
    obtain ⟨sm, rx⟩ := yld x H2 hy
    have r0' := r'
    have k' : Kp σ ρ1 ρ' H1 H2 := k'.trans ⟨fun a o e _ => sm a o e, fun _ h => h⟩
    have rd : RepDs K (hid H2 (hs F σ ρ')) ys acc := rd.same (hid_same fun a o e n => ⟨sm a o e, n⟩)
    have r' := r0'.grow sm
    have src := blk_srcs (K := K) (F := F) (σ := σ) (ρ := ρ') (H := H2) n js
    have rb := r'.sub src hd'
    have hs2 := sub_hs r' src
    rw [blkR_slots] at rb hs2
    have pin : ∀ i a, (subFr F σ ρ' H2 (bst n σ js) (blkE n js ρ')).pin i a → decide (n ≤ i) = true := fun i a h => by
      rcases h with h | h
      · exact decide_eq_true (blkE_own h.1)
      · exact h.elim
    have hlen : (bst n σ js).length = n + js.length := bst_len
    have ret : ∀ σ2 ρ2 H3, Rel K (subFr F σ ρ' H2 (bst n σ js) (blkE n js ρ')) σ2 ρ2 H3 → σ2.length = (bst n σ js).length → σ2.drop n = capt σ js → (∀ i, (gt ρ2 i).own = true → (gt (blkE n js ρ') i).own = true) →
        Rel K F σ (back ρ' (js.map R.o) (ρ2.drop n)) H3 ∧ Kp σ ρ' (back ρ' (js.map R.o) (ρ2.drop n)) H2 H3 ∧ Same (hid H3 (hs (subFr F σ ρ' H2 (bst n σ js) (blkE n js ρ')) σ2 ρ2)) (hid H3 (hs F σ (back ρ' (js.map R.o) (ρ2.drop n)))) := fun σ2 ρ2 H3 rr hlen2 hdrop hown => by
      obtain ⟨f1, f2⟩ := rr.forget (n := n) (by omega) fun i a h => of_decide_eq_true (pin i a h)
      rw [hdrop] at f1 f2
      have f1' : Rel K (subFr F σ ρ' H2 (bst n σ js) ((blkR n js).map (slotR ρ'))) (bst n σ js) (List.replicate n .un ++ ρ2.drop n) H3 := by rw [blkR_slots]; exact f1
      have bk := r'.back src hd' f1' fun i hi => by
        rw [blkR_slots]
        rw [gt_pad] at hi
        split at hi
        · cases hi
        · rename_i hni
          rw [gt_drop, show n + (i - n) = i by omega] at hi
          exact hown i hi
      have ln : (List.replicate n Sv.un ++ ρ2.drop n).length = n + js.length := by
        have := rr.len
        simp; omega
      rw [blkR_back js ρ' n _ ln, List.drop_left' (by simp), blkR_slots] at bk
      exact ⟨bk.1, bk.2.1, f2.trans bk.2.2⟩
    refine hg _ (bst n σ js) (blkE n js ρ') H2 x _ _ _ pin rb (by rw [hs2]; exact rx) h' fun σ2 ρ2 h2 r2 l2 p2 o2 => ?_
    have hdrop : σ2.drop n = capt σ js := by
      have : σ2.drop n = (bst n σ js).drop n := by
        apply List.ext_getElem?
        intro i
        rw [List.getElem?_drop, List.getElem?_drop]
        exact p2 (n + i) (decide_eq_true (by omega))
      rw [this]
      unfold bst
      rw [List.drop_left' (by simp)]
    refine ⟨hdrop, hc _ σ2 ρ2 H2 _ _ r2 h2 fun b ρ3 H3 h3 r3 k3 => ?_⟩
    cases b with
    | false =>
      obtain ⟨b1, b2, _⟩ := ret σ2 ρ3 H3 r3 l2 hdrop fun i hi => (o2 i (k3.sb i hi)).1
      exact ⟨_, acc, b1, k'.trans b2, rd.same b2.vis, by omega, h3⟩
    | true =>
      refine he _ σ2 ρ3 H3 _ _ r3 h3 fun r4 ρ4 v H4 h4 o4 => ?_
      obtain ⟨r4', k4, i4⟩ := o4.inF
      obtain ⟨d, ρ5, h5, r5, k5, rv⟩ := sto_one r4' i4 h4
      obtain ⟨b1, b2, b3⟩ := ret σ2 ρ5 H4 r5 l2 hdrop fun i hi => (o2 i (k3.sb i (k4.sb i (k5.sb i hi)))).1
      exact ⟨_, acc ++ [d], b1, k'.trans b2, (rd.same b2.vis).append (.one (rv.same b3)), by simp; omega, h5⟩
  · left
    rw [List.drop_eq_nil_of_le ge] at h'
    unfold compA at h'
    obtain ⟨hcc, h'⟩ := h'
    refine ⟨(w hcc i).2 ge, small (by omega), fun l hl' => ?_⟩
    exact ((k.after k1).after k').new r' h' rd hl'
end
def outS : En → En → En
  | [], _ => []
  | s :: ss, ρ => (if s.own = true then gt ρ 0 else s) :: outS ss ρ.tail
theorem gt_tail (ρ : En) (i : Nat) : gt ρ.tail i = gt ρ (i + 1) := by cases ρ <;> rfl
theorem outS_len : ∀ (ss ρ : En), (outS ss ρ).length = ss.length
  | [], _ => rfl
  | s :: ss, ρ => by simp [outS, outS_len ss]
theorem gt_outS : ∀ (ss ρ : En) (i : Nat), gt (outS ss ρ) i = if (gt ss i).own = true then gt ρ i else gt ss i
  | [], ρ, i => by simp [outS, gt, Sv.own]
  | s :: ss, ρ, 0 => rfl
  | s :: ss, ρ, i + 1 => by
    show gt (outS ss ρ.tail) i = _
    rw [gt_outS ss ρ.tail i, gt_tail]
    rfl
def fin (pr : Nat → Bool) : R → En → Ko → Prop
  | .d d, ρ, k => k (.d d) ρ
  | .n s, ρ, k => k (.n s) ρ
  | .o i, ρ, k => (match gt ρ i with
    | .ow ds => if pr i = true then k (.d (.lst ds)) (pt ρ i (.vl (.lst ds))) else k (.n (.ow ds)) (pt ρ i .un)
    | .vl d => k (.d d) ρ
    | .dk kvs => if pr i = true then False else k (.n (.dk kvs)) (pt ρ i .un)
    | .dt kvs => if pr i = true then False else k (.n (.dt kvs)) (pt ρ i .un)
    | _ => False)
  | .t _, _, _ => False
  | .x s, ρ, k => k (.x s) ρ
def ownPr (pr : Nat → Bool) (ss : En) : Prop := ∀ i, (gt ss i).own = true → pr i = true
section
variable {K : PySem.W.Frag} {F : Fr} {σ σ' : St} {ρ ρ' : En} {H H' : Hp}
open Classical in
noncomputable def del (H : Hp) (l : Addr) : Hp := fun a => if a = l then none else H a
open Classical in
theorem del_same {l : Addr} : del H l l = none := by unfold del; rw [if_pos rfl]
open Classical in
theorem del_ne {a l : Addr} (h : a ≠ l) : del H l a = H a := by unfold del; rw [if_neg h]
theorem del_upd {l : Addr} {o : HO} (h : H l = some o) : upd (del H l) l o = H := by
  funext a
  by_cases e : a = l
  · subst e; rw [upd_same, h]
  · rw [upd_ne e, del_ne e]
theorem Rel.take (r : Rel K F σ ρ H) {i : Nat} (hi : (gt ρ i).own = true) (hm : ∀ a, ¬ F.pin i a) : ∃ l o, H l = some o ∧ σ[i]? = some (some (.ref l)) ∧ Rel K F σ (pt ρ i .un) (del H l) ∧ SvOk K (hid (del H l) (hs F σ (pt ρ i .un))) H (some (some (.ref l))) (gt ρ i) := by
  have s := r.sl i
  obtain ⟨l, o, el, hl⟩ := s.alive hi
  have own' : ∀ j, (gt (pt ρ i .un) j).own = true → i ≠ j ∧ (gt ρ j).own = true := fun j h => own_set rfl h
  have sub : ∀ a, owned σ (pt ρ i .un) a → owned σ ρ a ∧ a ≠ l := fun a ⟨j, hj, e⟩ => by
    obtain ⟨ij, hj⟩ := own' j hj
    exact ⟨⟨j, hj, e⟩, fun z => ij (r.nd i j l hi hj el (z ▸ e))⟩
  have ol : owned σ ρ l := ⟨i, hi, el⟩
  have vis : Same (hid H (hs F σ ρ)) (hid (del H l) (hs F σ (pt ρ i .un))) := hid_same fun a u e n => by
    have al : a ≠ l := fun z => n (.inr (z ▸ ol))
    exact ⟨by rw [del_ne al]; exact e, fun z => n (z.imp id fun z => (sub a z).1)⟩
  have h0 : F.H0 l = none := by
    rcases r.ow i l hi el with h | h
    · exact absurd (Or.inl h.1) (hm l)
    · exact h
  refine ⟨l, o, hl, el, ⟨by rw [pt_len, r.len], fun a u e n => ?_, fun a z => ?_, fun a h => r.zo a (sub a h).1, fun j a hj e => r.ow j a (own' j hj).2 e, r.mi, r.ml, fun a z => ?_, fun j k a hj hk ej ek => r.nd j k a (own' j hj).2 (own' k hk).2 ej ek, fun j => ?_⟩, ?_⟩
  · have al : a ≠ l := fun z => by rw [z, h0] at e; cases e
    rw [del_ne al]; exact r.fr a u e n
  · have al : a ≠ l := fun q => r.zo l ol (q ▸ z)
    unfold Nt; rw [del_ne al]; exact r.zl a z
  · have al : a ≠ l := fun q => r.ml a z (q ▸ h0)
    rw [del_ne al]; exact r.ma a z
  · by_cases ij : i = j
    · subst ij
      rw [gt_pt ρ i _ (own_lt hi)]; trivial
    · rw [gt_pt_ne ρ i j _ ij]
      refine (r.sl j).keep vis fun a u ho e h => ?_
      have al : a ≠ l := fun z => ij (r.nd i j l hi ho el (z ▸ e))
      rw [del_ne al]; exact h
  · rw [el] at s
    exact s.keep vis fun _ _ _ _ e => e
theorem Rel.out {vs : List V} {ss : En} {Z : Addr → Prop} (r0 : Rel K (F0 vs ss H Z) (vs.map some) ss H) (r : Rel K (F0 vs ss H Z) σ' ρ' H') :
    Rel K (F0 vs ss H Z) (vs.map some) (outS ss ρ') H' ∧ Same (hid H' (hs (F0 vs ss H Z) σ' ρ')) (hid H' (hs (F0 vs ss H Z) (vs.map some) (outS ss ρ'))) ∧ ∀ i, (gt (outS ss ρ') i).own = true → (gt ss i).own = true := by
  have own' : ∀ i, (gt (outS ss ρ') i).own = true → (gt ss i).own = true ∧ (gt ρ' i).own = true := fun i h => by
    rw [gt_outS] at h
    split at h
    · rename_i q; exact ⟨q, h⟩
    · rename_i q; exact absurd h q
  have same : ∀ i a, (gt ss i).own = true → (vs.map some)[i]? = some (some (.ref a)) → σ'[i]? = some (some (.ref a)) := fun i a h e => r.mi i a (.inl ⟨h, e⟩)
  have sub : ∀ a, owned (vs.map some) (outS ss ρ') a → owned σ' ρ' a ∧ owned (vs.map some) ss a := fun a ⟨i, hi, e⟩ => by
    obtain ⟨h1, h2⟩ := own' i hi
    exact ⟨⟨i, h2, same i a h1 e⟩, ⟨i, h1, e⟩⟩
  have v1 : Same (hid H' (hs (F0 vs ss H Z) σ' ρ')) (hid H' (hs (F0 vs ss H Z) (vs.map some) (outS ss ρ'))) := hid_same fun a o e n => ⟨e, fun z => n (z.imp id fun z => (sub a z).1)⟩
  have v2 : Same (hid H (hs (F0 vs ss H Z) (vs.map some) ss)) (hid H' (hs (F0 vs ss H Z) (vs.map some) (outS ss ρ'))) := hid_same fun a o e n => ⟨r.fr a o e fun z => n (.inr z), fun z => n (z.imp id fun z => (sub a z).2)⟩
  refine ⟨⟨by rw [outS_len, r0.len], r.fr, r.zl, fun a h => r.zo a (sub a h).1, fun i a hi e => .inl ⟨⟨(own' i hi).1, e⟩, i, (own' i hi).1, e⟩, r0.mi, r.ml, r.ma, fun i j a hi hj ei ej => r0.nd i j a (own' i hi).1 (own' j hj).1 ei ej, fun i => ?_⟩, v1, fun i h => (own' i h).1⟩
  rw [gt_outS]
  split
  · rename_i q
    obtain ⟨l, o, e1, e2⟩ := (r0.sl i).alive q
    have := same i l q e1
    rw [e1, ← this]
    exact (r.sl i).keep v1 fun _ _ _ _ e => e
  · rename_i q
    exact (r0.sl i).keep v2 fun l o ho => absurd ho q
theorem gt_app : ∀ (ρ : En) (n i : Nat), gt (ρ ++ List.replicate n .un) i = gt ρ i
  | [], n, i => by
    show gt (List.replicate n .un) i = .un
    induction n generalizing i with
    | zero => rfl
    | succ n ih => cases i with
      | zero => rfl
      | succ i => exact ih i
  | s :: ρ, n, 0 => rfl
  | s :: ρ, n, i + 1 => gt_app ρ n i
theorem Rel.ext (r : Rel K F σ ρ H) (n : Nat) : Rel K F (σ ++ List.replicate n none) (ρ ++ List.replicate n .un) H := by
  have s : ∀ {i a}, (gt ρ i).own = true → (σ ++ List.replicate n none)[i]? = some (some (V.ref a)) → σ[i]? = some (some (.ref a)) := fun {i a} h e => by
    rwa [List.getElem?_append_left (by rw [r.len]; exact own_lt h)] at e
  have sub : ∀ a, owned (σ ++ List.replicate n none) (ρ ++ List.replicate n .un) a → owned σ ρ a := fun a ⟨i, hi, e⟩ => by
    rw [gt_app] at hi
    exact ⟨i, hi, s hi e⟩
  have vis : Same (hid H (hs F σ ρ)) (hid H (hs F (σ ++ List.replicate n none) (ρ ++ List.replicate n .un))) := hid_same fun a o e n => ⟨e, fun z => n (z.imp id (sub a))⟩
  refine ⟨by simp [r.len], r.fr, r.zl, fun a h => r.zo a (sub a h), fun i a hi e => ?_, fun i a h => ?_, r.ml, r.ma, fun i j a hi hj ei ej => ?_, fun i => ?_⟩
  · rw [gt_app] at hi
    exact r.ow i a hi (s hi e)
  · have := r.mi i a h
    rw [List.getElem?_append_left (List.getElem?_eq_some_iff.mp this).1]; exact this
  · rw [gt_app] at hi hj
    exact r.nd i j a hi hj (s hi ei) (s hj ej)
  · rw [gt_app]
    have q := r.sl i
    rcases Nat.lt_or_ge i σ.length with lt | ge
    · rw [List.getElem?_append_left lt]
      exact q.keep vis fun _ _ _ _ e => e
    · rw [gt_out ρ i (by rw [← r.len]; exact ge)]; trivial
end
theorem DefN.aok {P : Program} {w : World} {K : PySem.W.Frag} {mg : Str → Option Value} {base : Heap} {x : Str} {st : Stmt} {N ps : List Str} {k : Nat} {a : AS} (D : DefN K mg x st ps) (Sc : FnScope N ps (defScope st)) (pr : Nat → Bool) (S : ASp)
    (hbody : ∀ (f : Addr) (cdv : Value) (A : Around) (outer : List Env) (s : Shared) (H : Hp) (E : XK), Room k (A.deeper (envOfC x (defScope st) s.heap.objs.size f cdv)) →
      ∃ t, PSs (cxOf CX0 P w K mg base N x (defScope st) f cdv A outer s H E).nox (defBody st) t ∧ TSok K pr t a)
    (hS : ∀ ss q, S ss q → ss.length = ps.length ∧ ownPr pr ss ∧ a ⟨fun ρ => q (.d .non) (outS ss ρ), fun r ρ => fin pr r ρ fun r' ρ' => q r' (outS ss ρ'), fun _ => False, fun _ => False⟩ (ss ++ List.replicate (N.length - ps.length) .un)) : OkN P w K mg base (k + 1) x ps (spA K S) := by
  have lenOk : ∀ vs H Q E, spA K S vs H Q E → vs.length = ps.length := fun vs H Q E h => by
    obtain ⟨ss, Z, q, r, hs', _⟩ := h
    have := r.len
    rw [List.length_map] at this
    rw [this]; exact (hS ss q hs').1
  refine D.ok Sc lenOk (fun f cdv A outer s H vs Q E hr h => ?_)
  have hl := lenOk _ _ _ _ h
  obtain ⟨ss, Z, q, r0, hs', post⟩ := h
  obtain ⟨h1, h2, h3⟩ := hS ss q hs'
  obtain ⟨t, ht, tok⟩ := hbody f cdv A outer s H E hr
  refine ⟨t, ht, ?_⟩
  have hp : ∀ i a, (F0 vs ss H Z).pin i a → pr i = true := fun i a h => by
    rcases h with h | h
    · exact h2 i h.1
    · exact h.elim
  unfold start
  rw [hl]
  have fin_d : ∀ σ' ρ' v H' d, q (.d d) (outS ss ρ') → Rel K (F0 vs ss H Z) σ' ρ' H' → RepD K (hid H' (hs (F0 vs ss H Z) σ' ρ')) v d → Q v H' := fun σ' ρ' v H' d hq r rd => by
    obtain ⟨o1, o2, o3⟩ := r0.out r
    exact post (.d d) _ v H' hq o3 (fun i z => nomatch z) ⟨o1, rd.same o2⟩
  refine tok (F0 vs ss H Z) _ _ H _ _ hp (r0.ext _) h3 ⟨fun σ' ρ' H' hq r => ?_, fun _ _ _ z => z.elim, fun _ _ _ z => z.elim, fun σ' ρ' rr v H' hq r => ?_⟩
  · exact fin_d σ' ρ' _ H' .non hq r (by unfold RepD; rfl)
  · cases rr with
    | d d => exact fin_d σ' ρ' v H' d hq r.1 r.2
    | t n => exact hq.elim
    | x s =>
      obtain ⟨ra, rb, rc⟩ := r
      obtain ⟨o1, o2, o3⟩ := r0.out ra
      exact post (.x s) _ v H' hq o3 (fun i z => nomatch z) ⟨o1, rb, rc.keep o2 fun l o ho => by rw [rb] at ho; cases ho⟩
    | n sv =>
      obtain ⟨Hb, l, o, a1, a2, a3, a4, a5, a6⟩ := r
      obtain ⟨o1, o2, o3⟩ := r0.out a1
      exact post (.n sv) _ v H' hq o3 (fun i z => nomatch z) ⟨Hb, l, o, o1, a2, a3.keep o2 fun _ _ _ _ e => e, a4, a5, a6⟩
    | o i =>
      obtain ⟨r, ei⟩ := r
      have hq' : (match gt ρ' i with
        | .ow ds => if pr i = true then q (.d (.lst ds)) (outS ss (pt ρ' i (.vl (.lst ds)))) else q (.n (.ow ds)) (outS ss (pt ρ' i .un))
        | .vl d => q (.d d) (outS ss ρ')
        | .dk kvs => if pr i = true then False else q (.n (.dk kvs)) (outS ss (pt ρ' i .un))
        | .dt kvs => if pr i = true then False else q (.n (.dt kvs)) (outS ss (pt ρ' i .un))
        | _ => False) := hq
      clear hq
      split at hq'
      · rename_i ds hg
        split at hq'
        · obtain ⟨l, el, r2, k2, rd⟩ := r.frz hg
          rw [ei] at el
          injection el with el; injection el with el; subst el
          exact fin_d σ' _ _ H' _ hq' r2 rd
        · rename_i hpr
          have ho : (gt ρ' i).own = true := by rw [hg]; rfl
          obtain ⟨l, o, hl', el, r2, sv⟩ := r.take ho fun a z => hpr (hp i a z)
          rw [ei] at el
          injection el with el; injection el with el; subst el
          obtain ⟨o1, o2, o3⟩ := r0.out r2
          rw [hg] at sv
          refine post (.n (.ow ds)) _ _ H' hq' o3 (fun i z => nomatch z) ⟨del H' l, l, o, o1, rfl, ?_, del_same, (del_upd hl').symm, rfl⟩
          rw [del_upd hl']
          exact sv.keep o2 fun _ _ _ _ e => e
      · rename_i d hg
        have s := r.sl i
        rw [hg, ei] at s
        obtain ⟨x, e1, rd⟩ := s
        injection e1 with e1; injection e1 with e1; subst e1
        exact fin_d σ' ρ' _ H' d hq' r rd
      · rename_i kvs hg
        split at hq'
        · exact hq'.elim
        · rename_i hpr
          have ho : (gt ρ' i).own = true := by rw [hg]; rfl
          obtain ⟨l, o, hl', el, r2, sv⟩ := r.take ho fun a z => hpr (hp i a z)
          rw [ei] at el
          injection el with el; injection el with el; subst el
          obtain ⟨o1, o2, o3⟩ := r0.out r2
          rw [hg] at sv
          refine post (.n (.dk kvs)) _ _ H' hq' o3 (fun i z => nomatch z) ⟨del H' l, l, o, o1, rfl, ?_, del_same, (del_upd hl').symm, rfl⟩
          rw [del_upd hl']
          exact sv.keep o2 fun _ _ _ _ e => e
      · rename_i kvs hg
        split at hq'
        · exact hq'.elim
        · rename_i hpr
          have ho : (gt ρ' i).own = true := by rw [hg]; rfl
          obtain ⟨l, o, hl', el, r2, sv⟩ := r.take ho fun a z => hpr (hp i a z)
          rw [ei] at el
          injection el with el; injection el with el; subst el
          obtain ⟨o1, o2, o3⟩ := r0.out r2
          rw [hg] at sv
          refine post (.n (.dt kvs)) _ _ H' hq' o3 (fun i z => nomatch z) ⟨del H' l, l, o, o1, rfl, ?_, del_same, (del_upd hl').symm, rfl⟩
          rw [del_upd hl']
          exact sv.keep o2 fun _ _ _ _ e => e
      · exact hq'.elim
def SLaw : ASp := fun ss q => ∃ ns : List Int, ns.length ≤ 63 ∧ ss = [.sc ns] ∧ ∀ ss', q (.d (.bl true)) ss'
theorem law_of {P : Program} {w : World} {K : PySem.W.Frag} {mg : Str → Option Value} {base : Heap} {k : Nat} {x : Str} {ps : List Str} (h : OkN P w K mg base k x ps (spA K SLaw)) : OkN P w K mg base k x ps (spLaw K) := by
  obtain ⟨f, fd, a1, a2, a3, a4, g⟩ := h.ex
  refine ⟨f, fd, a1, a2, a3, a4, g.imp fun vs H Q E hq => ?_⟩
  obtain ⟨a, ns, rfl, sq, hl, k⟩ := hq
  refine ⟨[.sc ns], fun _ => False, fun r _ => r = .d (.bl true), ⟨rfl, fun a o e _ => e, fun a z => z.elim, fun a _ z => z, fun i a hi _ => ?_, fun i a h => ?_, fun a h => ?_, fun a h => ?_, fun i j a hi => ?_, fun i => ?_⟩, ⟨ns, hl, rfl, fun _ => rfl⟩, fun r ss' v H' e1 _ _ rr => ?_⟩
  · exfalso; cases i with
    | zero => cases hi
    | succ i => cases hi
  · rcases h with h | h
    · cases i with
      | zero => cases h.1
      | succ i => cases h.1
    · exact h.elim
  · obtain ⟨i, hi, _⟩ := h
    cases i with
    | zero => cases hi
    | succ i => cases hi
  · obtain ⟨i, hi, _⟩ := h
    cases i with
    | zero => cases hi
    | succ i => cases hi
  · exfalso; cases i with
    | zero => cases hi
    | succ i => cases hi
  · cases i with
    | succ i => trivial
    | zero =>
      refine ⟨a, rfl, ?_⟩
      refine (show Same H (hid H _) from fun b o e => hid_of (fun z => ?_) e).seq sq
      rcases z with z | ⟨i, hi, _⟩
      · exact z
      · cases i with
        | zero => cases hi
        | succ i => cases hi
  · subst e1
    obtain ⟨_, rd⟩ := rr
    unfold RepD at rd
    subst rd
    exact k H'
end L2
set_option Elab.async false
set_option linter.all false
set_option maxRecDepth 100000
namespace L2
open PySem PySem.Spec PyProof.Rows
def spDrawX (K : PySem.W.Frag) : Sp := fun vs H Q _ => ∃ (t c : Addr) (m sp lf : Int) (ns : List Int) (n : Nat), vs = [.ref t, .int m] ∧ H t = some (.dK (tapeK c sp lf)) ∧ SqL K H c (ns.map V.int) ∧ 0 ≤ sp ∧ sp ≤ n ∧ 0 ≤ lf ∧ n < 1000000000000 ∧ Dv m ∧
  ∀ (r : Nat) (sp' lf' : Int), (r : Int) < m → 0 ≤ sp' → sp' ≤ (n + 1 : Nat) → 0 ≤ lf' → Q (.int (r : Nat)) (upd H t (.dK (tapeK c sp' lf')))
def spTapeX (K : PySem.W.Frag) : Sp := fun vs H Q _ => ∃ (a : Addr) (ns : List Int), vs = [.ref a] ∧ SqL K H a (ns.map V.int) ∧
  ∀ t c, H t = none → H c = none → t ≠ c → Q (.ref t) (upd (upd H c (.lst ((ns.take 63).map V.int))) t (.dK (tapeK c 0 0)))
def STape : ASp := fun ss q => ∃ ns : List Int, ss = [.sc ns] ∧ q (.n (.tp 0)) [.sc ns]
def SDraw : ASp := fun ss q => ∃ (n : Nat) (m : Int), ss = [.tp n, .vl (.int m)] ∧ n < 1000000000000 ∧ Dv m ∧ ∀ r : Nat, (r : Int) < m → q (.d (.int r)) [.tp (n + 1), .vl (.int m)]
theorem OkN.imp {P : Program} {w : World} {K : PySem.W.Frag} {mg : Str → Option Value} {base : Heap} {k : Nat} {x : Str} {ps : List Str} {sp sp' : Sp} (h : OkN P w K mg base k x ps sp) (i : ∀ vs H Q E, sp' vs H Q E → sp vs H Q E) : OkN P w K mg base k x ps sp' := by
  obtain ⟨f, fd, a1, a2, a3, a4, g⟩ := h.ex
  exact ⟨f, fd, a1, a2, a3, a4, g.imp i⟩
theorem avals1 {vs : List V} {s : Sv} {F : Fr} {K : PySem.W.Frag} {H : Hp} (r : Rel K F (vs.map some) [s] H) : ∃ x, vs = [x] := by
  have := r.len
  match vs, this with
  | [x], _ => exact ⟨x, rfl⟩
theorem avals2 {vs : List V} {s s' : Sv} {F : Fr} {K : PySem.W.Frag} {H : Hp} (r : Rel K F (vs.map some) [s, s'] H) : ∃ x y, vs = [x, y] := by
  have := r.len
  match vs, this with
  | [x, y], _ => exact ⟨x, y, rfl⟩
theorem draw_of {K : PySem.W.Frag} (vs : List V) (H : Hp) (Q : VK) (E : XK) (h : spA K SDraw vs H Q E) : spDrawX K vs H Q E := by
  obtain ⟨ss, Z, q, r, ⟨n, m, rfl, hn, hm, hq⟩, post⟩ := h
  obtain ⟨x, y, rfl⟩ := avals2 r
  obtain ⟨t, c, ns, sp, lf, e0, ht, hc, h1, h2, h3⟩ := r.sl 0
  obtain ⟨y', e1, ry⟩ := r.sl 1
  unfold RepD at ry
  injection e0 with e0; injection e0 with e0; subst e0
  injection e1 with e1; injection e1 with e1
  subst e1 ry
  refine ⟨t, c, m, sp, lf, ns, n, rfl, ht, hid_sub.seq hc, h1, h2, h3, hn, hm, fun rr sp' lf' hr a1 a2 a3 => ?_⟩
  have hw := r.write (i := 0) (l := t) (o := .dK (tapeK c sp' lf')) (s := .tp (n + 1)) rfl rfl rfl ⟨t, c, ns, sp', lf', rfl, upd_same, hc, a1, a2, a3⟩
  refine post (.d (.int rr)) [.tp (n + 1), .vl (.int m)] _ _ (hq rr hr) (fun i h => ?_) (fun i z => nomatch z) ⟨hw.1, by unfold RepD; rfl⟩
  match i, h with
  | 0, _ => rfl
  | 1, h => cases h
  | i + 2, h => cases h
theorem tape_of {K : PySem.W.Frag} (vs : List V) (H : Hp) (Q : VK) (E : XK) (h : spA K STape vs H Q E) : spTapeX K vs H Q E := by
  obtain ⟨ss, Z, q, r, ⟨ns, rfl, hq⟩, post⟩ := h
  obtain ⟨x, rfl⟩ := avals1 r
  obtain ⟨a, e0, sq⟩ := r.sl 0
  injection e0 with e0; injection e0 with e0; subst e0
  refine ⟨a, ns, rfl, hid_sub.seq sq, fun t c ht hc htc => ?_⟩
  have rc := r.fresh (o := .lst ((ns.take 63).map V.int)) hc
  have kc : Kp ([V.ref a].map some) [.sc ns] [.sc ns] H (upd H c (.lst ((ns.take 63).map V.int))) := Kp.fresh hc
  have ht' : (upd H c (.lst ((ns.take 63).map V.int))) t = none := by rw [upd_ne htc]; exact ht
  refine post (.n (.tp 0)) _ _ _ hq (fun i h => h) (fun i z => nomatch z) ⟨_, t, _, rc, rfl, ⟨t, c, ns.take 63, 0, 0, rfl, upd_same, SqL.of (hid_of (fresh_vis r hc) upd_same), by decide, by decide, by decide⟩, ht', rfl, rfl⟩
section
variable {K : PySem.W.Frag} {F : Fr} {σ : St} {ρ ρ' : En} {H H' : Hp} {ta tb tc : TE} {a b c : AE} {rr rr' : R2} {g g' : R → R → AE}
end
theorem forA_inv {c : En → Prop} {g : AG} {b : AS} {e : AEnds} (I : Nat → En → Prop) {ds : List D} (hc : ∀ k ρ, k ≤ ds.length → I k ρ → c ρ)
    (hs : ∀ (k : Nat) d ρ (N : En → Prop), ds[k]? = some d → I k ρ → (∀ ρ', I (k + 1) ρ' → N ρ') → g d ρ fun ρ1 => b { nx := N, ct := N, bk := e.nx, rt := e.rt } ρ1) (hd : ∀ ρ, I ds.length ρ → e.nx ρ) : ∀ ρ, I 0 ρ → forA c g b e ds ρ := by
  have go : ∀ (es : List D) (k : Nat), ds.drop k = es → k ≤ ds.length → ∀ ρ, I k ρ → forA c g b e es ρ := by
    intro es
    induction es with
    | nil =>
      intro k h hk ρ i
      have : ds.length ≤ k := List.drop_eq_nil_iff.mp h
      have : k = ds.length := by omega
      subst this
      unfold forA
      exact ⟨hc _ ρ (Nat.le_refl _) i, hd ρ i⟩
    | cons d es ih =>
      intro k h hk ρ i
      have lt : k < ds.length := by
        rcases Nat.lt_or_ge k ds.length with q | q
        · exact q
        · rw [List.drop_eq_nil_of_le q] at h; cases h
      rw [List.drop_eq_getElem_cons lt] at h
      injection h with h1 h2
      unfold forA
      exact ⟨hc k ρ hk i, hs k d ρ _ (by rw [← h1]; exact List.getElem?_eq_getElem lt) i (fun ρ' i' => ih (k + 1) h2 lt ρ' i')⟩
  exact go ds 0 rfl (Nat.zero_le _)
theorem compA_inv {n : Nat} {js : List Nat} {c : En → Prop} {g : AG} {tc : AT} {te : AE} {q : List D → En → Prop} (I : Nat → List D → En → Prop) {ds : List D} (hc : ∀ k acc ρ, k ≤ ds.length → I k acc ρ → c ρ)
    (hs : ∀ (k : Nat) d acc ρ (N : List D → En → Prop), ds[k]? = some d → I k acc ρ → (∀ acc' ρ', I (k + 1) acc' ρ' → N acc' ρ') →
      g d (blkE n js ρ) fun ρ1 => tc ρ1 fun b ρ2 => if b = true then te ρ2 fun r ρ3 => sto [r.frz] ρ3 fun es ρ4 => N (acc ++ es) (back ρ (js.map R.o) (ρ4.drop n)) else N acc (back ρ (js.map R.o) (ρ2.drop n)))
    (hd : ∀ acc ρ, I ds.length acc ρ → q acc ρ) : ∀ ρ, I 0 [] ρ → compA n js c g tc te q ds [] ρ := by
  have go : ∀ (es : List D) (k : Nat), ds.drop k = es → k ≤ ds.length → ∀ acc ρ, I k acc ρ → compA n js c g tc te q es acc ρ := by
    intro es
    induction es with
    | nil =>
      intro k h hk acc ρ i
      have : ds.length ≤ k := List.drop_eq_nil_iff.mp h
      have : k = ds.length := by omega
      subst this
      unfold compA
      exact ⟨hc _ acc ρ (Nat.le_refl _) i, hd acc ρ i⟩
    | cons d es ih =>
      intro k h hk acc ρ i
      have lt : k < ds.length := by
        rcases Nat.lt_or_ge k ds.length with q | q
        · exact q
        · rw [List.drop_eq_nil_of_le q] at h; cases h
      rw [List.drop_eq_getElem_cons lt] at h
      injection h with h1 h2
      unfold compA
      exact ⟨hc k acc ρ hk i, hs k d acc ρ (fun acc' ρ' => compA n js c g tc te q es acc' ρ') (by rw [← h1]; exact List.getElem?_eq_getElem lt) i (fun acc' ρ' i' => ih (k + 1) h2 lt acc' ρ' i')⟩
  exact go ds 0 rfl (Nat.zero_le _) []
end L2
set_option Elab.async false
set_option linter.all false
set_option maxRecDepth 100000
namespace L2
open PySem PySem.Spec PyProof.Rows
section
variable {es : List Expr} {env : Env}
theorem st_Call {a b c d} : starEach (.Call a b c d :: es) env = (false, eval (.Call a b c d) env) :: starEach es env := rfl
end
def NS (e : Expr) : Prop := ∀ (es : List Expr) (env : Env), starEach (e :: es) env = (false, eval e env) :: starEach es env
theorem ns_Call {a b c d} : NS (.Call a b c d) := fun _ _ => st_Call
end L2
set_option Elab.async false
set_option linter.all false
set_option maxRecDepth 100000
namespace L2
open PySem PySem.Spec PyProof.Rows
section
variable {X : Cx} (K : PySem.W.Frag)
def rCatL (K : PySem.W.Frag) : R2 := fun x y H Q => ∃ a b xs ys, x = .ref a ∧ y = .ref b ∧ SqL K H a xs ∧ SqL K H b ys ∧ xs.length + ys.length ≤ 1000000 ∧ ∀ p, H p = none → Q (.ref p) (upd H p (.lst (xs ++ ys)))
theorem op_catL (hK : X.K = K := by rfl) : OpR X (binaryOp .Add) (rCatL K) := by
  subst hK
  intro pins s σ H x y v u Q I rx ry h
  obtain ⟨a, b, xs, ys, rfl, rfl, ha, hb, hz, q⟩ := h
  cases rx
  cases ry
  obtain ⟨its, r1, p1, _⟩ := I.list ha
  obtain ⟨its2, r2, p2, _⟩ := I.list hb
  have hz' : its.length + its2.length ≤ sizeLine := small (by rw [← r1.length, ← r2.length]; exact hz)
  obtain ⟨⟨cls, dd, data, sl⟩, ho, hc, n, hd⟩ := p1.isList
  obtain ⟨⟨cls2, dd2, data2, sl2⟩, ho2, hc2, n2, hd2⟩ := p2.isList
  simp only at hc hd hc2 hd2
  subst hc hd hc2 hd2
  refine concat_meets ⟨_, ho, rfl⟩ ⟨_, ho2, rfl⟩ noFill_list_add seq_list_add PySem.F.slot_list_add PySem.F.entry_list_add (PySem.F.args_list_add_2 _ _) (list_addW a b its.toArray its2.toArray n n2 dd dd2 sl sl2 (by rw [List.size_toArray, List.size_toArray]; exact hz')) ⟨ho, ho2, ?_⟩
  refine ⟨.ref s.heap.objs.size, _, I.laid (t' := s.toks) (o := .lst (xs ++ ys)) (fun b ob q => Heap.get?_push_of_some _ q) (Nat.le_refl _) ?_, rfl, q _ (I.hok.fresh (Nat.le_refl _))⟩
  refine ⟨by rw [List.length_append]; exact small hz, _, 0, r1.append r2, ?_⟩
  rw [show (its ++ its2).toArray = its.toArray ++ its2.toArray by simp]
  exact Heap.get?_push_size _ rfl
variable {e st : Expr} {te : TE} {ts : TO} {pos p2 : Pos}
end
section
variable {K : PySem.W.Frag} {ta te : TE} {a ae : AE} {ts : TA} {as : AA}
def gCat : R → R → AE := fun r1 r2 ρ q => match view ρ r1, view ρ r2 with
  | some (.lst ds), some (.lst es) => ds.length + es.length ≤ 1000000 ∧ q (.f (ds ++ es)) ρ
  | _, _ => False
theorem ook_cat : OpOk K (rCatL K) gCat := by
  intro F σ ρ H x y r1 r2 q Q a h1 h2 h b
  unfold gCat at h
  split at h
  · rename_i ds es e1 e2
    obtain ⟨l, vs, rfl, sq, rd⟩ := view_lst a h1 e1
    obtain ⟨l2, vs2, rfl, sq2, rd2⟩ := view_lst a h2 e2
    exact ⟨l, l2, vs, vs2, rfl, rfl, sq, sq2, by rw [rd.length, rd2.length]; exact h.1, fun p hp => b.new a h.2 (rd.append rd2) hp⟩
  · exact h.elim
end
end L2
set_option Elab.async false
set_option linter.all false
set_option maxRecDepth 100000
namespace L2
open PySem PySem.Spec PyProof.Rows
abbrev nD (n : Nat) : D := .int (n : Nat)
def ownB (pr : Nat → Bool) : En → Nat → Bool
  | [], _ => true
  | s :: ss, i => (!s.own || pr i) && ownB pr ss (i + 1)
theorem ownB_ok {pr : Nat → Bool} : ∀ {ss : En} {j : Nat}, ownB pr ss j = true → ∀ i, (gt ss i).own = true → pr (j + i) = true
  | [], _, _, i, h => by cases h
  | s :: ss, j, hb, 0, h => by
    simp only [ownB, Bool.and_eq_true, Bool.or_eq_true, Bool.not_eq_true'] at hb
    rcases hb.1 with q | q
    · rw [show (gt (s :: ss) 0) = s from rfl, q] at h; cases h
    · exact q
  | s :: ss, j, hb, i + 1, h => by
    simp only [ownB, Bool.and_eq_true] at hb
    have := ownB_ok hb.2 i h
    rwa [show j + 1 + i = j + (i + 1) by omega] at this
theorem DefN.aok2 {P : Program} {w : World} {K : PySem.W.Frag} {mg : Str → Option Value} {base : Heap} {x : Str} {st : Stmt} {N ps : List Str} {k : Nat} {a : AS} (D : DefN K mg x st ps) (Sc : FnScope N ps (defScope st)) (pr : Nat → Bool) (us : En) (S : ASp) (hus : List.replicate (N.length - ps.length) Sv.un = us)
    (hbody : ∀ (f : Addr) (cdv : Value) (A : Around) (outer : List Env) (s : Shared) (H : Hp) (E : XK), Room k (A.deeper (envOfC x (defScope st) s.heap.objs.size f cdv)) →
      ∃ t, PSs (cxOf CX0 P w K mg base N x (defScope st) f cdv A outer s H E).nox (defBody st) t ∧ TSok K pr t a)
    (hS : ∀ ss q, S ss q → ss.length = ps.length ∧ ownB pr ss 0 = true ∧ a ⟨fun ρ => q (.d .non) (outS ss ρ), fun r ρ => fin pr r ρ fun r' ρ' => q r' (outS ss ρ'), fun _ => False, fun _ => False⟩ (ss ++ us)) : OkN P w K mg base (k + 1) x ps (spA K S) :=
  D.aok Sc pr S hbody fun ss q h => ⟨(hS ss q h).1, fun i hi => by have := ownB_ok (hS ss q h).2.1 i hi; rwa [Nat.zero_add] at this, by rw [hus]; exact (hS ss q h).2.2⟩
theorem rngD_get {lo : Int} {n k : Nat} {d : D} (h : (rngD lo n)[k]? = some d) : k < n ∧ d = .int (lo + k) := by
  unfold rngD at h
  rw [List.getElem?_map] at h
  obtain ⟨j, e1, e2⟩ := Option.map_eq_some_iff.mp h
  have lt : k < n := by
    rcases Nat.lt_or_ge k n with q | q
    · exact q
    · rw [List.getElem?_eq_none (by simpa using q)] at e1; cases e1
  rw [List.getElem?_range lt] at e1
  cases e1
  exact ⟨lt, e2.symm⟩
abbrev turnA (n : Nat) (js : List Nat) (g : AG) (tc : AT) (te : AE) (ρ : En) (d : D) (acc : List D) (N : List D → En → Prop) : Prop :=
  g d (blkE n js ρ) fun ρ1 => tc ρ1 fun b ρ2 => if b = true then te ρ2 fun r ρ3 => sto [r.frz] ρ3 fun es ρ4 => N (acc ++ es) (back ρ (js.map R.o) (ρ4.drop n)) else N acc (back ρ (js.map R.o) (ρ2.drop n))
section
variable {n : Nat} {js : List Nat} {c : En → Prop} {g : AG} {tc : AT} {te : AE} {q : List D → En → Prop}
theorem compA_rng {lo : Int} {m : Nat} (f : Nat → D) {ρ : En} (hc : c ρ) (hs : ∀ k acc (N : List D → En → Prop), k < m → N (acc ++ [f k]) ρ → turnA n js g tc te ρ (.int (lo + k)) acc N)
    (hd : q ((List.range m).map f) ρ) : compA n js c g tc te q (rngD lo m) [] ρ := by
  refine compA_inv (fun k acc ρ' => k ≤ m ∧ ρ' = ρ ∧ acc = (List.range k).map f) (fun k acc ρ' _ h => h.2.1 ▸ hc) ?_ ?_ ρ ⟨Nat.zero_le _, rfl, rfl⟩
  · rintro k d acc _ N hk ⟨_, rfl, rfl⟩ hN
    obtain ⟨lt, rfl⟩ := rngD_get hk
    refine hs k _ N lt (hN _ _ ⟨lt, rfl, ?_⟩)
    rw [List.range_succ, List.map_append]; rfl
  · rintro acc _ ⟨_, rfl, rfl⟩
    rw [rngD_len]; exact hd
end
section
variable {c : En → Prop} {g : AG} {b : AS} {e : AEnds}
theorem forA_rng {lo : Int} {m : Nat} (I : Nat → En → Prop) (hc : ∀ k ρ, I k ρ → c ρ) (hs : ∀ (k : Nat) ρ (N : En → Prop), k < m → I k ρ → (∀ ρ', I (k + 1) ρ' → N ρ') → g (.int (lo + k)) ρ fun ρ1 => b { nx := N, ct := N, bk := e.nx, rt := e.rt } ρ1)
    (hd : ∀ ρ, I m ρ → e.nx ρ) {ρ : En} (h0 : I 0 ρ) : forA c g b e (rngD lo m) ρ := by
  refine forA_inv I (fun k ρ _ h => hc k ρ h) (fun k d ρ N hk h hN => ?_) (fun ρ h => hd ρ (by rwa [rngD_len] at h)) ρ h0
  obtain ⟨lt, rfl⟩ := rngD_get hk
  exact hs k ρ N lt h hN
end
theorem gEq_ok {neg : Bool} {r1 r2 : R} {ρ : En} {q : Ko} {d e : D} {b : Bool} (h1 : view ρ r1 = some d) (h2 : view ρ r2 = some e) (hd : d.depth ≤ 60) (hb : eqD d e = b) (hq : q (.d (.bl (if neg then !b else b))) ρ) : gEq neg r1 r2 ρ q := by
  unfold gEq
  rw [h1, h2]
  subst hb
  exact ⟨hd, hq⟩
def isL : D → Bool
  | .lst _ => true
  | _ => false
theorem cutS {A B : AS} {e : AEnds} {ρ : En} (P : En → Prop) (h1 : ∀ N : En → Prop, (∀ ρ', P ρ' → N ρ') → A { e with nx := N } ρ) (h2 : ∀ ρ', P ρ' → B e ρ') : aSeq A B e ρ := h1 (B e) h2
theorem natsD_snoc (xs : List Nat) (x : Nat) : natsD (xs ++ [x]) = natsD xs ++ [nD x] := by unfold natsD; rw [List.map_append]; rfl
end L2
set_option Elab.async false
set_option linter.all false
set_option maxRecDepth 100000
namespace L2
open PySem PySem.Spec PyProof.Rows
theorem DefN.no {P : Program} {w : World} {K : PySem.W.Frag} {mg : Str → Option Value} {base : Heap} {x : Str} {st : Stmt} {N ps : List Str} (D : DefN K mg x st ps) (Sc : FnScope N ps (defScope st)) (k : Nat) : OkN P w K mg base (k + 1) x ps (spA K fun _ _ => False) :=
  D.ok Sc (fun vs H Q E h => by obtain ⟨_, _, _, _, h, _⟩ := h; exact h.elim) fun f cdv A outer s H vs Q E _ h => by obtain ⟨_, _, _, _, h, _⟩ := h; exact h.elim
end L2
set_option Elab.async false
set_option linter.all false
set_option maxRecDepth 100000
namespace L2
open PySem PySem.Spec PyProof.Rows
end L2
set_option Elab.async false
set_option linter.all false
set_option maxRecDepth 100000
namespace L2
open PySem PySem.Spec PyProof.Rows
section
variable {X : Cx} (K : PySem.W.Frag)
def rRepL (K : PySem.W.Frag) : R2 := fun x y H Q => ∃ a xs, ∃ n : Nat, x = .ref a ∧ y = .int (n : Nat) ∧ SqL K H a xs ∧ n ≤ 1000 ∧ xs.length ≤ 1000 ∧ ∀ p, H p = none → Q (.ref p) (upd H p (.lst (List.replicate n xs).flatten))
theorem fold_rep (l : List Value) : ∀ (n : Nat) (acc : Array Value), List.foldl (fun x y => x ++ y) acc (List.replicate n l.toArray) = acc ++ ((List.replicate n l).flatten).toArray
  | 0, acc => by simp
  | n + 1, acc => by
    rw [List.replicate_succ, List.foldl_cons, fold_rep l n, List.replicate_succ, List.flatten_cons]
    simp
theorem vals_rep {xs : List V} {us : List Value} (h : Vals xs us) : ∀ n, Vals (List.replicate n xs).flatten (List.replicate n us).flatten
  | 0 => .nil
  | n + 1 => by rw [List.replicate_succ, List.replicate_succ, List.flatten_cons, List.flatten_cons]; exact h.append (vals_rep h n)
theorem wp_rep {M : Program} {w : World} {A : Around} {E : Value → Shared → Prop} {s : Shared} {a : Addr} {its : List Value} {m n : Nat} {t : Tok} {dd : Option Addr} {sl : Array (Option Value)} {Q : Value → Shared → Prop}
    (ho : s.heap.get? a = some { cls := .type "list", dict := dd, data := .seq its.toArray m, slots := sl }) (hm : its.length * n ≤ 1000000) (hn : n ≤ 1000)
    (hQ : Q (.ref s.heap.objs.size) { s with heap := s.heap.push { cls := .type "list", data := .seq ((List.replicate n its).flatten).toArray } }) : wpAny (model M w) A (binaryOp .Mult (.ref a) (.int (n : Nat) t)) Q E s := by
  have hm' : its.toArray.size * (n : Int).toNat ≤ 1000 * 1000 := by
    rw [List.size_toArray, Int.toNat_natCast]; exact hm
  have hf1 : ¬ (!Builtin.List.listFitsIndex (n : Int)) = true := by
    unfold Builtin.List.listFitsIndex
    simp only [Bool.not_eq_true', Bool.not_eq_false, Bool.and_eq_true, decide_eq_true_eq]
    omega
  have hf3 : ¬ its.toArray.size * (n : Int).toNat > (2 ^ 63 - 1) / 8 := by
    have e : (2 ^ 63 - 1) / 8 = 1152921504606846975 := by decide
    rw [e]; omega
  have hf2 : ¬ Builtin.List.listTooLong (its.toArray.size * (n : Int).toNat) = true := by
    generalize its.toArray.size * (n : Int).toNat = z at hm'
    unfold Builtin.List.listTooLong sizeLine
    simp only [decide_eq_true_eq]
    omega
  have ho' : s.TypeIs (.ref a) "list" := ⟨_, ho, rfl⟩
  refine wpAny_binaryOp_repeat_ref (T := "list") (U := "int") (by decide) ho' (fun s' => typeIs_int s' n t) noFill_list_mul F.fills_int_mul F.slot_int_rmul repeat_list F.slot_int_index.lookup ?_
  refine call_meets F.slot_int_rmul (typeIs_int s n t) F.entry_int_rmul (F.args_int_rmul_2 _ _) (lm_int_rmul_list_any n t a its.toArray m dd sl) ⟨ho, rfl, ho', ?_⟩
  have hM0 := @lm_list_mul_any a its.toArray m dd sl (n : Int) t
  have e : List.foldl (fun x1 x2 => x1 ++ x2) #[] (List.replicate (if its.toArray.isEmpty = true then 0 else (n : Int).toNat) its.toArray) = ((List.replicate n its).flatten).toArray := by
    rw [fold_rep]
    cases its with
    | nil => simp
    | cons c r => simp
  generalize (n : Int) = k at *
  have hM := hM0 hf1 hf3 hf2
  refine call_meets F.slot_list_mul ho' F.entry_list_mul (F.args_list_mul_2 _ _) hM ⟨ho, ?_⟩
  rw [e]
  exact hQ
theorem op_repL (hK : X.K = K := by rfl) : OpR X (binaryOp .Mult) (rRepL K) := by
  subst hK
  intro pins s σ H x y v u Q I rx ry h
  obtain ⟨a, xs, n, rfl, rfl, ha, hn, hx, q⟩ := h
  cases rx
  obtain ⟨t, rfl⟩ := ry
  obtain ⟨its, r1, p1, _⟩ := I.list ha
  obtain ⟨⟨cls, dd, data, sl⟩, ho, hc, m, hd⟩ := p1.isList
  simp only at hc hd
  subst hc hd
  have hl : its.length = xs.length := r1.length.symm
  refine wp_rep ho (by rw [hl]; exact Nat.mul_le_mul hx hn) hn ?_
  refine ⟨.ref s.heap.objs.size, _, I.laid (t' := s.toks) (o := .lst (List.replicate n xs).flatten) (fun b ob q => Heap.get?_push_of_some _ q) (Nat.le_refl _) ?_, rfl, q _ (I.hok.fresh (Nat.le_refl _))⟩
  refine ⟨?_, (List.replicate n its).flatten, 0, vals_rep r1 n, Heap.get?_push_size _ rfl⟩
  refine small ?_
  have := Nat.mul_le_mul hn hx
  simp only [List.length_flatten, List.map_replicate, List.sum_replicate_nat]
  exact this
end
section
variable {prog : Program} {w : World} {A : Around} {it : Addr} {own wr : List Addr} {len : Nat} {Pv : Nat → Value → Prop} {Sx : Nat → Heap → Prop} {Rz : Result → Shared → Prop}
end
section
variable {X : Cx} (K : PySem.W.Frag)
end
section
variable {K : PySem.W.Frag} {te : TE} {ae : AE} {ts : TA} {as : AA}
def gRep : R → R → AE := fun r1 r2 ρ q => match view ρ r1, r2 with
  | some (.lst ds), .d (.int n) => (0 ≤ n ∧ n ≤ 1000 ∧ ds.length ≤ 1000) ∧ q (.f (List.replicate n.toNat ds).flatten) ρ
  | _, _ => False
theorem RepDs.reps {H : Hp} {vs : List V} {ds : List D} (h : RepDs K H vs ds) : ∀ n, RepDs K H (List.replicate n vs).flatten (List.replicate n ds).flatten
  | 0 => .nil
  | n + 1 => by rw [List.replicate_succ, List.replicate_succ, List.flatten_cons, List.flatten_cons]; exact h.append (RepDs.reps h n)
theorem ook_rep : OpOk K (rRepL K) gRep := by
  intro F σ ρ H x y r1 r2 q Q a h1 h2 h b
  unfold gRep at h
  split at h
  · rename_i ds n e1
    obtain ⟨⟨c1, c2, c3⟩, h⟩ := h
    obtain ⟨l, vs, rfl, sq, rd⟩ := view_lst a h1 e1
    obtain ⟨m, rfl⟩ := Int.eq_ofNat_of_zero_le c1
    exact ⟨l, vs, m, rfl, h2.int, sq, by omega, by rw [rd.length]; exact c3, fun p hp => b.new a h (rd.reps _) hp⟩
  · exact h.elim
end
end L2
set_option Elab.async false
set_option linter.all false
set_option maxRecDepth 100000
namespace L2
open PySem PySem.Spec PyProof.Rows
section
variable {X : Cx} {st : Stmt} {rest : List Stmt} {t u : TS}
end
structure PAz (X : Cx) (es : List Expr) (t : TA) : Prop where
  h : PA X es t
section
variable {X : Cx} {e : Expr} {es : List Expr} {te : TE} {t : TA} {pos : Pos}
theorem za_nil : PAz X [] tNil := ⟨pa_nil⟩
theorem za_cons (n : NS e) (ha : PE X e te) (hr : PAz X es t) : PAz X (e :: es) (tCons te t) := ⟨pa_cons ha hr.h (n es X.env)⟩
theorem pz_lst (h : PAz X es t) : PE X (.List es pos) (tLst t) := pe_lst h.h
end
section
variable {X : Cx} {st : Stmt} {rest : List Stmt} {t u : TS} {i : Nat} {x : Str} {e : Expr} {es : List Expr} {te : TE} {ta : TA} {pos pos' : Pos}
end
end L2
set_option Elab.async false
set_option linter.all false
set_option maxRecDepth 100000
namespace HT
open PySem PySem.Spec PyProof.Rows
end HT
namespace L2
open PySem PySem.Spec PyProof.Rows
section
variable {X : Cx} (K : PySem.W.Frag)
end
section
variable {K : PySem.W.Frag} {ta : TE} {a : AE}
end
end L2
set_option Elab.async false
set_option linter.all false
set_option maxRecDepth 100000
namespace L2
open PySem PySem.Spec PyProof.Rows
section
variable {prog : Program} {w : World} {K0 : Type} [DecidableEq K0] {knd : KeyKind prog w K0} {A : Around} {E : Value → Shared → Prop} {s : Shared}
end
section
variable {X : Cx} {pins : List (Addr × Obj)} {σ : St} {H : Hp} {s : Shared} {A : Around} {E : Value → Shared → Prop}
end
section
variable {κ : Type} [DecidableEq κ]
variable {K : PySem.W.Frag} {H : Hp}
end
section
variable {K : PySem.W.Frag} {F : Fr} {σ : St} {ρ ρ' : En} {H H' : Hp} {td ty tx : TE} {ad ay ax : AE}
end
end L2
set_option Elab.async false
set_option linter.all false
set_option maxRecDepth 100000
namespace L2
open PySem PySem.Spec PyProof.Rows
section
variable {X : Cx} {pins : List (Addr × Obj)} {σ : St} {H : Hp} {s : Shared} {h' : Heap}
end
section
variable {K : PySem.W.Frag} {ts : TA} {as : AA}
end
end L2
set_option Elab.async false
set_option linter.all false
set_option maxRecDepth 100000
namespace L2
open PySem PySem.Spec PyProof.Rows
section
variable {prog : Program} {w : World} {A : Around} {E : Value → Shared → Prop} {s : Shared}
end
section
variable {X : Cx}
end
section
variable {K : PySem.W.Frag} {ts : TA} {as : AA}
end
end L2
set_option Elab.async false
set_option linter.all false
set_option maxRecDepth 100000
namespace L2
open PySem PySem.Spec PyProof.Rows
section
variable {X : Cx} (K : PySem.W.Frag)
def tFmt (te : TE) : TE := fun σ H Q => te σ H fun x H1 => ∃ i, x = .int i ∧ i.natAbs.log2 < 1920 ∧ Q (.str (toString i)) H1
theorem pe_fmt {e : Expr} {te : TE} {pos : Pos} (he : PE X e te) : PE X (.FormattedValue e (-1) none pos) (tFmt te) := by
  intro pins s σ H Q I h
  refine FormattedValue_plain (thn (he pins s σ H _ I h) fun v s1 ⟨x, H1, I1, r1, q1⟩ => ?_)
  obtain ⟨i, rfl, hz, q⟩ := q1
  obtain ⟨t, rfl⟩ := r1
  exact formatField_int_small hz ⟨.str _, H1, I1.tok _, ⟨_, rfl⟩, q⟩
abbrev TJ := Str → TE
def PJ (X : Cx) (es : List Expr) (t : TJ) : Prop := ∀ (out : Str) (pins : List (Addr × Obj)) (s : Shared) (σ : St) (H : Hp) (Q : VK), Inv X pins σ H s → t out σ H Q → wpAny (model X.prog X.w) X.A (joinParts out (evalEach es X.env)) (EP X pins σ Q) X.xe s
def jNil : TJ := fun out _ H Q => out.length ≤ sizeLine ∧ Q (.str out) H
def jCons (te : TE) (t : TJ) : TJ := fun out σ H Q => te σ H fun x H1 => ∃ y, x = .str y ∧ (out ++ y).length ≤ sizeLine ∧ t (out ++ y) σ H1 Q
theorem pj_nil : PJ X [] jNil := fun out pins s σ H Q I h => joinParts_nil ⟨.str out, H, I.tok _, ⟨_, rfl⟩, h.2⟩ h.1
theorem pj_cons {e : Expr} {es : List Expr} {te : TE} {t : TJ} (he : PE X e te) (hr : PJ X es t) (hs : evalEach (e :: es) X.env = eval e X.env :: evalEach es X.env := by rfl) : PJ X (e :: es) (jCons te t) := by
  intro out pins s σ H Q I h
  rw [hs]
  refine joinParts_cons (thn (he pins s σ H _ I h) fun v s1 ⟨x, H1, I1, r1, y, e1, hz, q⟩ => ?_)
  subst e1
  obtain ⟨t', rfl⟩ := r1
  exact ⟨hz, hr _ pins s1 σ H1 Q I1 q⟩
theorem pe_joined {v1 v2 : Expr} {rest : List Expr} {pos : Pos} {t : TJ} (h : PJ X (v1 :: v2 :: rest) t) (hs : evalEach (v1 :: v2 :: rest) X.env = eval v1 X.env :: eval v2 X.env :: evalEach rest X.env := by rfl) : PE X (.JoinedStr (v1 :: v2 :: rest) pos) (t Str.empty) := by
  intro pins s σ H Q I hq
  refine JoinedStr_many ?_
  rw [← hs]
  exact h Str.empty pins s σ H Q I hq
def rJoin (K : PySem.W.Frag) : V → List V → Hp → VK → Prop := fun x vs H Q => ∃ sep p ys, x = .str sep ∧ vs = [.ref p] ∧ SqL K H p (ys.map V.str) ∧ (ys.map (·.length)).sum + ys.length * sep.length ≤ 16777216 ∧ Q (.str (Txt.join sep ys)) H
theorem strs_of : ∀ {ys : List Str} {us : List Value}, Vals (ys.map V.str) us → StrsAre us ys
  | [], _, .nil => .nil
  | y :: ys, _, .cons ⟨t, e⟩ r => by subst e; exact .cons y t (strs_of r)
theorem mt_join (hK : X.K = K := by rfl) : MtR X "str.join" (rJoin K) := by
  subst hK
  intro pins s σ H x vs v us Q I rx rv h
  obtain ⟨sep, p, ys, rfl, rfl, hq, hz, q⟩ := h
  obtain ⟨t, rfl⟩ := rx
  obtain ⟨u, rfl, ru⟩ := rv.one
  cases ru
  obtain ⟨its, r, pl, _⟩ := I.list hq
  exact join_list pl.isList (by simpa using strs_of r) hz fun t' k => ⟨.str _, H, I.tok _, ⟨_, rfl⟩, q⟩
end
section
variable {K : PySem.W.Frag} {ta te : TE} {a ae : AE} {ts : TA} {as : AA}
theorem InF.strv {F : Fr} {σ : St} {ρ : En} {H : Hp} {v : V} {x : Str} (h : InF K F σ ρ H v (.d (.str x))) : v = .str x := by
  unfold InF RepD at h; exact h
def strsOf : List D → Option (List Str)
  | [] => some []
  | .str x :: ds => (strsOf ds).map (x :: ·)
  | _ => none
theorem strsOf_eq : ∀ {ds : List D} {ns : List Str}, strsOf ds = some ns → ds = ns.map D.str
  | [], ns, h => by simp [strsOf] at h; subst h; rfl
  | .str i :: ds, ns, h => by
    simp only [strsOf, Option.map_eq_some_iff] at h
    obtain ⟨ms, e, rfl⟩ := h
    rw [strsOf_eq e]; rfl
  | .non :: ds, ns, h => by simp [strsOf] at h
  | .bl _ :: ds, ns, h => by simp [strsOf] at h
  | .int _ :: ds, ns, h => by simp [strsOf] at h
  | .tup _ :: ds, ns, h => by simp [strsOf] at h
  | .lst _ :: ds, ns, h => by simp [strsOf] at h
theorem strsOf_map (ns : List Str) : strsOf (ns.map D.str) = some ns := by
  induction ns with
  | nil => rfl
  | cons n ns ih => simp [strsOf, ih]
theorem repStrs {H : Hp} : ∀ {vs : List V} {ns : List Str}, RepDs K H vs (ns.map D.str) → vs = ns.map V.str
  | [], [], _ => rfl
  | v :: vs, n :: ns, h => by
    rw [List.map_cons] at h
    unfold RepDs at h
    obtain ⟨h1, h2⟩ := h
    unfold RepD at h1
    rw [List.map_cons, h1, repStrs h2]
  | [], n :: ns, h => by rw [List.map_cons] at h; unfold RepDs at h; exact h.elim
  | v :: vs, [], h => by rw [List.map_nil] at h; unfold RepDs at h; exact h.elim
@[irreducible] def gJoin (sep : Str) : R → AE := fun r ρ q => match view ρ r with
  | some (.lst ds) => (match strsOf ds with | some ys => (ys.map (·.length)).sum + ys.length * sep.length ≤ 16777216 ∧ q (.d (.str (Txt.join sep ys))) ρ | none => False)
  | _ => False
theorem gJoin_ok {sep : Str} {r : R} {ρ : En} {q : Ko} {ys : List Str} (hv : view ρ r = some (.lst (ys.map D.str))) (hz : (ys.map (·.length)).sum + ys.length * sep.length ≤ 16777216) (hq : q (.d (.str (Txt.join sep ys))) ρ) : gJoin sep r ρ q := by
  unfold gJoin
  simp only [hv, strsOf_map]
  exact ⟨hz, hq⟩
def aJoin (a : AE) (as : AA) : AE := fun ρ q => a ρ fun r ρ1 => match r with
  | .d (.str sep) => as ρ1 fun rs ρ2 => (match rs with | [x] => gJoin sep x ρ2 q | _ => False)
  | _ => False
theorem tok_join (ha : TEok K ta a) (hs : TAok K ts as) : TEok K (tBM K "str" (rJoin K) ta ts) (aJoin a as) := by
  intro F σ ρ H q Q r h k
  refine ha F σ ρ H _ _ r h fun r1 ρ1 x H1 h1 o1 => ?_
  obtain ⟨r1', k1, i1⟩ := o1.inF
  split at h1
  · rename_i sep
    have ex : x = .str sep := i1.strv
    subst ex
    refine ⟨by first | rfl | exact .inl rfl | trivial | simp [tyV], hs F σ ρ1 H1 _ _ r1' h1 fun rs ρ2 vs H2 h2 r2 i2 k2 => ?_⟩
    split at h2
    · obtain ⟨y, rfl, iy⟩ := i2.one
      unfold gJoin at h2
      split at h2
      · rename_i ds e
        split at h2
        · rename_i ys e'
          obtain ⟨l, us, rfl, sq, rd⟩ := view_lst r2 iy e
          rw [strsOf_eq e'] at rd
          rw [repStrs rd] at sq
          exact ⟨sep, l, ys, rfl, rfl, sq, h2.1, ((k.after k1).after k2).str r2 h2.2⟩
        · exact h2.elim
      · exact h2.elim
    · exact h2.elim
  · exact h1.elim
end
end L2
set_option Elab.async false
set_option linter.all false
set_option maxRecDepth 100000
namespace L2
open PySem PySem.Spec PyProof.Rows
section
variable {X : Cx} {tg : Expr}
end
section
variable {K : PySem.W.Frag} {tk tv : TE} {ak av : AE} {ts : TA} {as : AA}
end
end L2
set_option Elab.async false
set_option linter.all false
set_option maxRecDepth 100000
namespace L2
open PySem PySem.Spec PyProof.Rows
section
variable {K : PySem.W.Frag} {ts : TA} {as : AA}
end
end L2
set_option Elab.async false
set_option linter.all false
set_option maxRecDepth 100000
namespace L2
open PySem PySem.Spec PyProof.Rows
section
variable {prog : Program} {w : World} {A : Around} {it : Addr} {own wr : List Addr} {len : Nat} {Pv : Nat → Value → Prop} {Sx : Nat → Heap → Prop} {Rz : Result → Shared → Prop}
end
section
variable {X : Cx} (K : PySem.W.Frag)
end
section
variable {K : PySem.W.Frag} {te : TE} {ae : AE} {ts : TA} {as : AA}
end
end L2
set_option Elab.async false
set_option linter.all false
set_option maxRecDepth 100000
namespace L2
open PySem PySem.Spec PyProof.Rows
open Builtin.SmallTypes (nextOf)
section
variable {prog : Program} {w : World}
variable {A : Around} {E : Value → Shared → Prop} {s : Shared} {z TI TO i1 i2 : Addr} {d1 d2 : List Addr} {S1 S2 : Nat → Heap → Prop} {g1 g2 : Nat → Option Value}
end
end L2
set_option Elab.async false
set_option linter.all false
set_option maxRecDepth 100000
namespace L2
open PySem PySem.Spec PyProof.Rows
section
variable {prog : Program} {w : World} {A : Around} {E : Value → Shared → Prop} {s : Shared}
end
section
variable {K : PySem.W.Frag} {ts : TA} {as : AA}
end
end L2
set_option Elab.async false
set_option linter.all false
set_option maxRecDepth 100000
namespace L2
open PySem PySem.Spec PyProof.Rows
section
variable {X : Cx} (K : PySem.W.Frag)
end
section
variable {K : PySem.W.Frag}
end
end L2
set_option Elab.async false
set_option linter.all false
set_option maxRecDepth 100000
namespace L2
open PySem PySem.Spec PyProof.Rows
section
variable {prog : Program} {w : World} {A : Around} {E : Value → Shared → Prop} {s : Shared} {r d : Addr} {n : Nat} {P : Nat → Value → Prop} {OK : Heap → Prop}
end
section
variable {X : Cx} {o : Expr} {td : TE} {p apos cpos pos : Pos}
end
section
variable {K : PySem.W.Frag} {td : TE} {ad : AE}
end
section
variable {X : Cx}
end
section
variable {K : PySem.W.Frag} {te : TE} {ae : AE} {pr : Nat → Bool}
end
end L2
set_option Elab.async false
set_option linter.all false
set_option maxRecDepth 100000
namespace L2
open PySem PySem.Spec PyProof.Rows
section
variable {X : Cx}
end
section
variable {K : PySem.W.Frag} {ta td tv : TE} {ad a av : AE} {ts : TA} {as : AA}
theorem InFs.length {F : Fr} {σ : St} {ρ : En} {H : Hp} {vs : List V} {rs : List R} (h : InFs K F σ ρ H vs rs) : vs.length = rs.length := by
  induction h with
  | nil => rfl
  | cons _ _ ih => rw [List.length_cons, List.length_cons, ih]
end
end L2
set_option Elab.async false
set_option linter.all false
set_option maxRecDepth 100000
namespace L2
open PySem PySem.Spec PyProof.Rows
section
variable {X : Cx} (K : PySem.W.Frag)
end
section
variable {K : PySem.W.Frag} {ta : TE} {a : AE} {ts : TA} {as : AA}
end
end L2
set_option Elab.async false
set_option linter.all false
set_option maxRecDepth 100000
namespace L2
open PySem PySem.Spec PyProof.Rows
section
variable {K : PySem.W.Frag} {t1 : TE} {a1 : AE} {S : ASp} {E : XK}
end
section
variable {K : PySem.W.Frag} {td : TE} {ad : AE}
end
end L2
set_option Elab.async false
set_option linter.all false
set_option maxRecDepth 100000
namespace L2
open PySem PySem.Spec PyProof.Rows
section
variable {M : Model} {A : Around} {E : Value → Shared → Prop} {s : Shared}
end
section
variable {X : Cx}
structure BlkC (X : Cx) (scope : Scope) (own : List Str) (js : List Nat) : Prop where
  kind : scope.kind = .function
  cells : ∀ y ∈ scope.names, y.2 = .cell → scope.names.lookup y.1 = some .cell
  names : ∀ y ∈ scope.names, y.2 = .local → scope.names.lookup y.1 = some .local
  free : ∀ y ∈ scope.names, y.2 = .free → X.env.kindOf y.1 = some .cell ∨ X.env.kindOf y.1 = some .free
  uniq : ∀ x, (x, NameKind.free) ∈ scope.names → scope.names.lookup x = some .free
  nd : (own ++ capN X.N js).Nodup
  cap : ∀ j ∈ js, j < X.N.length ∧ ((X.N[j]?).getD "", NameKind.free) ∈ scope.names
def blkCB (sc : Scope) (N : List Str) (scope : Scope) (own : List Str) (js : List Nat) : Bool :=
  scope.kind == .function && scope.names.all (fun y => y.2 != .cell || scope.names.lookup y.1 == some .cell) && scope.names.all (fun y => y.2 != .local || scope.names.lookup y.1 == some .local) &&
  scope.names.all (fun y => y.2 != .free || sc.names.lookup y.1 == some .cell || sc.names.lookup y.1 == some .free) && scope.names.all (fun y => y.2 != .free || scope.names.lookup y.1 == some .free) &&
  decide (own ++ capN N js).Nodup && js.all (fun j => decide (j < N.length) && scope.names.any fun y => y.1 == (N[j]?).getD "" && y.2 == .free)
theorem BlkC.of {scope : Scope} {own : List Str} {js : List Nat} (sc : Scope) (N : List Str) (h : blkCB sc N scope own js = true := by decide +kernel) (e1 : X.env.scope = sc := by rfl) (e2 : X.N = N := by rfl) : BlkC X scope own js := by
  subst e1 e2
  unfold blkCB at h
  simp only [Bool.and_eq_true, List.all_eq_true, decide_eq_true_eq, beq_iff_eq] at h
  obtain ⟨⟨⟨⟨⟨⟨h1, h2⟩, h3⟩, h4⟩, h5⟩, h6⟩, h7⟩ := h
  refine ⟨h1, fun y hy e => ?_, fun y hy e => ?_, fun y hy e => ?_, fun x hx => ?_, h6, fun j hj => ?_⟩
  · have := h2 y hy
    simpa [e] using this
  · have := h3 y hy
    simpa [e] using this
  · have := h4 y hy
    simp only [e, bne_self_eq_false, Bool.false_or, Bool.or_eq_true, beq_iff_eq] at this
    exact this
  · have := h5 _ hx
    simpa using this
  · obtain ⟨a, b⟩ := h7 j hj
    refine ⟨a, ?_⟩
    obtain ⟨y, hy, e⟩ := List.any_eq_true.mp b
    simp only [Bool.and_eq_true, beq_iff_eq] at e
    obtain ⟨e1, e2⟩ := e
    rw [← e1, ← e2]
    exact hy
end
end L2
set_option Elab.async false
set_option linter.all false
set_option maxRecDepth 100000
namespace L2
open PySem PySem.Spec PyProof.Rows
section
variable {X : Cx} (K : PySem.W.Frag)
end
section
variable {K : PySem.W.Frag}
end
end L2
set_option Elab.async false
set_option linter.all false
set_option maxRecDepth 100000
namespace L2
open PySem PySem.Spec PyProof.Rows
section
variable {M : Model} {A : Around} {E : Value → Shared → Prop} {s : Shared} {base : Heap} {env : Env} {outer : List Env} {L e C : Addr} {oe : Obj} {vs : Array Value} {od : Option Addr}
end
def Hot (od : Option Addr) (h0 h : Heap) (H : Hp) (e C : Addr) : Prop :=
  ∃ oe vs hv, h.get? e = some oe ∧ oe.cls = .ref C ∧ oe.dict = od ∧ oe.data = .fields vs ∧ vs[1]? = some hv ∧ h0.get? e = none ∧ H e = none ∧
    (hv = .none ∨ ∃ T oT ts, hv = .ref T ∧ T ≠ e ∧ h.get? T = some oT ∧ oT.data = .fields ts ∧ ts[3]? = some .none ∧ h0.get? T = none ∧ H T = none)
section
variable {X : Cx} {pins : List (Addr × Obj)} {σ : St} {H : Hp} {s : Shared} {h0 : Heap} {e C : Addr} {od : Option Addr}
end
def odV : Option Addr → Value
  | none => .none
  | some dx => .ref dx
def Yg (h : Heap) (od : Option Addr) : Prop := ∀ dx, od = some dx → h.get? dx = none
def CX1 (P : Program) (w : World) : CXT := fun outer H s E e s' =>
  ∃ a C od H', e = .ref a ∧ s'.os = s.os ∧ AllBare s'.gens ∧ Un (frs outer) [] H H' s.heap s'.heap ∧ HOk P w H' s'.heap ∧ Hot od s.heap s'.heap H' a C ∧ Yg s.heap od ∧ E (odV od) (some C) H'
section
variable {P : Program} {w : World} {K : PySem.W.Frag} {mg : Str → Option Value} {base : Heap} {N : List Str} {qual : Str} {scope : Scope} {f : Addr} {cd : Value} {A : Around} {outer : List Env} {s0 : Shared} {H0 : Hp} {E : XK}
end
abbrev bmV : List Value := [.type "ValueError", .type "Exception", .type "BaseException", .type "object"]
theorem own_cls {K : PySem.W.Frag} {h : Heap} {x : Str} {C : Addr} {mg : Str → Option Value} (KX : K.In h) (hm : mg x = some (.ref C)) (q : PySem.W.excIn K C bmV "ValueError.__new__" = true) : OwnCls x C bmV "ValueError.__new__" mg h := by
  unfold PySem.W.excIn at q
  split at q
  next dd cd sl lk =>
    split at q
    next C' bm k0 k1 k2 k3 n k5 em es =>
      simp only [Bool.and_eq_true, beq_iff_eq, Bool.not_eq_true'] at q
      obtain ⟨⟨⟨⟨⟨rfl, rfl⟩, nd⟩, tl⟩, nk⟩, ni⟩ := q
      obtain ⟨a1, a2, a3, a4, a5, a6, a7, a8, a9, a10, a11⟩ := cd
      obtain ⟨l⟩ := sl
      dsimp only at em nd nk ni es
      subst em nd es
      exact ⟨hm, bm, a4, a1, a5, a2, a6, a7, a8, a9, a10, dd, k0, k1, k2, k3, k5, _, KX _ _ lk, .of_isNs (PySem.W.isNs_of_in KX nk), PySem.W.nsMap_none_of_in KX nk ni, PySem.W.tail_of_in KX tl⟩
    · cases q
  · cases q
theorem HOk.get {P : Program} {w : World} {H : Hp} {h : Heap} {a : Addr} {o : HO} (k : HOk P w H h) (e : H a = some o) : ∃ u, h.get? a = some u := by
  have x := k a o e
  cases o with
  | lst xs => obtain ⟨_, _, _, _, e⟩ := x; exact ⟨_, e⟩
  | tup xs => obtain ⟨_, _, _, ob, e, _⟩ := x; exact ⟨_, e⟩
  | dK kvs => obtain ⟨_, _, _, _, o, _, _, e, _⟩ := x; exact ⟨_, e⟩
  | dT kvs => obtain ⟨_, _, _, _, o, _, _, e, _⟩ := x; exact ⟨_, e⟩
  | set S n => obtain ⟨o, _, _, _, e, _⟩ := x; exact ⟨_, e⟩
  | ins C dx fs => obtain ⟨_, _, _, e, _⟩ := x; exact ⟨_, e⟩
  | own y => exact x
  | xd fs => obtain ⟨_, ⟨_, _, _, e, _⟩, _⟩ := x; exact ⟨_, e⟩
  | rng lo hi => obtain ⟨_, _, _, e⟩ := x; exact ⟨_, e⟩
  | frz ob u => obtain ⟨e, _⟩ := x; exact ⟨_, e⟩
  | tbl ps => exact ⟨_, x⟩
  | met f y => exact ⟨_, x⟩
  | ext φ => obtain ⟨_, e, _⟩ := x; exact e
theorem Inv.back0 {X : Cx} {pins : List (Addr × Obj)} {σ : St} {H : Hp} {s : Shared} (I : Inv X pins σ H s) (hx : X.ex = []) {b : Addr} (h : s.heap.get? b = none) : X.s₀.heap.get? b = none := by
  cases q : X.s₀.heap.get? b with
  | none => rfl
  | some o =>
    obtain ⟨o', q'⟩ := I.base.there b o q (by rw [hx]; simp)
    rw [h] at q'; cases q'
def Fld (H : Hp) : Option Str → Option Addr → V → Prop
  | none, od, v => od = none ∧ v = .non
  | some f, od, v => ∃ dx, od = some dx ∧ H dx = some (.xd [(f, v)])
section
variable {X : Cx} {R : VK} {C : Addr}
end
theorem PA.nox {X : Cx} {es : List Expr} {t : TA} (h : PA X.nox es t) : PA X es t := fun pos pins s σ H Q I hw =>
  wpAny_mono (h pos pins s σ H Q (I.wish _) hw) (fun _ _ ⟨xs, H', I', r, q⟩ => ⟨xs, H', I'.unwish, r, q⟩) fun _ _ z => False.elim z
def XW (E : XK) (C : Addr) (fn : Option Str) : VK := fun v H' => ∀ od, Fld H' fn od v → E (odV od) (some C) H'
def spX (C : Addr) (fn : Option Str) (sp : Sp) : Sp := fun vs H Q E => sp vs H (XW E C fn) E
structure OkX (P : Program) (w : World) (K : PySem.W.Frag) (mg : Str → Option Value) (base : Heap) (k : Nat) (x : Str) (ps : List Str) (C : Addr) (fn : Option Str) (sp : Sp) : Prop where
  ex : ∃ f fd, mg x = some (.ref f) ∧ PySem.W.keepIn K (.ref f) = true ∧ Binds K fd ps [] ∧ FnOk P w K mg base (CX1 P w) k f fd ps (spX C fn sp)
theorem OkX.mono {P : Program} {w : World} {K : PySem.W.Frag} {mg : Str → Option Value} {base : Heap} {x : Str} {ps : List Str} {C : Addr} {fn : Option Str} {j k : Nat} {sp : Sp} (F : OkX P w K mg base j x ps C fn sp) (h : j ≤ k) : OkX P w K mg base k x ps C fn sp := by
  obtain ⟨f, fd, hm, hk, hb, F⟩ := F.ex
  exact ⟨f, fd, hm, hk, hb, F.mono h⟩
section
variable {P : Program} {w : World} {K : PySem.W.Frag} {mg : Str → Option Value} {base : Heap} {N : List Str} {qual : Str} {scope : Scope} {f : Addr} {cd : Value} {A : Around} {outer : List Env} {s0 : Shared} {H0 : Hp} {E : XK} {C : Addr} {fn : Option Str} {od : Option Addr}
end
section
variable {X : Cx} {E : XK} {C : Addr} {fn : Option Str} {K : PySem.W.Frag} {S : ASp}
end
section
variable {X : Cx} {pins : List (Addr × Obj)} {σ σ1 : St} {H H1 : Hp} {s s1 : Shared} {h' : Heap} {ch : List Addr} {e C : Addr}
def hcx (X : Cx) (pins : List (Addr × Obj)) (e : Addr) (oe : Obj) : Cx := { X with A := X.A.mark (some (.ref e)), calm := false, pn := X.pn ++ pins ++ [(e, oe)], xe := fun _ _ => False }
theorem Inv.hcx {oe : Obj} (I : Inv X pins σ H s) (ge : s.heap.get? e = some oe) (ue : H e = none) (nL : e ≠ X.env.locals) (nf : e ∉ X.fs) (nc : ∀ v, oe.data ≠ .cell v) : Inv (hcx X pins e oe) [] σ H s := by
  refine ⟨⟨I.ok.mod, I.ok.kind, I.ok.glob, I.ok.blt, I.ok.above, I.ok.inj, I.ok.has, I.ok.cab, fun z => (nomatch z), I.ok.frames, I.ok.stk, I.ok.exf, I.ok.bs, I.ok.bsz, I.ok.noex, I.ok.exfs, I.ok.funs, I.ok.frf⟩, I.os, I.bare, I.base, I.loc, I.cell, I.free, I.freeC, fun p hp => ?_, I.hok, I.len⟩
  have hp' : p ∈ X.pn ++ pins ∨ p = (e, oe) := by
    have : p ∈ (X.pn ++ pins ++ [(e, oe)]) ++ [] := hp
    simpa [or_assoc] using this
  rcases hp' with z | rfl
  · exact I.pin p z
  · exact ⟨ge, ue, nL, nf, nc⟩
theorem Inv.forget {oe : Obj} {m' : Str → Option Value} {t' : Nat} (I : Inv (L2.hcx X pins e oe) [] σ H s) (sb : Heap.SameBut X.env.locals s.heap h') (hn : h'.Ns X.env.locals m') (hd : X.calm = true → X.A.handled = none) (hfm : X.A.frames = some X.stack) : Inv X pins (List.replicate X.N.length none) H { s with heap := h', toks := t' } := by
  have kp : ∀ b o, b ≠ X.env.locals → s.heap.get? b = some o → h'.get? b = some o := fun b o n q => (sb.2 b n).trans q
  have n0 : ∀ b o, X.s₀.heap.get? b = some o → b ≠ X.env.locals := fun b o q => Nat.ne_of_lt (Nat.lt_of_lt_of_le (Heap.lt_size q) I.ok.above)
  have cl : ∀ x c, X.env.cells.lookup x = some c → c ≠ X.env.locals := fun x c q z => by
    obtain ⟨v, oc, hoc, hdc⟩ := I.cell x c q
    obtain ⟨m, ⟨o, es, ep, ho, hdo, _⟩, _⟩ := id I.loc
    rw [z] at hoc
    cases hoc.symm.trans (show s.heap.get? X.env.locals = some o from ho)
    rw [hdc] at hdo; cases hdo
  refine ⟨⟨I.ok.mod, I.ok.kind, I.ok.glob, I.ok.blt, I.ok.above, I.ok.inj, I.ok.has, I.ok.cab, hd, hfm, I.ok.stk, I.ok.exf, I.ok.bs, I.ok.bsz, I.ok.noex, I.ok.exfs, I.ok.funs, I.ok.frf⟩, I.os, I.bare, ⟨fun b o q n f x => kp b o (n0 b o q) (I.base.keep b o q n f x), fun b o q n f x => ?_, I.base.free, fun b o q x => ?_, I.base.tups, I.base.frzs, I.base.tbls⟩, ⟨m', hn, fun i x v _ a2 _ => ?_⟩, fun x c q => ?_, I.free, I.freeC, fun p hp => ?_, fun a o q => ?_, List.length_replicate⟩
  · obtain ⟨sl, q'⟩ := I.base.slot b o q n f x
    exact ⟨sl, kp b _ (n0 b o q) q'⟩
  · obtain ⟨o', q'⟩ := I.base.there b o q x
    exact ⟨o', kp b o' (n0 b o q) q'⟩
  · rw [List.getElem?_replicate] at a2
    split at a2 <;> cases a2
  · obtain ⟨v, oc, hoc, hdc⟩ := I.cell x c q
    exact ⟨v, oc, kp c oc (cl x c q) hoc, hdc⟩
  · have hp' : p ∈ (X.pn ++ pins ++ [(e, oe)]) ++ [] := by rw [List.append_nil]; exact List.mem_append_left _ hp
    obtain ⟨p1, p2, p3, p4, p5⟩ := I.pin p hp'
    exact ⟨kp _ _ p3 p1, p2, p3, p4, p5⟩
  · refine (I.hok a o q).stay (fun b u hb z => kp b u (fun w => ?_) z) (fun _ z => z) fun _ _ z => z
    have fr : H b = none := by rw [w]; exact I.free
    rcases hb with hb | hb
    · rw [← hb, fr] at q; cases q
    · rw [fr] at hb; cases hb
end
section
variable {X : Cx} {K : PySem.W.Frag} {S : ASp}
end
end L2
set_option Elab.async false
set_option linter.all false
set_option maxRecDepth 100000
namespace L2
open PySem PySem.Spec PyProof.Rows PySem.W
section
variable {prog : Program} {w : World} {A : Around} {E : Value → Shared → Prop} {s : Shared} {K : PySem.W.Frag} {x D : Addr} {ox : Obj} {odo : Option Obj}
theorem exc_class {Q : Option Value → Shared → Prop} (KX : K.In s.heap) (I : PySem.W.InstAt s.heap x ox D odo) (hga : findIn K (.ref D) "__getattribute__" = some (some (.builtin "BaseException.__getattribute__"))) (hgn : findIn K (.ref D) "__getattr__" = some none)
    (hf : findObj K D odo "__class__" = some (.bind (.builtin "getset_descriptor.__get__") (.builtin "object.__class__"))) (hm : mroIn K D (.type "object") = some true) (hb : subIn K (.ref D) (.type "BaseException") = some true)
    (h : Q (some (.ref D)) { s with toks := s.toks + 1 }) : wpAny (model prog w) A (getAttr? (.ref x) "__class__") Q E s := by
  obtain ⟨hh, g, d, t, os⟩ := s
  have L0 := I.type (M := model prog w)
  have L1 := looks_findIn (M := model prog w) KX hga
  have L2 := looks_findIn (M := model prog w) KX hgn
  have L3 := looks_find (M := model prog w) KX I hf
  have L4 := looks_subIn (M := model prog w) KX hb
  have f3 := PySem.F.excAttr_ValueError.ga.bind (.ref x)
  have hk : builtinKind "BaseException.__getattribute__" = some .slot := by decide +kernel
  have hsp : splitId "BaseException.__getattribute__" = some ("BaseException", "__getattribute__") := by decide +kernel
  have ha := PySem.F.args_bexc_ga (.ref x) (.str "__class__" t)
  unfold getAttr? getAttrBy? getAttrBy
  refine wpAny_bind (wpAny_mkText (wpAny_bind (wpAny_attempt (wpAny_holding (wpAny_bind (L0.at (wpAny_bind (L1.at ?_))))))))
  show wpAny _ _ (getAttrByItsOwn _ _ _ _ _ _) _ _ _
  unfold getAttrByItsOwn
  repeat (any_goals (first | assumption | with_reducible refine L0.at ?_ | with_reducible refine L1.at ?_ | with_reducible refine L2.at ?_ | wp_step))
  refine codeAny_call_builtin PySem.F.excAttr_ValueError.ga.plain PySem.F.entry_bexc_ga ?_
  simp only [checkBuiltinCall, hk, hsp]
  refine wpAny_bind ?_
  unfold isInstance
  repeat (any_goals (first | assumption | with_reducible refine L0.at ?_ | with_reducible refine L4.at ?_ | with_reducible refine L3.at ?_ | wp_step))
  refine class_get (s := ⟨hh, g, d, t + 1, os⟩) (ox := ox) (od := odo) KX I hm ?_
  show wpAny _ _ (ret (.ref D)) _ _ _
  refine wpAny_pure ?_
  exact handed_on rfl (wpAny_pure h)
end
structure ExIs (K : PySem.W.Frag) (C : Addr) : Prop where
  ga : findIn K (.ref C) "__getattribute__" = some (some (.builtin "BaseException.__getattribute__"))
  gn : findIn K (.ref C) "__getattr__" = some none
  cl : ∀ od, findObj K C od "__class__" = some (.bind (.builtin "getset_descriptor.__get__") (.builtin "object.__class__"))
  mo : mroIn K C (.type "object") = some true
  be : subIn K (.ref C) (.type "BaseException") = some true
  is : (clsIn K C).isSome = true
theorem ExIs.of {K : PySem.W.Frag} {C : Addr} (ga : findIn K (.ref C) "__getattribute__" = some (some (.builtin "BaseException.__getattribute__"))) (gn : findIn K (.ref C) "__getattr__" = some none) (hc : hasDictIn K C = true) (ha : findIn K (.ref C) "__class__" = some (some (.builtin "object.__class__")))
    (hn : specialIn K (.builtin "object.__class__") "__get__" = some (some (.builtin "getset_descriptor.__get__"))) (ht : takesIn K (.builtin "object.__class__") = some true) (mo : mroIn K C (.type "object") = some true) (be : subIn K (.ref C) (.type "BaseException") = some true) : ExIs K C := by
  obtain ⟨cd, hcd, _⟩ := any_some hc
  refine ⟨ga, gn, fun od => ?_, mo, be, by rw [hcd]; rfl⟩
  unfold findObj
  rw [hcd, Option.bind_some, ha, Option.bind_some]
  simp only [hn, ht, Option.bind_some]
theorem kitx_exc {K : PySem.W.Frag} {a C : Addr} {oe : Obj} {odo : Option Obj} (q : ExIs K C) : KitX K (.ref a) (.ref C) (fun h => PySem.W.InstAt h a oe C odo) where
  ty := fun _ _ _ I => I.type
  it := fun _ _ KX _ => by
    have z := q.is
    unfold clsIn at z
    split at z
    next lk =>
      intro A' Q' E' s' k w
      unfold isType loadHead
      exact wpAny_bind (wpAny_loadPart (k _ _ (KX _ _ lk)) (wpAny_pure w))
    · cases z
  ne := fun h tp dd its n sl KX g => Bool.eq_false_iff.mpr fun e => by
    have e' : C = tp := Value.ref.inj (beq_iff_eq.mp e)
    subst e'
    have z := q.is
    unfold clsIn at z
    split at z
    next lk => cases (KX _ _ lk).symm.trans g
    · cases z
  ca := fun KX I k => exc_class KX I q.ga q.gn (q.cl _) q.mo q.be k
section
variable {Y : Cx} {a C Dc : Addr} {oe : Obj} {vs : Array Value} {b : Bool}
end
section
variable {K : PySem.W.Frag} {pr : Nat → Bool} {t u : TS} {a b : AS} {S : ASp} {ts : TA} {as : AA} {th : Addr → TS} {ah : AS} {i : Nat}
end
end L2
set_option Elab.async false
set_option linter.all false
set_option maxRecDepth 100000
namespace L2
open PySem PySem.Spec PyProof.Rows PySem.W
section
variable {X : Cx} {pins : List (Addr × Obj)} {σ σ1 : St} {H H1 : Hp} {s s1 : Shared} {h' : Heap} {e C : Addr}
theorem Inv.trackX {od : Option Addr} (I1 : Inv X pins σ1 H1 s1) (I : Inv X pins σ H s) (hex : X.ex = []) (ue : H e = none) (y : s1.heap.get? e = none) (hp : exP e C od s.heap) : Inv X pins σ (upd H e (.ext (exP e C od))) s := by
  obtain ⟨oe, vs, ge, gc, gd, gf⟩ := id hp
  have y0 := I1.back0 hex y
  have ne : ∀ {b : Addr} {o : HO}, H b = some o → b ≠ e := fun z w => by rw [w, ue] at z; cases z
  have n0 : ∀ b o, X.s₀.heap.get? b = some o → b ≠ e := fun b o q z => by rw [z, y0] at q; cases q
  have nL : X.env.locals ≠ e := fun z => by
    obtain ⟨m1, ⟨o1, _, _, ho1, _⟩, _⟩ := id I1.loc
    rw [z, y] at ho1; cases ho1
  have nC : ∀ x c, X.env.cells.lookup x = some c → c ≠ e := fun x c q z => by
    obtain ⟨v, o1, ho1, _⟩ := I1.cell x c q
    rw [z, y] at ho1; cases ho1
  refine ⟨I.ok, I.os, I.bare, ⟨I.base.keep, I.base.slot, fun b o q n x => ?_, I.base.there, fun b xs q => ?_, fun b o u q => ?_, fun b ps q => ?_⟩, I.loc, I.cell, ?_, fun x c q => ?_, fun p hp' => ?_, fun a o q => ?_, I.len⟩
  · rw [upd_ne (n0 b o q)]; exact I.base.free b o q n x
  · have := I.base.tups b xs q
    rw [upd_ne (ne this)]; exact this
  · have := I.base.frzs b o u q
    rw [upd_ne (ne this)]; exact this
  · obtain ⟨more, this⟩ := I.base.tbls b ps q
    exact ⟨more, by rw [upd_ne (ne this)]; exact this⟩
  · rw [upd_ne nL]; exact I.free
  · rw [upd_ne (nC x c q)]; exact I.freeC x c q
  · obtain ⟨p1, p2, p3, p4, p5⟩ := I.pin p hp'
    refine ⟨p1, ?_, p3, p4, p5⟩
    rw [upd_ne fun z => ?_]
    · exact p2
    · have := (I1.pin p hp').1
      rw [z, y] at this; cases this
  · by_cases z : a = e
    · subst z
      rw [upd_same] at q
      cases q
      exact ⟨hp, ⟨oe, ge⟩, fun h1 h2 ⟨oe, vs, g1, g2, g3, g4⟩ k => ⟨oe, vs, k _ g1, g2, g3, g4⟩⟩
    · rw [upd_ne z] at q
      exact (I.hok a o q).stay (fun _ _ _ w => w) (fun b w => by rw [upd_ne (ne w)]; exact w) fun b xs w => by rw [upd_ne (ne w)]; exact w
end
structure ECls (C : Addr) (h : Heap) : Prop where
  obj : ∃ bm N nm q bs hdct sn sub ab col dd k0 k1 k2 k3 k5, h.get? C = some (excClassObj nm q C N bs bm hdct sn sub ab col dd k0 k1 k2 k3 k5 "ValueError.__new__") ∧ OwnTail h bmV bm
def excAny (K : PySem.W.Frag) (C : Addr) : Bool := match K.lookup C with
  | some ⟨.type "type", _, .cls cd, sl⟩ => (match cd.mro, sl.toList with
    | .ref C' :: bm, [_, _, _, _, some (.builtin n), _] => C' == C && n == "ValueError.__new__" && !cd.hasDel && PySem.W.tailIn K bmV bm
    | _, _ => false)
  | _ => false
theorem ecls {K : PySem.W.Frag} {h : Heap} {C : Addr} (KX : K.In h) (q : excAny K C = true) : ECls C h := by
  unfold excAny at q
  split at q
  next dd cd sl lk =>
    split at q
    next C' bm k0 k1 k2 k3 n k5 em es =>
      simp only [Bool.and_eq_true, beq_iff_eq, Bool.not_eq_true'] at q
      obtain ⟨⟨⟨rfl, rfl⟩, nd⟩, tl⟩ := q
      obtain ⟨a1, a2, a3, a4, a5, a6, a7, a8, a9, a10, a11⟩ := cd
      obtain ⟨l⟩ := sl
      dsimp only at em nd es
      subst em nd es
      exact ⟨bm, a4, a1, a5, a2, a6, a7, a8, a9, a10, dd, k0, k1, k2, k3, k5, KX _ _ lk, PySem.W.tail_of_in KX tl⟩
    · cases q
  · cases q
section
variable {X : Cx} {K : PySem.W.Frag} {S : ASp}
end
section
variable {X : Cx} {R : VK} {E : XK} {C : Addr} {fn : Option Str} {K : PySem.W.Frag} {S : ASp}
end
section
variable {Y : Cx} (K : PySem.W.Frag)
def rIsX (K : PySem.W.Frag) (c : V) (u : Value) : List V → Hp → VK → Prop := fun xs H Q => ∃ a C od b, xs = [.ref a, c] ∧ H a = some (.ext (exP a C od)) ∧ (∀ dx, od = some dx → H dx ≠ none) ∧ ExIs K C ∧ kitOne K (.ref C) u = some b ∧ Q (.bl b) H
theorem inst_ext {pins : List (Addr × Obj)} {σ : St} {H : Hp} {s : Shared} {a C : Addr} {od : Option Addr} (I : Inv Y pins σ H s) (h : H a = some (.ext (exP a C od))) (hd : ∀ dx, od = some dx → H dx ≠ none) : ∃ oe odo, PySem.W.InstAt s.heap a oe C odo := by
  obtain ⟨⟨oe, vs, ge, gc, gd, gf⟩, _, _⟩ := I.hok a _ h
  cases od with
  | none => exact ⟨oe, none, ge, gc, by unfold notCls; rw [gf], by rw [gd]; trivial⟩
  | some dx =>
    cases z : H dx with
    | none => exact absurd z (hd dx rfl)
    | some o =>
      obtain ⟨u, z'⟩ := I.hok.get z
      exact ⟨oe, some u, ge, gc, by unfold notCls; rw [gf], by rw [gd]; exact z'⟩
theorem call_isaX {c : V} {u : Value} (rc : ∀ u', RelV c u' → u' = u) (hK : Y.K = K := by rfl) : CallR Y (.builtin "isinstance") (rIsX K c u) := by
  subst hK
  intro pins s σ H xs us Q I r h
  obtain ⟨a, C, od, b, rfl, hH, hd, q, hk, h⟩ := h
  cases r with
  | cons r1 rr =>
    cases rr with
    | cons r2 rr =>
      cases rr
      cases (show _ = Value.ref a from r1)
      rw [rc _ r2]
      obtain ⟨oe, odo, it⟩ := inst_ext I hH hd
      exact kia_one (kitx_exc q) I.kIn it hk (by intro z; cases z) fun tk => ⟨.bl b, H, I.tok tk, rfl, h⟩
end
section
variable {K : PySem.W.Frag} {pr : Nat → Bool} {F : Fr} {σ : St} {ρ : En} {H : Hp} {th : TS} {ah : AS} {S : ASp} {ts : TA} {as : AA} {ta : TE} {a : AE}
theorem exD_there {fs : Option (List (Str × D))} {od : Option Addr} {S : Addr → Prop} (h : exD K (hid H S) fs od) : ∀ dx, od = some dx → H dx ≠ none := by
  rintro dx rfl
  cases fs with
  | none => exact h.elim
  | some fs =>
    obtain ⟨ks, h1, _⟩ := h
    rw [(hid_some.mp h1).2]; exact fun z => nomatch z
def aIsX (K : PySem.W.Frag) (i : Nat) (u : Value) : AE := fun ρ q => match gt ρ i with
  | .ex C _ => ∃ b, ExIs K C ∧ kitOne K (.ref C) u = some b ∧ q (.d (.bl b)) ρ
  | _ => False
theorem tok_isX {i : Nat} {c : V} {u : Value} : TEok K (tCB (rIsX K c u) (tCons (tVar i) (tCons (tC c) tNil))) (aIsX K i u) := by
  intro F σ ρ H q Q a h b
  have s := a.sl i
  unfold aIsX at h
  split at h
  · rename_i C fs hg
    rw [hg] at s
    obtain ⟨e, od, e1, e2, e3⟩ := s
    obtain ⟨b', h1, h2, h3⟩ := h
    exact ⟨.ref e, e1, e, C, od, b', rfl, (hid_some.mp e2).2, exD_there e3, h1, h2, b.bl a h3⟩
  · exact h.elim
end
end L2
set_option Elab.async false
set_option linter.all false
set_option maxRecDepth 100000
namespace L2
open PySem PySem.Spec PyProof.Rows Builtin
section
variable {X : Cx} (K : PySem.W.Frag)
end
section
variable {K : PySem.W.Frag}
end
end L2
set_option Elab.async false
set_option linter.all false
set_option maxRecDepth 100000
namespace L2
open PySem PySem.Spec PyProof.Rows
section
variable {K : PySem.W.Frag} {ts : TA} {as : AA}
end
end L2
set_option Elab.async false
set_option linter.all false
set_option maxRecDepth 100000
namespace L2
open PySem PySem.Spec PyProof.Rows
section
variable {K : PySem.W.Frag} {ts : TA} {as : AA}
end
end L2
set_option Elab.async false
set_option linter.all false
set_option maxRecDepth 100000
namespace L2
open PySem PySem.Spec PyProof.Rows PySem.W
section
variable {prog : Program} {w : World} {A : Around} {E : Value → Shared → Prop} {h : Heap} {g : Array GenState} {d : Drawn} {t : Nat} {os : OsState}
variable {nm q : Str} {C N : Addr} {bs bm bmB : List Value} {hdct : Bool} {sn : List Str} {sub : List Value} {ab : Bool} {col : Option Bool} {dd : Option Addr} {k0 k1 k2 k3 k5 : Option Value} {B newId initId : String}
theorem type_call_init (F : ExcBaseFacts B newId initId bmB) (T : OwnTail h bmB bm) {mN : Str → Option Value} {rest : List Value} {fI : Addr} {oI : Obj} {Q : Fin → Shared → Prop}
    (hC : h.get? C = some (excClassObj nm q C N bs bm hdct sn sub ab col dd k0 k1 k2 k3 k5 newId)) (hn : h.Ns N mN) (hi : mN "__init__" = some (.ref fI)) (hfI : h.get? fI = some oI) (hfc : oI.cls = .type "function")
    (hq : ∀ h' e, Heap.MadeExcOf h h' e (.ref C) rest → wpAny (model prog w) A (call (.ref fI) (.ref e :: rest)) (fun r s' => r = .none ∧ Q (.done (.ret (.ref e))) s') E ⟨h', g, d, t, os⟩) (hrest : rest.length ≤ sizeLine) :
    wpAny (model prog w) A (Builtin.«type.__call__» ⟨.ref C :: rest, []⟩) Q E ⟨h, g, d, t, os⟩ := by
  repeat (first | with_reducible refine wpAny_loadPart_at hC ?_ | with_reducible refine wpAny_madeBy_exc hC ?_ | wp_step)
  refine codeAny_call_builtin_code (Code.quiet_builtin _ F.quiet) (wpAny_check_new_subT F T hC ?_)
  refine codeAny_exc_new_subT F T hC ?_ hrest
  show wpAny _ _ _ _ _ _
  have hC₁ := Heap.get?_push_of_some { cls := .ref C, data := .fields #[.ref h.objs.size, .none, .none, .none, .bool false, .none] }
    (Heap.get?_push_of_some { cls := .type "tuple", data := .seq rest.toArray } hC)
  have hfI₁ := Heap.get?_push_of_some { cls := .ref C, data := .fields #[.ref h.objs.size, .none, .none, .none, .bool false, .none] }
    (Heap.get?_push_of_some { cls := .type "tuple", data := .seq rest.toArray } hfI)
  have hn₁ : ((h.push { cls := .type "tuple", data := .seq rest.toArray }).push { cls := .ref C, data := .fields #[.ref h.objs.size, .none, .none, .none, .bool false, .none] }).Ns N mN :=
    let ⟨o, es, ep, e, r⟩ := hn; ⟨o, es, ep, Heap.get?_push_of_some _ (Heap.get?_push_of_some _ e), r⟩
  have hget : ((h.push { cls := .type "tuple", data := .seq rest.toArray }).push
      { cls := .ref C, data := .fields #[.ref h.objs.size, .none, .none, .none, .bool false, .none] }).get? (h.objs.size + 1) = some
      { cls := .ref C, data := .fields #[.ref h.objs.size, .none, .none, .none, .bool false, .none] } := by heap_get
  have hcC : (Value.ref C :: bm).contains (.ref C) = true := by simp
  have T₁ := T.keeps (h' := (h.push { cls := .type "tuple", data := .seq rest.toArray }).push { cls := .ref C, data := .fields #[.ref h.objs.size, .none, .none, .none, .bool false, .none] })
    fun b o e => Heap.get?_push_of_some _ (Heap.get?_push_of_some _ e)
  unfold isInstance
  repeat (first | with_reducible refine wpAny_loadPart_at hget ?_ | (with_reducible refine wpAny_isSubtype_exc hC₁ ?_; rw [hcC]) | wp_step)
  show wpAny _ _ (typeLookup (.ref C) _) _ _ _
  refine wpAny_typeLookup_tail hC₁ hn₁ T₁ F.mroIs F.init.lookup ?_
  rw [hi]
  refine wpAny_holding (wpAny_bind ?_)
  unfold bindSpecial
  refine wpAny_bind (wpAny_typeOf (T := "function") ⟨_, hfI₁, hfc⟩ ?_)
  rw [if_pos (by decide)]
  refine wpAny_pure (wpAny_bind (wpAny_mono (hq _ (h.objs.size + 1) ⟨fun b o hb => Heap.get?_push_of_some _ (Heap.get?_push_of_some _ hb), Heap.get?_none_of_le (Nat.le_succ _), h.objs.size, hget, Heap.get?_none_of_le (Nat.le_refl _), ?_⟩) (fun r s' hr => ?_) fun _ _ x => x))
  · exact Heap.get?_push_of_some _ (Heap.get?_push_at rfl rfl)
  · obtain ⟨rfl, hQ⟩ := hr
    wp_walk
    exact hQ
theorem call_init (F : ExcBaseFacts B newId initId bmB) (T : OwnTail h bmB bm) {mN : Str → Option Value} {rest : List Value} {fI : Addr} {oI : Obj} {Q : Value → Shared → Prop}
    (hC : h.get? C = some (excClassObj nm q C N bs bm hdct sn sub ab col dd k0 k1 k2 k3 k5 newId)) (hn : h.Ns N mN) (hi : mN "__init__" = some (.ref fI)) (hfI : h.get? fI = some oI) (hfc : oI.cls = .type "function")
    (hq : ∀ h' e, Heap.MadeExcOf h h' e (.ref C) rest → wpAny (model prog w) (A.under (.builtin "type.__call__" ⟨.ref C :: rest, []⟩)) (call (.ref fI) (.ref e :: rest)) (fun r s' => r = .none ∧ Q (.ref e) s') E ⟨h', g, d, t, os⟩) (hrest : rest.length ≤ sizeLine) :
    wpAny (model prog w) A (call (.ref C) rest) Q E ⟨h, g, d, t, os⟩ := by
  have f1 := tc_lookup
  have f2 := tc_bind (.ref C)
  have hT : (⟨h, g, d, t, os⟩ : Shared).TypeIs (.ref C) "type" := ⟨_, hC, rfl⟩
  refine wpAny_call (codeAny_of_tree ?_)
  show wpAny _ _ (callAny (.ref C) _) _ _ _
  repeat (any_goals (first | assumption | with_reducible refine wpAny_loadPart_at hC ?_ | wp_step))
  refine ⟨rfl, ?_⟩
  refine codeAny_call_builtin_at (Code.quiet_builtin _ (by decide +kernel)) entry_typeCall (wpAny_check_type_call_sub hC (type_call_init (hrest := hrest) F T hC hn hi hfI hfc fun h' e hm => ?_))
  exact hq h' e hm
end
section
variable {M : Model} {A : Around} {E : Value → Shared → Prop} {env : Env}
variable {nm q : Str} {C N : Addr} {bs bm : List Value} {hdct : Bool} {sn : List Str} {sub : List Value} {ab : Bool} {col : Option Bool} {dd : Option Addr} {k0 k1 k2 k3 k5 : Option Value} {newId : String}
end
section
variable {prog : Program} {w : World} {A : Around} {E : Value → Shared → Prop} {s : Shared} {env : Env}
variable {nm q : Str} {C N : Addr} {bs bm bmB : List Value} {hdct : Bool} {sn : List Str} {sub : List Value} {ab : Bool} {col : Option Bool} {dd : Option Addr} {k0 k1 k2 k3 k5 : Option Value} {B newId initId : String}
end
end L2
set_option Elab.async false
set_option linter.all false
set_option maxRecDepth 100000
namespace L2
open PySem PySem.Spec PyProof.Rows PySem.W Builtin Builtin.ObjectAttr
theorem refuse_tail {h : Heap} {bmB l : List Value} (T : OwnTail h bmB l) (self : Value) (what : Str) : refuseLoop self what l = refuseLoop self what bmB := by
  induction T with
  | base => rfl
  | own _ _ _ _ ih => rw [refuseLoop_ref, ih]
section
variable {prog : Program} {w : World} {A : Around} {E : Value → Shared → Prop} {h : Heap} {g : Array GenState} {d : Drawn} {t : Nat} {os : OsState} {K : PySem.W.Frag}
variable {nm q : Str} {C N x : Addr} {bs bm : List Value} {sn : List Str} {sub : List Value} {ab : Bool} {col : Option Bool} {dd : Option Addr} {k0 k1 k2 k3 k5 : Option Value} {newId : String} {hdct : Bool} {name : Str} {v : Value} {o : Obj}
theorem base_init (T : OwnTail h bmV bm) {u : Value} {od : Option Addr} {t0 : Addr} {Q : Value → Shared → Prop} (hC : h.get? C = some (excClassObj nm q C N bs bm hdct sn sub ab col dd k0 k1 k2 k3 k5 "ValueError.__new__"))
    (he : h.get? x = some { cls := .ref C, dict := od, data := .fields #[.ref t0, .none, .none, .none, .bool false, .none] })
    (hq : ∀ h', (∀ b ob, b ≠ x → h.get? b = some ob → h'.get? b = some ob) → (∃ t1, h'.get? x = some { cls := .ref C, dict := od, data := .fields #[.ref t1, .none, .none, .none, .bool false, .none] }) → Q .none ⟨h', g, d, t, os⟩) :
    wpAny (model prog w) A (call (.builtin "ValueError.__init__") [.ref x, u]) Q E ⟨h, g, d, t, os⟩ := by
  have F := PySem.F.excBase_ValueError
  refine wpAny_call (codeAny_call_builtin F.init.plain F.initEntry (wpAny_check_init_subT F T hC he rfl ?_))
  wp_walk
  refine hq _ (fun b ob ne hb => ?_) ⟨h.objs.size, ?_⟩
  · rw [Heap.get?_update_other _ _ (Ne.symm ne)]
    exact Heap.get?_push_of_some _ hb
  · rw [Heap.get?_update_self _ (Heap.get?_push_of_some _ he) rfl]
    rfl
theorem check_osa {M : Model} {nameV : Value} {Q : Unit → Shared → Prop} (T : OwnTail h bmV bm) (hC : h.get? C = some (excClassObj nm q C N bs bm hdct sn sub ab col dd k0 k1 k2 k3 k5 newId)) (hx : h.get? x = some o) (hc : o.cls = .ref C) (hq : Q () ⟨h, g, d, t, os⟩) :
    wpAny M A (checkBuiltinCall "object.__setattr__" ⟨[.ref x, nameV, v], []⟩) Q E ⟨h, g, d, t, os⟩ := by
  have SF := PySem.F.store_ValueError
  have hcB : (Value.ref C :: bm).contains (.type "object") = true := by rw [List.contains_cons, T.hasType SF.hasOwner, Bool.or_true]
  have ha := SF.args (.ref x) nameV v
  simp only [checkBuiltinCall, SF.kind, SF.split]
  refine wpAny_bind ?_
  · unfold isInstance
    repeat (first | (with_reducible refine wpAny_loadPart_at hx ?_; rw [hc]) | (with_reducible refine wpAny_isSubtype_exc hC ?_; rw [hcB]) | wp_step)
    exact hq
theorem set_exc {Q : Unit → Shared → Prop} (KX : K.In h) (T : OwnTail h bmV bm) (hC : h.get? C = some (excClassObj nm q C N bs bm true sn sub ab col dd k0 k1 k2 k3 k5 newId))
    (hsa : findIn K (.ref C) "__setattr__" = some (some (.builtin "object.__setattr__"))) (hna : findIn K (.ref C) name = some none) (hx : h.get? x = some o) (hc : o.cls = .ref C) (hdn : o.dict = none) (hnc : ∀ c, o.data ≠ .cls c)
    (hq : ∀ h' dx tk', h.get? dx = none → dx ≠ x → h.objs.size ≤ dx → h'.get? x = some { o with dict := some dx } → h'.Ns1 dx (fun y => if y = name then some v else none) → (∀ b ob, b ≠ x → h.get? b = some ob → h'.get? b = some ob) → Q () ⟨h', g, d, tk', os⟩) :
    wpAny (model prog w) A (setAttr (.ref x) name v) Q E ⟨h, g, d, t, os⟩ := by
  have SF := PySem.F.store_ValueError
  have f3 := SF.slot.bind (.ref x)
  have L1 := looks_findIn (M := model prog w) KX hsa
  have L2 := looks_findIn (M := model prog w) KX hna
  have hpass := SF.passes (.ref x)
  have hcB : (Value.ref C :: bm).contains (.type "object") = true := by rw [List.contains_cons, T.hasType SF.hasOwner, Bool.or_true]
  unfold setAttr callSpecial? specialOf
  repeat (any_goals (first | assumption | (with_reducible refine wpAny_loadPart_at hx ?_; rw [hc]) | with_reducible refine L1.at ?_ | wp_step))
  refine codeAny_call_builtin SF.slot.plain SF.entry ?_
  have core : wpAny (model prog w) A.in1 (Builtin.«object.__setattr__» ⟨[.ref x, .str name t, v], []⟩) (fun fin s' => fin = .done (.ret .none) ∧ Q () s') (fun _ _ => False) ⟨h, g, d, t + 1, os⟩ := by
    unfold Builtin.«object.__setattr__»
    repeat (first | rw [refuse_eq] | (rw [refuseLoop_ref, refuse_tail T, hpass]) | (with_reducible refine wpAny_loadPart_at hx ?_; rw [hc]) | with_reducible refine wpAny_mroOf_exc hC ?_ | with_reducible refine L2.at ?_ | wp_step)
    rw [hdn, if_neg (by simp [typeHasDict])]
    split
    · rename_i hcd
      cases hcd
    split
    · rename_i c hcd
      exact absurd hcd (hnc c)
    · have hx₁ : (h.push { cls := .type "dict", data := .dict #[] }).get? x = some o := Heap.get?_push_of_some _ hx
      have hxs : x ≠ h.objs.size := Nat.ne_of_lt (Heap.lt_size hx)
      refine wpAny_bind (wpAny_alloc' ?_)
      refine wpAny_bind (wpAny_update' hx₁ ?_)
      refine wpAny_pure ?_
      have hgd : ((h.push { cls := .type "dict", data := .dict #[] }).update x fun o => { cls := o.cls, dict := some h.objs.size, data := o.data, slots := o.slots }).get? h.objs.size
          = some { cls := .type "dict", data := .dict #[] } :=
        (Heap.get?_update_ne _ _ _ _ hxs.symm).trans (Heap.get?_push_at rfl rfl)
      have hnd : ((h.push { cls := .type "dict", data := .dict #[] }).update x fun o => { cls := o.cls, dict := some h.objs.size, data := o.data, slots := o.slots }).Ns h.objs.size (fun _ => none) :=
        ⟨_, #[], _, hgd, rfl, fun e he => absurd he (by simp), fun _ => rfl⟩
      show wpAny _ _ (storeInDict h.objs.size (.str name t) name v) _ _ _
      unfold storeInDict newKeyGuard
      refine wpAny_bind (wpAny_pure (wpAny_bind (wpAny_nsSet1 (Heap.Ns1.of_empty hnd) fun h' hn' hs => ?_)))
      obtain ⟨oD, esD, epD, hoD, hdD, hcD⟩ := hn'.count (Within.cons name v Within.nil)
      refine wpAny_bind (wpAny_lookBehind hoD (by rw [hdD]; exact pastItsLine_dict (Nat.le_trans hcD (by rw [List.length_cons, List.length_nil, sizeLine_eq]; omega))) ?_)
      wp_walk
      refine ⟨rfl, hq h' h.objs.size _ (Heap.get?_none_of_le (Nat.le_refl _)) hxs.symm (Nat.le_refl _) ?_ hn' fun b ob hbx hb => ?_⟩
      · refine (hs.2 x hxs).trans (Heap.get?_update_self _ hx₁ ?_)
        have hfr := (Heap.get?_some_iff.mp hx).2
        obtain ⟨oc, od, odt, osl⟩ := o
        cases odt <;> first | rfl | exact hfr
      · exact (hs.2 b (Nat.ne_of_lt (Heap.lt_size hb))).trans ((Heap.get?_update_ne _ _ _ _ hbx).trans (Heap.get?_push_of_some _ hb))
  refine check_osa T hC hx hc (wpAny_mono core (fun fin s' ⟨z1, z2⟩ => ?_) fun _ _ z => z.elim)
  subst z1
  repeat (any_goals (first | assumption | wp_step))
end
end L2
set_option Elab.async false
set_option linter.all false
set_option maxRecDepth 100000
namespace L2
open PySem PySem.Spec PyProof.Rows PySem.W
def exI (e C : Addr) (od : Option Addr) : Heap → Prop := fun h => ∃ t, h.get? e = some { cls := .ref C, dict := od, data := .fields #[.ref t, .none, .none, .none, .bool false, .none] }
theorem exI.ok {P : Program} {w : World} {H : Hp} {h : Heap} {e C : Addr} {od : Option Addr} (q : exI e C od h) : ObjOk P w H h e (.ext (exI e C od)) :=
  ⟨q, let ⟨t, g⟩ := q; ⟨_, g⟩, fun h1 h2 ⟨t, g⟩ k => ⟨t, k _ g⟩⟩
def excInI (K : PySem.W.Frag) (C fI : Addr) : Bool := match K.lookup C with
  | some ⟨.type "type", _, .cls cd, sl⟩ => (match cd.mro, sl.toList with
    | .ref C' :: bm, [_, _, _, _, some (.builtin n), _] => C' == C && n == "ValueError.__new__" && !cd.hasDel && PySem.W.tailIn K bmV bm && PySem.W.nsOkIn K cd.ns && PySem.W.nsIn K cd.ns "__init__" == some (some (.ref fI)) && cd.hasDict
    | _, _ => false)
  | _ => false
structure OwnI (C fI : Addr) (h : Heap) : Prop where
  obj : ∃ bm N nm q bs sn sub ab col dd k0 k1 k2 k3 k5 mN, h.get? C = some (excClassObj nm q C N bs bm true sn sub ab col dd k0 k1 k2 k3 k5 "ValueError.__new__") ∧ h.Ns N mN ∧ mN "__init__" = some (.ref fI) ∧ OwnTail h bmV bm
theorem ns_some_of {K : PySem.W.Frag} {h : Heap} {N : Addr} {mg : Str → Option Value} {n : Str} {v : Value} (X : K.In h) (G : h.Ns N mg) (e : nsIn K N n = some (some v)) : mg n = some v := by
  obtain ⟨o, es, ep, ho, hd, _, hf⟩ := G
  unfold nsIn at e
  split at e
  · rename_i c d es' n' sl q
    have := X _ _ q
    rw [ho] at this
    cases this
    cases hd
    split at e
    · rename_i en he
      cases e
      rw [← hf]
      unfold nsFind findBy
      rw [← Array.find?_toList, he]
      rfl
    · split at e <;> cases e
  · cases e
theorem own_ini {K : PySem.W.Frag} {h : Heap} {C fI : Addr} (KX : K.In h) (q : excInI K C fI = true) : OwnI C fI h := by
  unfold excInI at q
  split at q
  next dd cd sl lk =>
    split at q
    next C' bm k0 k1 k2 k3 n k5 em es =>
      simp only [Bool.and_eq_true, beq_iff_eq, Bool.not_eq_true'] at q
      obtain ⟨⟨⟨⟨⟨⟨rfl, rfl⟩, nd⟩, tl⟩, nk⟩, ni⟩, hd⟩ := q
      obtain ⟨a1, a2, a3, a4, a5, a6, a7, a8, a9, a10, a11⟩ := cd
      obtain ⟨l⟩ := sl
      dsimp only at em nd nk ni es hd
      subst em nd es hd
      exact ⟨bm, a4, a1, a5, a2, a7, a8, a9, a10, dd, k0, k1, k2, k3, k5, _, KX _ _ lk, .of_isNs (PySem.W.isNs_of_in KX nk), ns_some_of KX (.of_isNs (PySem.W.isNs_of_in KX nk)) ni, PySem.W.tail_of_in KX tl⟩
    · cases q
  · cases q
structure BaseI (K : PySem.W.Frag) (D : Addr) : Prop where
  sp : specialIn K (.ref D) "__getattribute__" = some (some (.builtin "type.__getattribute__"))
  rd : readsIn K D (.type "type") = true
  fc : findCls K (.ref D) (.type "type") "__init__" = some (.val (.builtin "ValueError.__init__"))
structure ExcI (K : PySem.W.Frag) (C fI : Addr) (f : Str) : Prop where
  cl : excInI K C fI = true
  fn : typeIn K (.ref fI) = some (.type "function")
  sa : findIn K (.ref C) "__setattr__" = some (some (.builtin "object.__setattr__"))
  na : findIn K (.ref C) f = some none
section
variable {X : Cx} {pins : List (Addr × Obj)} {σ σ1 : St} {H H1 : Hp} {s s1 : Shared} {h' : Heap} {e C : Addr}
theorem Inv.track2 {o : HO} (I : Inv X pins σ H s) (ue : H e = none) (y0 : X.s₀.heap.get? e = none) (nL : X.env.locals ≠ e) (nC : ∀ x c, X.env.cells.lookup x = some c → c ≠ e) (nP : ∀ p ∈ X.pn ++ pins, p.1 ≠ e) (new : ObjOk X.prog X.w (upd H e o) s.heap e o) : Inv X pins σ (upd H e o) s := by
  have ne : ∀ {b : Addr} {o : HO}, H b = some o → b ≠ e := fun z w => by rw [w, ue] at z; cases z
  have n0 : ∀ b o, X.s₀.heap.get? b = some o → b ≠ e := fun b o q z => by rw [z, y0] at q; cases q
  refine ⟨I.ok, I.os, I.bare, ⟨I.base.keep, I.base.slot, fun b o q n x => ?_, I.base.there, fun b xs q => ?_, fun b o u q => ?_, fun b ps q => ?_⟩, I.loc, I.cell, ?_, fun x c q => ?_, fun p hp' => ?_, fun a o q => ?_, I.len⟩
  · rw [upd_ne (n0 b o q)]; exact I.base.free b o q n x
  · have := I.base.tups b xs q
    rw [upd_ne (ne this)]; exact this
  · have := I.base.frzs b o u q
    rw [upd_ne (ne this)]; exact this
  · obtain ⟨more, this⟩ := I.base.tbls b ps q
    exact ⟨more, by rw [upd_ne (ne this)]; exact this⟩
  · rw [upd_ne nL]; exact I.free
  · rw [upd_ne (nC x c q)]; exact I.freeC x c q
  · obtain ⟨p1, p2, p3, p4, p5⟩ := I.pin p hp'
    exact ⟨p1, by rw [upd_ne (nP p hp')]; exact p2, p3, p4, p5⟩
  · by_cases z : a = e
    · subst z
      rw [upd_same] at q
      cases q
      exact new
    · rw [upd_ne z] at q
      exact (I.hok a o q).stay (fun _ _ _ w => w) (fun b w => by rw [upd_ne (ne w)]; exact w) fun b xs w => by rw [upd_ne (ne w)]; exact w
def rm (H : Hp) (e : Addr) : Hp := fun b => if b = e then none else H b
theorem rm_same : rm H e e = none := by unfold rm; rw [if_pos rfl]
theorem rm_ne {b : Addr} (h : b ≠ e) : rm H e b = H b := by unfold rm; rw [if_neg h]
theorem Inv.untrack {φ : Heap → Prop} (I : Inv X pins σ H s) (he : H e = some (.ext φ)) (y0 : X.s₀.heap.get? e = none) : Inv X pins σ (rm H e) s := by
  have ne : ∀ {b : Addr} {o : HO}, H b = some o → (∀ φ, o ≠ .ext φ) → b ≠ e := fun z n w => by rw [w, he] at z; cases z; exact n _ rfl
  have nn : ∀ b, H b = none → rm H e b = none := fun b z => by unfold rm; split <;> first | rfl | exact z
  refine ⟨I.ok, I.os, I.bare, ⟨I.base.keep, I.base.slot, fun b o q n x => nn b (I.base.free b o q n x), I.base.there, fun b xs q => ?_, fun b o u q => ?_, fun b ps q => ?_⟩, I.loc, I.cell, nn _ I.free, fun x c q => nn _ (I.freeC x c q), fun p hp' => ?_, fun a o q => ?_, I.len⟩
  · have := I.base.tups b xs q
    rw [rm_ne (ne this fun _ z => nomatch z)]; exact this
  · have := I.base.frzs b o u q
    rw [rm_ne (ne this fun _ z => nomatch z)]; exact this
  · obtain ⟨more, this⟩ := I.base.tbls b ps q
    exact ⟨more, by rw [rm_ne (ne this fun _ z => nomatch z)]; exact this⟩
  · obtain ⟨p1, p2, p3, p4, p5⟩ := I.pin p hp'
    exact ⟨p1, nn _ p2, p3, p4, p5⟩
  · by_cases z : a = e
    · subst z; rw [rm_same] at q; cases q
    · rw [rm_ne z] at q
      exact (I.hok a o q).stay (fun _ _ _ w => w) (fun b w => by rw [rm_ne (ne w fun _ z => nomatch z)]; exact w) fun b xs w => by rw [rm_ne (ne w fun _ z => nomatch z)]; exact w
theorem upd_id {o : HO} (h : H e = some o) : upd H e o = H := by
  funext b; unfold upd; split
  · rename_i z; rw [z, h]
  · rfl
end
section
variable {X : Cx} {C D : Addr} {y f : Str} {np apos cpos pos pos' sp : Pos} {e text value : Expr} {es : List Expr} {t : TA} {tv : TE}
def rBI (C : Addr) : List V → Hp → VK → Prop := fun vs H Q => ∃ e od x, vs = [.ref e, x] ∧ H e = some (.ext (exI e C od)) ∧ Q .non H
theorem pe_binit {pl : Sem Bool} (B : BaseI X.K D) (hc : excAny X.K C = true) (hm : X.mg y = some (.ref D)) (ha : PA X (e :: es) t) (hg : Gl X y := by rfl) (hdb : (y == ("__debug__" : Str)) = false := by decide)
    (hst : starEach (e :: es) X.env = (false, eval e X.env) :: starEach es X.env := by rfl) (hpl : (backTo cpos (starEach es X.env)).any (·.1) = false := by rfl)
    (ht : eval (.Call (.Attribute (.Name y np) "__init__" apos) (e :: es) [] cpos) X.env = (do
      let ov ← eval (.Name y np) X.env
      standAt apos.atName
      let (f, first) ← holding [ov] (getMethod ov "__init__" pl)
      callWith cpos f first (backTo cpos (starEach (e :: es) X.env)) (backToKw cpos (keywordEach [] X.env))) := by rfl) :
    PE X (.Call (.Attribute (.Name y np) "__init__" apos) (e :: es) [] cpos) (fun σ H Q => t σ H fun vs H1 => rBI C vs H1 Q) := by
  intro pins s σ H Q I h
  refine PySem.W.methodCall_KW (pl := pl) (ld_glob I hg hm ?_ hdb) ht
  refine method_cls I.kIn B.sp (cls_value I.kIn B.rd B.fc rfl ?_)
  have hA := ha cpos pins _ σ H _ (I.tok (s.toks + 1)) h
  rw [hst] at hA ⊢
  refine Calls.callWith_builtin (by show (false || (backTo cpos (starEach es X.env)).any (·.1)) = false; rw [hpl] <;> rfl) (Calls.evalArgs_plain ?_)
  refine thn hA fun us s2 ⟨vs, H2, I2, r, q⟩ => ?_
  obtain ⟨e', od, x, rfl, he, hq⟩ := q
  obtain ⟨t0, ge⟩ := (I2.hok e' _ he).1
  obtain ⟨bm, N, nm, q, bs, hdct, sn, sub, ab, col, dd, k0, k1, k2, k3, k5, hC, T⟩ := (ecls I2.kIn hc).obj
  cases r with
  | cons r1 rr =>
    cases rr with
    | cons r2 rr =>
      cases rr
      cases (show _ = Value.ref e' from r1)
      obtain ⟨hh, g, d, tk, os⟩ := s2
      refine base_init T hC ge fun h' k hx => ⟨.non, H2, ?_, rfl, hq⟩
      have := I2.write (x := e') (e := e') (o := .ext (exI e' C od)) (t' := tk) (h' := h') (by rw [he]; exact True.intro) (.inl rfl) (fun b u ne z => k b u ne z) (let ⟨t1, g1⟩ := hx; ⟨_, g1⟩) (exI.ok hx)
      rw [upd_id he] at this
      exact this
def sXF (C : Addr) (tv : TE) (i : Nat) (f : Str) : TS := fun D σ H => tv σ H fun y H1 => ∃ e, σ[i]? = some (some (.ref e)) ∧ H1 e = some (.ext (exI e C none)) ∧
  ∀ dx, H1 dx = none → dx ≠ e → D.nx σ (upd (upd H1 e (.ext (exI e C (some dx)))) dx (.xd [(f, y)]))
theorem ps_setx {i : Nat} {sn : Str} {fI : Addr} (c : ExcI X.K C fI f) (hv : PE X value tv) (hi : PE X (.Name sn sp) (tVar i)) (hs : swapsWith value (some (.Attribute (.Name sn sp) f pos')) pos.line X.env = pure false := by rfl) :
    PS X (.Assign [.Attribute (.Name sn sp) f pos'] value pos) (sXF C tv i f) := by
  intro pins s σ H D I h
  refine plainObj_wpAny_Assign_Attribute (thn (hv pins s σ H _ I h) fun u s1 ⟨yv, H1, I1, ry, e, e1, e2, q⟩ => thn (hi pins s1 σ H1 (fun x H2 => x = .ref e ∧ H2 = H1) I1 ⟨.ref e, e1, rfl, rfl⟩) fun ov s2 ⟨x, H2, I2, rx, ex, eH⟩ => ?_) hs
  subst ex eH
  obtain rfl : ov = Value.ref e := rx
  obtain ⟨t0, ge⟩ := (I2.hok e _ e2).1
  obtain ⟨bm, N, nm, q', bs, sn', sub, ab, col, dd, k0, k1, k2, k3, k5, mN, hC, hN, _, T⟩ := (own_ini I2.kIn c.cl).obj
  obtain ⟨hh, g, d, tk, os⟩ := s2
  refine set_exc I2.kIn T hC c.sa c.na ge rfl rfl (fun _ z => nomatch z) fun h' dx tk' hn ne hz gx nx k => ?_
  have ud : H2 dx = none := I2.hok.fresh hz
  have I3 := I2.write (x := e) (e := e) (o := .ext (exI e C (some dx))) (t' := tk') (h' := h') (by rw [e2]; exact True.intro) (.inl rfl) (fun b u ne z => k b u ne z) ⟨_, gx⟩ (exI.ok ⟨t0, gx⟩)
  have sz0 : X.s₀.heap.objs.size ≤ dx := Nat.le_trans I2.sz hz
  have ge' : ∀ b o, hh.get? b = some o → b ≠ dx := fun b o z w => by rw [w, hn] at z; cases z
  have I4 := I3.track2 (e := dx) (o := .xd [(f, yv)]) (by rw [upd_ne ne]; exact ud) (Heap.get?_none_of_le sz0)
    (fun z => by obtain ⟨m1, ⟨o1, _, _, ho1, _⟩, _⟩ := id I2.loc; exact ge' _ _ ho1 z)
    (fun x c q z => by obtain ⟨v, o1, ho1, _⟩ := I2.cell x c q; exact ge' _ _ ho1 z)
    (fun p hp z => ge' _ _ (I2.pin p hp).1 z) ⟨_, nx, fun g => ?_⟩
  · exact ⟨σ, _, I4, q dx ud ne⟩
  · show RelO (List.lookup g [(f, yv)]) (if g = f then some u else none)
    by_cases z : g = f
    · rw [if_pos z]
      have hb : (g == f) = true := beq_iff_eq.mpr z
      simp only [List.lookup, hb]
      exact ry
    · rw [if_neg z]
      have hb : (g == f) = false := beq_eq_false_iff_ne.mpr z
      simp only [List.lookup, hb]
      trivial
end
end L2
set_option Elab.async false
set_option linter.all false
set_option maxRecDepth 100000
namespace L2
open PySem PySem.Spec PyProof.Rows PySem.W
section
variable {X : Cx} {R : VK} {C fI : Addr} {f x : Str}
end
def spIP (C : Addr) (f : Str) : Sp := fun vs H Q _ => ∃ e, ∃ n : Nat, vs = [.ref e, .int n] ∧ n < 10000000000000000000000000000000000000000000000000000000000000000000000 ∧ H e = some (.ext (exI e C none)) ∧ ∀ dx, H dx = none → dx ≠ e → Q .non (upd (upd H e (.ext (exI e C (some dx)))) dx (.xd [(f, .int n)]))
def spIL (K : PySem.W.Frag) (C : Addr) (f : Str) : Sp := fun vs H Q _ => ∃ e p xs, vs = [.ref e, .ref p] ∧ H e = some (.ext (exI e C none)) ∧ SqL K H p xs ∧
  ∀ l dx, H l = none → H dx = none → dx ≠ l → dx ≠ e → l ≠ e → Q .non (upd (upd (upd H l (.lst xs)) e (.ext (exI e C (some dx)))) dx (.xd [(f, .ref l)]))
theorem tn3 : ∀ k : Nat, k < 10000000000000000000000000000000000000000000000000000000000000000000000 → (toString (k : Int) : Str).length ≤ 70 := fun k h => toString_length_le (v := (k : Int)) (k := 70) (by omega) (by decide) (by omega)
theorem lg200 {k : Nat} (h : k < 10000000000000000000000000000000000000000000000000000000000000000000000) : (k : Int).natAbs.log2 < 1920 := by
  rw [Int.natAbs_natCast]
  by_cases h0 : k = 0
  · subst h0; decide
  · have := (Nat.log2_lt h0).mpr (show k < 2 ^ 233 by omega)
    omega
section
variable {K : PySem.W.Frag} {C : Addr} {f : Str} {pr : Nat → Bool} {t0 : TE} {a0 : AE}
theorem rm_upd2 {H : Hp} {e dx : Addr} {o o1 o2 : HO} (he : H e = none) (ne : dx ≠ e) : rm (upd (upd (upd H e o) e o1) dx o2) e = upd H dx o2 := by
  funext b
  unfold rm upd
  by_cases z : b = e
  · subst z; rw [if_pos rfl, if_neg (Ne.symm ne), he]
  · rw [if_neg z]
    by_cases w : b = dx
    · rw [if_pos w, if_pos w]
    · rw [if_neg w, if_neg w, if_neg z, if_neg z]
end
end L2
set_option Elab.async false
set_option linter.all false
set_option maxRecDepth 100000
namespace L2
open PySem PySem.Spec PyProof.Rows PySem.W
section
variable {prog : Program} {w : World} {A : Around} {E : Value → Shared → Prop} {s : Shared} {K : PySem.W.Frag} {x D : Addr} {ox : Obj} {odo : Option Obj}
theorem get_exc {name : Str} {v : Value} {Q : Value → Shared → Prop} (KX : K.In s.heap) (I : PySem.W.InstAt s.heap x ox D odo) (hga : findIn K (.ref D) "__getattribute__" = some (some (.builtin "BaseException.__getattribute__"))) (hgn : findIn K (.ref D) "__getattr__" = some none)
    (hf : findObj K D odo name = some (.value v)) (hb : subIn K (.ref D) (.type "BaseException") = some true) (hh : handedIn v = true)
    (h : Q v { s with toks := s.toks + 1 }) : wpAny (model prog w) A (getAttr (.ref x) name true) Q E s := by
  obtain ⟨hp, g, d, t, os⟩ := s
  have L0 := I.type (M := model prog w)
  have L1 := looks_findIn (M := model prog w) KX hga
  have L2 := looks_findIn (M := model prog w) KX hgn
  have L3 := looks_find (M := model prog w) KX I hf
  have L4 := looks_subIn (M := model prog w) KX hb
  have f3 := PySem.F.excAttr_ValueError.ga.bind (.ref x)
  have hk : builtinKind "BaseException.__getattribute__" = some .slot := by decide +kernel
  have hsp : splitId "BaseException.__getattribute__" = some ("BaseException", "__getattribute__") := by decide +kernel
  have ha := PySem.F.args_bexc_ga (.ref x) (.str name t)
  unfold getAttr getAttrBy
  refine wpAny_bind (wpAny_mkText (wpAny_holding (wpAny_bind (L0.at (wpAny_bind (L1.at ?_))))))
  show wpAny _ _ (getAttrByItsOwn _ _ _ _ _ _) _ _ _
  unfold getAttrByItsOwn
  repeat (any_goals (first | assumption | with_reducible refine L0.at ?_ | with_reducible refine L1.at ?_ | with_reducible refine L2.at ?_ | wp_step))
  refine codeAny_call_builtin PySem.F.excAttr_ValueError.ga.plain PySem.F.entry_bexc_ga ?_
  simp only [checkBuiltinCall, hk, hsp]
  refine wpAny_bind ?_
  unfold isInstance
  repeat (any_goals (first | assumption | with_reducible refine L0.at ?_ | with_reducible refine L4.at ?_ | with_reducible refine L3.at ?_ | wp_step))
  show wpAny _ _ (handedOut v) _ _ _
  exact handed_on hh h
end
structure ExG (K : PySem.W.Frag) (C : Addr) (f : Str) : Prop extends ExIs K C where
  na : findIn K (.ref C) f = some none
  hd : hasDictIn K C = true
def tXFld (K : PySem.W.Frag) (ta : TE) (f : Str) : TE := fun σ H Q => ta σ H fun x H1 => ∃ e C dx fs v, x = .ref e ∧ H1 e = some (.ext (exP e C (some dx))) ∧ H1 dx = some (.xd fs) ∧ fs.lookup f = some v ∧ ExG K C f ∧ Q v H1
section
variable {X : Cx} {e : Expr} {ta : TE} {f : Str} {pos : Pos} {K : PySem.W.Frag}
theorem look_ns {h : Heap} {dx : Addr} {o : Obj} {mA : Str → Option Value} {n : Str} {u : Value} (hN : h.Ns1 dx mA) (ho : h.get? dx = some o) (hu : mA n = some u) : lookIn n o = some (some u) := by
  obtain ⟨o', es, ep, ho', hd, _, _, hf⟩ := hN
  rw [ho] at ho'
  cases ho'
  unfold lookIn
  rw [hd]
  dsimp only
  have q := hf n
  rw [hu] at q
  unfold nsFind findBy at q
  rw [← Array.find?_toList] at q
  obtain ⟨en, q1, q2⟩ := Option.map_eq_some_iff.mp q
  rw [q1]
  dsimp only
  rw [q2]
theorem pe_xfld (he : PE X e ta) (hb : attributeBase e f X.env (eval e X.env) = eval e X.env := by rfl) : PE X (.Attribute e f pos) (tXFld X.K ta f) := by
  intro pins s σ H Q I h
  refine attr_of hb (thn (he pins s σ H _ I h) fun u s1 ⟨x, H1, I1, rx, a, C, dx, fs, v, ex, ea, ed, l, g, q⟩ => ?_)
  subst ex
  obtain rfl : u = Value.ref a := rx
  obtain ⟨⟨oe, vs, ge, gc, gd, gf⟩, _, _⟩ := I1.hok a _ ea
  obtain ⟨mA, hN, r⟩ := I1.hok dx _ ed
  obtain ⟨od, _, _, ho, _⟩ := id hN
  obtain ⟨u, hu, ru⟩ := RelO.some_of (v := v) (o := mA f) (by rw [← l]; exact r f)
  have it : PySem.W.InstAt s1.heap a oe C (some od) := ⟨ge, gc, by unfold notCls; rw [gf], by rw [gd]; exact ho⟩
  obtain ⟨cd, hcd, hcd2⟩ := any_some g.hd
  refine get_exc I1.kIn it g.ga g.gn (v := u) ?_ g.be (handed_of ru) ⟨v, H1, I1.tok _, ru, q⟩
  unfold findObj PySem.W.ownOf
  rw [hcd, Option.bind_some, g.na, Option.bind_some]
  simp only [Option.bind_some, hcd2, if_pos]
  rw [look_ns hN ho hu]
  rfl
theorem look_rep {Hh : Hp} {f : Str} {d : D} : ∀ {ks : List (Str × V)} {fs : List (Str × D)}, ks.map Prod.fst = fs.map Prod.fst → RepDs K Hh (ks.map Prod.snd) (fs.map Prod.snd) → fs.lookup f = some d → ∃ v, ks.lookup f = some v ∧ RepD K Hh v d
  | [], [], _, _, h => by cases h
  | (k, v) :: ks, (g, d') :: fs, e, r, h => by
    simp only [List.map_cons, List.cons.injEq] at e
    obtain ⟨e1, e2⟩ := e
    simp only [List.map_cons] at r
    unfold RepDs at r
    subst e1
    simp only [List.lookup] at h ⊢
    split at h
    · rename_i q; cases h; exact ⟨v, rfl, r.1⟩
    · rename_i q; exact look_rep e2 r.2 h
  | [], _ :: _, e, _, _ => by cases e
  | _ :: _, [], e, _, _ => by cases e
end
end L2
set_option Elab.async false
set_option linter.all false
set_option maxRecDepth 100000
namespace L2
open PySem PySem.Spec PyProof.Rows PySem.W
def clsFn : Stmt → Stmt
  | .ClassDef _ _ _ (st :: _) _ _ _ _ _ _ _ => st
  | _ => .Pass ⟨0, 0, 0, 0⟩
structure InitN (K : PySem.W.Frag) (C fI : Addr) (f qual : Str) (st : Stmt) (ps : List Str) : Prop where
  xi : ExcI K C fI f
  fn : ∃ fd, Fun K "__init__" qual st fI fd ∧ ∀ us : List Value, us.length = ps.length → bindArgs fd ⟨us, []⟩ = pure (ps.zip us)
theorem initN_mk {K : PySem.W.Frag} {C fI : Addr} {f qual : Str} {st : Stmt} {ps : List Str} {oc : Value} {od an : Option Addr} {osl : Array (Option Value)} {kV doc pm cdv ct : Value} (i : findIn K (.ref C) "__init__" = some (some (.ref fI)))
    (l : K.lookup fI = some ⟨oc, od, .func (PySem.W.fnOf "__init__" qual (defArgs st) (defBody st) (defScope st) .none kV doc pm an cdv ct), osl⟩) (c : PySem.W.codeIn K cdv qual = true) (k : PySem.W.keepIn K (.ref fI) = true)
    (cl : excInI K C fI = true) (fn : typeIn K (.ref fI) = some (.type "function")) (sa : findIn K (.ref C) "__setattr__" = some (some (.builtin "object.__setattr__"))) (na : findIn K (.ref C) f = some none)
    (hb : ∀ (kV doc pm : Value) (an : Option Addr) (cdv ct : Value) (us : List Value), us.length = ps.length → bindArgs (PySem.W.fnOf "__init__" qual (defArgs st) (defBody st) (defScope st) .none kV doc pm an cdv ct) ⟨us, []⟩ = pure (ps.zip us)) : InitN K C fI f qual st ps :=
  ⟨⟨cl, fn, sa, na⟩, _, fun_mk l c k, fun us hl => hb kV doc pm an cdv ct us hl⟩
theorem excAny_ofI {K : PySem.W.Frag} {C fI : Addr} (q : excInI K C fI = true) : excAny K C = true := by
  unfold excInI at q
  unfold excAny
  split at q
  next dd cd sl lk =>
    try rw [lk]
    split at q
    next C' bm k0 k1 k2 k3 n k5 em es =>
      simp only [Bool.and_eq_true, beq_iff_eq, Bool.not_eq_true'] at q
      obtain ⟨⟨⟨⟨⟨⟨rfl, rfl⟩, nd⟩, tl⟩, nk⟩, ni⟩, hd⟩ := q
      first | (simp [em, es, nd, tl]; done) | simp_all
    · cases q
  · cases q
theorem j3 {σ : St} {H : Hp} {Q : VK} {a c : Str} {n i : Nat} (ha : a.length ≤ 1000) (hc : c.length ≤ 1000) (hn : n < 10000000000000000000000000000000000000000000000000000000000000000000000) (hv : σ[i]? = some (some (.int n))) (h : ∀ t, Q (.str t) H) : jCons (tC (.str a)) (jCons (tFmt (tVar i)) (jCons (tC (.str c)) jNil)) Str.empty σ H Q := by
  have t3 := tn3 n hn
  have l0 : Str.empty.length = 0 := rfl
  have e1 : (Str.empty ++ a).length ≤ 1000 := by rw [Str.length_append, l0]; omega
  have e2 : (Str.empty ++ a ++ (toString (n : Int) : Str)).length ≤ 1070 := by rw [Str.length_append]; omega
  have e3 : (Str.empty ++ a ++ (toString (n : Int) : Str) ++ c).length ≤ 2070 := by rw [Str.length_append]; omega
  refine ⟨_, rfl, by rw [sizeLine_eq]; omega, .int n, hv, n, rfl, lg200 hn, _, rfl, by rw [sizeLine_eq]; omega, _, rfl, by rw [sizeLine_eq]; omega, by rw [sizeLine_eq]; omega, h _⟩
theorem j2 {σ : St} {H : Hp} {Q : VK} {a : Str} {n i : Nat} (ha : a.length ≤ 1000) (hn : n < 10000000000000000000000000000000000000000000000000000000000000000000000) (hv : σ[i]? = some (some (.int n))) (h : ∀ t, Q (.str t) H) : jCons (tC (.str a)) (jCons (tFmt (tVar i)) jNil) Str.empty σ H Q := by
  have t3 := tn3 n hn
  have l0 : Str.empty.length = 0 := rfl
  have e1 : (Str.empty ++ a).length ≤ 1000 := by rw [Str.length_append, l0]; omega
  have e2 : (Str.empty ++ a ++ (toString (n : Int) : Str)).length ≤ 1070 := by rw [Str.length_append]; omega
  refine ⟨_, rfl, by rw [sizeLine_eq]; omega, .int n, hv, n, rfl, lg200 hn, _, rfl, by rw [sizeLine_eq]; omega, by rw [sizeLine_eq]; omega, h _⟩
end L2
set_option Elab.async false
set_option linter.all false
set_option maxRecDepth 100000
namespace L2
open PySem PySem.Spec PyProof.Rows
section
variable {P : Program} {w : World} {A : Around} {R : Result → Shared → Prop} {s : Shared}
end
section
variable {Y : Cx}
end
section
variable {X : Cx}
end
end L2
set_option Elab.async false
set_option linter.all false
set_option maxRecDepth 100000
namespace L2
open PySem PySem.Spec PyProof.Rows
section
variable {K : PySem.W.Frag}
end
end L2
set_option Elab.async false
set_option linter.all false
set_option maxRecDepth 100000
namespace L2
open PySem PySem.Spec PyProof.Rows
section
variable {X : Cx} {K : PySem.W.Frag}
variable {e lo st : Expr} {te : TE} {tl ts : TO} {pos p2 : Pos}
end
section
variable {n2 n : Nat} {js : List Nat} {c : En → Prop} {g g2 : AG} {tc tc2 : AT} {i2 : AI} {te : AE}
end
end L2
set_option Elab.async false
set_option linter.all false
set_option maxRecDepth 100000
namespace L2
open PySem PySem.Spec PyProof.Rows
section
variable {M : Model} {A : Around} {E : Value → Value → Shared → Prop} {s : Shared} {base : Heap} {env : Env} {outer : List Env} {L e C : Addr} {oe : Obj} {vs : Array Value} {od : Option Addr}
end
section
variable {X : Cx} {pins : List (Addr × Obj)} {σ : St} {H : Hp} {s : Shared} {h0 : Heap} {e C : Addr} {od : Option Addr}
end
section
variable {P : Program} {w : World} {K : PySem.W.Frag} {mg : Str → Option Value} {base : Heap} {N : List Str} {qual : Str} {scope : Scope} {f : Addr} {cd : Value} {A : Around} {outer : List Env} {s0 : Shared} {H0 : Hp} {E : XK}
end
section
variable {X : Cx} {R : VK} {tg : Expr}
end
section
variable {P : Program} {w : World} {K : PySem.W.Frag} {mg : Str → Option Value} {base : Heap} {N : List Str} {qual : Str} {scope : Scope} {f : Addr} {cd : Value} {A : Around} {outer : List Env} {s0 : Shared} {H0 : Hp} {E : XK} {C : Addr} {fn : Option Str}
end
end L2
namespace L2
end L2
set_option Elab.async false
set_option linter.all false
set_option maxRecDepth 100000
namespace L2
open PySem PySem.Spec PyProof.Rows
abbrev EnO (h : Heap) (e it : Addr) (i : Int) (old : Value) (a : Addr) (f : Bool) : Prop :=
  h.get? e = some { cls := .type "enumerate", dict := none, data := .fields #[rawInt a, .bool f, .ref it, rawInt i, .none, old], slots := #[] }
section
variable {prog : Program} {w : World} {A : Around} {E : Value → Shared → Prop} {s : Shared}
def EnS (h : Heap) (e it : Addr) (i : Nat) (S : Addr) : Prop := (∃ old, IsEnum h e it i old) ∨ ∃ old a f oa, EnO h e it i old a f ∧ h.get? a = some oa ∧ a ≠ e ∧ a ≠ it ∧ a ≠ S
theorem EnS.keep {h h' : Heap} {e it S : Addr} {i : Nat} (x : EnS h e it i S) (hk : ∀ b o, b ≠ S → h.get? b = some o → h'.get? b = some o) (hS : e ≠ S) : EnS h' e it i S := by
  rcases x with ⟨old, he⟩ | ⟨old, a, f, oa, he, ha, h1, h2, h3⟩
  · exact .inl ⟨old, hk _ _ hS he⟩
  · exact .inr ⟨old, a, f, oa, hk _ _ hS he, hk _ _ h3 ha, h1, h2, h3⟩
theorem EnS.typeIs {e it S : Addr} {i : Nat} (x : EnS s.heap e it i S) : s.TypeIs (.ref e) "enumerate" := by
  rcases x with ⟨old, he⟩ | ⟨old, a, f, oa, he, _⟩
  · exact ⟨_, he, rfl⟩
  · exact ⟨_, he, rfl⟩
end
structure LeG (P : Nat → Value → Prop) (lo : Addr) (h : Heap) (as : List Addr) : Prop where
  rise : as.Pairwise (· < ·)
  above : ∀ a ∈ as, lo < a
  pairs : ∀ (j : Nat) (a : Addr), as[j]? = some a → ∃ tk x, P j x ∧ h.get? a = some { cls := .type "tuple", data := .seq #[.int j tk, x] }
theorem LeG.there {P : Nat → Value → Prop} {lo : Addr} {h : Heap} {as : List Addr} (g : LeG P lo h as) {a : Addr} (ha : a ∈ as) : a < h.objs.size := by
  obtain ⟨j, hj⟩ := List.mem_iff_getElem?.mp ha
  obtain ⟨_, _, _, e⟩ := g.pairs j a hj
  exact Heap.lt_size e
section
variable {prog : Program} {w : World} {A : Around} {s : Shared} {R : Result → Shared → Prop}
end
section
variable {prog : Program} {w : World} {A : Around} {E : Value → Shared → Prop} {s : Shared}
end
section
variable {K : PySem.W.Frag} {ts : TA} {as : AA}
end
end L2
set_option Elab.async false
set_option linter.all false
set_option maxRecDepth 100000
namespace L2
open PySem PySem.Spec PyProof.Rows
section
variable {P : Program} {w : World} {A : Around} {R : Result → Shared → Prop} {s : Shared}
end
section
variable {X : Cx}
end
section
variable {K : PySem.W.Frag}
end
section
variable {K : PySem.W.Frag} {F : Fr} {σ : St} {ρ : En} {H : Hp}
end
section
variable {K : PySem.W.Frag} {td : TE} {ad : AE}
end
end L2
set_option Elab.async false
set_option linter.all false
set_option maxRecDepth 100000
namespace L2
open PySem PySem.Spec PyProof.Rows
section
variable {prog : Program} {w : World} {A : Around} {E : Value → Shared → Prop} {s : Shared}
end
section
variable {K : PySem.W.Frag} {ts : TA} {as : AA}
end
end L2
set_option Elab.async false
set_option linter.all false
set_option maxRecDepth 100000
namespace L2
def fst1 (R : List Nat) (t : Nat) : Nat := R.idxOf (R.getD t 0)
def leanT (m : Nat) (f : Nat → Nat) : List (Nat × Nat) → Nat → (Nat → Bool) → Nat → Bool
  | [], _, M, t => M t
  | p :: r, k, M, t => leanT m f r (k + 1) M t || (leanT m f r (k + 1) M (m + k) && (t == f p.1 || t == f p.2))
section
variable {m : Nat} {f : Nat → Nat}
end
def nkT (m : Nat) (L : Nat → Bool) (k : Nat) : Nat := ((List.range k).filter fun j => L (m + j)).length
def nbT (m : Nat) (L : Nat → Bool) (t : Nat) : Nat := if t < m then t else m + nkT m L (t - m)
section
variable {m : Nat} {L : Nat → Bool}
end
section
variable {m : Nat} {f : Nat → Nat} {L : Nat → Bool} {js : List (Nat × Nat)}
end
structure Rws (N : Net) : Prop where
  ix : okIx N.m N.js
  ne : ∀ (i : Nat) (p : Nat × Nat), N.js[i]? = some p → (rowsN N).getD p.1 0 ≠ (rowsN N).getD p.2 0
def fT (N : Net) : Nat → Nat := fst1 (rowsN N)
def markT (N : Net) : Nat → Bool := leanT N.m (fT N) N.js 0 fun t => (N.os.map (fT N)).contains t
section
variable {N : Net}
end
abbrev nT (N : Net) : Nat → Nat := nbT N.m (markT N)
section
variable {N : Net} (R : Rws N) (ho : ∀ o ∈ N.os, o < N.m + N.js.length)
include R ho
end
end L2
set_option Elab.async false
set_option linter.all false
set_option maxRecDepth 100000
namespace L2
end L2
set_option Elab.async false
set_option linter.all false
set_option maxRecDepth 100000
namespace L2
end L2
set_option Elab.async false
set_option linter.all false
set_option maxRecDepth 100000
namespace L2
open PySem PySem.Spec PyProof.Rows
section
variable {K : PySem.W.Frag} {td ty tx tv tk : TE} {ad ay ax av ak : AE}
end
end L2
set_option Elab.async false
set_option linter.all false
set_option maxRecDepth 100000
namespace L2
open PySem PySem.Spec PyProof.Rows
end L2
set_option Elab.async false
set_option linter.all false
set_option maxRecDepth 100000
namespace L2
open PySem PySem.Spec PyProof.Rows
section
variable {K : PySem.W.Frag} {td : TE} {ad : AE}
end
end L2
set_option Elab.async false
set_option linter.all false
set_option maxRecDepth 100000
namespace L2
open PySem PySem.Spec PyProof.Rows
section
variable {X : Cx} (K : PySem.W.Frag)
end
section
variable {K : PySem.W.Frag} {td ty tx : TE} {ad ay ax : AE}
end
end L2
set_option Elab.async false
set_option linter.all false
set_option maxRecDepth 100000
namespace L2
open PySem PySem.Spec PyProof.Rows
section
variable {prog : Program} {w : World} {A : Around} {it : Addr} {own wr : List Addr} {len : Nat} {Pv : Nat → Value → Prop} {Sx : Nat → Heap → Prop} {Rz : Result → Shared → Prop}
end
section
variable {X : Cx} (K : PySem.W.Frag)
end
section
variable {K : PySem.W.Frag}
end
end L2
set_option Elab.async false
set_option linter.all false
set_option maxRecDepth 100000
namespace L2
open PySem PySem.Spec PyProof.Rows
section
variable {X : Cx} {o : Expr} {td : TE} {p pos : Pos}
end
section
variable {K : PySem.W.Frag} {td : TE} {ad : AE}
end
end L2
set_option Elab.async false
set_option linter.all false
set_option maxRecDepth 100000
namespace L2
open PySem PySem.Spec PyProof.Rows
section
variable {X : Cx} {a b c d : Expr} {ta tb tc td : TE} {pos : Pos}
end
section
variable {K : PySem.W.Frag} {ta tb tc td : TE} {a b c d : AE} {rr rr' rr'' : R2} {g g' g'' : R → R → AE}
end
end L2
set_option Elab.async false
set_option linter.all false
set_option maxRecDepth 100000
namespace L2
open PySem PySem.Spec PyProof.Rows
section
variable {P : Program} {w : World} {K : PySem.W.Frag} {mg : Str → Option Value} {base : Heap} {N : List Str} {qual : Str} {scope : Scope} {f : Addr} {cd : Value} {A : Around} {outer : List Env} {s0 : Shared} {H0 : Hp} {E : XK}
end
section
variable {X : Cx} {R : VK} {pos : Pos}
end
end L2
set_option Elab.async false
set_option linter.all false
set_option maxRecDepth 100000
namespace L2
open PySem PySem.Spec PyProof.Rows
section
variable {K : PySem.W.Frag} {td ty tx : TE} {ad ay ax : AE}
end
end L2
set_option Elab.async false
set_option linter.all false
set_option maxRecDepth 100000
namespace L2
open PySem PySem.Spec PyProof.Rows
section
variable {X : Cx} {R : VK} {E : XK} {C : Addr} {fn : Option Str} {K : PySem.W.Frag} {S : ASp}
end
end L2
set_option Elab.async false
set_option linter.all false
set_option maxRecDepth 100000
namespace L2
open PySem PySem.Spec PyProof.Rows
section
variable {X : Cx} (K : PySem.W.Frag)
end
section
variable {K : PySem.W.Frag} {ta te : TE} {a ae : AE} {ts : TA} {as : AA}
end
end L2
set_option Elab.async false
set_option linter.all false
set_option maxRecDepth 100000
namespace L2
open PySem PySem.Spec PyProof.Rows
section
variable {X : Cx}
end
section
variable {K : PySem.W.Frag} {te : TE} {ae : AE} {pr : Nat → Bool}
end
end L2
set_option Elab.async false
set_option linter.all false
set_option maxRecDepth 100000
namespace L2
open PySem PySem.Spec PyProof.Rows
section
variable {prog : Program} {w : World} {A : Around} {E : Value → Shared → Prop} {s : Shared}
end
end L2
set_option Elab.async false
set_option linter.all false
set_option maxRecDepth 100000
namespace L2
open PySem PySem.Spec PyProof.Rows
section
variable {M : Model} {A : Around} {E : Value → Shared → Prop} {s : Shared} {env : Env}
theorem cw_type_kw {pos : Pos} {T : String} {first : List Value} {args : List (Bool × Sem Value)} {keywords : List (Option Str × Sem Value)} {Q : Value → Shared → Prop}
    (hplain : args.any (·.1) = false) (hkw : keywords.any (·.1.isNone) = false)
    (h : wpAny M A (evalArgs (.type T) true args keywords) (fun a s₁ => wpAny M A (call (.type T) (first ++ a.pos) a.kw) Q E s₁) E s) :
    wpAny M A (callWith pos (.type T) first args keywords) Q E s := by
  unfold callWith
  refine wpAny_bind (wpAny_holding (wpAny_mono h (fun a s₁ h₁ => wpAny_bind (wpAny_standAt ?_)) fun _ _ x => x))
  simp only [hplain, hkw, Bool.or_false]
  refine wpAny_bind (wpAny_pure ?_)
  exact wpAny_bind (wpAny_mono h₁ (fun r s₂ hr => wpAny_bind (wpAny_holding (wpAny_point (wpAny_pure hr)))) fun _ _ x => x)
theorem cw_kwT {pos : Pos} {T : String} {e : Expr} {rest : List Expr} {kws : List Keyword} {Q : Value → Shared → Prop}
    (h : wpAny M A (spliced (backTo pos (starEach (e :: rest) env))) (fun vs s₁ => wpAny M A (evalAll ((backToKw pos (keywordEach kws env)).map (·.2)))
      (fun kvs s₂ => wpAny M A (call (.type T) vs (((backToKw pos (keywordEach kws env)).filterMap (·.1)).zip kvs)) Q E s₂) E s₁) E s)
    (he : backTo pos (starEach (e :: rest) env) = (false, eval e env) :: backTo pos (starEach rest env) := by rfl)
    (hplain : (backTo pos (starEach (e :: rest) env)).any (·.1) = false := by rfl)
    (hall : (backToKw pos (keywordEach kws env)).all (·.1.isSome) = true := by rfl)
    (hkw : (backToKw pos (keywordEach kws env)).any (·.1.isNone) = false := by rfl) :
    wpAny M A (callWith pos (.type T) [] (backTo pos (starEach (e :: rest) env)) (backToKw pos (keywordEach kws env))) Q E s := by
  refine cw_type_kw hplain hkw ?_
  rw [he] at h ⊢
  exact evalArgs_kwB hall h
end
section
variable {K : PySem.W.Frag} {ts : TA} {as : AA} {td : TE} {ad : AE}
end
end L2
set_option Elab.async false
set_option linter.all false
set_option maxRecDepth 100000
namespace L2
open PySem PySem.Spec PyProof.Rows
section
variable {X : Cx} (K : PySem.W.Frag)
def isNone : Value → Bool
  | .none => true
  | _ => false
end
section
variable {K : PySem.W.Frag}
end
end L2
set_option Elab.async false
set_option linter.all false
set_option maxRecDepth 100000
set_option maxHeartbeats 2000000
namespace L2
open PySem PySem.Spec PyProof.Rows
end L2
set_option Elab.async false
set_option linter.all false
set_option maxRecDepth 100000
namespace L2
open PySem PySem.Spec PyProof.Rows
end L2
set_option Elab.async false
set_option linter.all false
set_option maxRecDepth 100000
namespace L2
open PySem PySem.Spec PyProof.Rows
section
variable {X : Cx}
end
section
variable {K : PySem.W.Frag} {ta te : TE} {a ae : AE} {ts : TA} {as : AA}
def gIxS : R → R → AE := fun r1 r2 ρ q => match r1, r2 with
  | .d (.str z), .d (.int i) => ∃ c, 0 ≤ i ∧ i < 2 ^ 63 ∧ i < z.length ∧ z.cps[i.toNat]? = some c ∧ q (.d (.str ⟨#[c]⟩)) ρ
  | _, _ => False
theorem ook_ixS : OpOk K (fun x y H Q => ∃ z i c, x = .str z ∧ y = .int i ∧ 0 ≤ i ∧ i < 2 ^ 63 ∧ i < z.length ∧ z.cps[i.toNat]? = some c ∧ Q (.str ⟨#[c]⟩) H) gIxS := by
  intro F σ ρ H x y r1 r2 q Q a h1 h2 h b
  unfold gIxS at h
  split at h
  · obtain ⟨c, a1, a2, a3, a4, h⟩ := h
    exact ⟨_, _, c, h1.strv, h2.int, a1, a2, a3, a4, b.str a h⟩
  · exact h.elim
end
end L2
set_option Elab.async false
set_option linter.all false
set_option maxRecDepth 100000
namespace L2
open PySem PySem.Spec PyProof.Rows
section
variable {K : PySem.W.Frag} {te ta : TE} {ae a : AE} {ts : TA} {as : AA}
theorem RepDs.eraseIdx {H : Hp} : ∀ {vs : List V} {ds : List D} (n : Nat), RepDs K H vs ds → RepDs K H (vs.eraseIdx n) (ds.eraseIdx n)
  | [], [], n, _ => by simp; exact .nil
  | v :: vs, d :: ds, 0, h => by unfold RepDs at h; exact h.2
  | v :: vs, d :: ds, n + 1, h => by unfold RepDs at h; exact .cons h.1 (RepDs.eraseIdx n h.2)
  | [], d :: ds, n, h => by unfold RepDs at h; exact h.elim
  | v :: vs, [], n, h => by unfold RepDs at h; exact h.elim
end
end L2
set_option Elab.async false
set_option linter.all false
set_option maxRecDepth 100000
namespace L2
open PySem PySem.Spec PyProof.Rows
end L2
set_option Elab.async false
set_option linter.all false
set_option maxRecDepth 100000
namespace L2
open PySem
def Ris (xs : Array Nat) : Prop := xs.toList.Pairwise (· < ·)
theorem Ris.lt {xs : Array Nat} (h : Ris xs) {i k : Nat} (hk : k < xs.size) (hi : i < k) : xs[i]'(by omega) < xs[k] := by
  have := List.pairwise_iff_getElem.mp h i k (by simp; omega) (by simpa using hk) hi
  simpa using this
theorem below_go {xs : Array Nat} {j : Nat} (hr : Ris xs) : ∀ (f lo hi : Nat), hi - lo ≤ f → lo ≤ hi → hi ≤ xs.size → (∀ k (h : k < xs.size), k < lo → xs[k] < j) → (∀ k (h : k < xs.size), hi ≤ k → j ≤ xs[k]) →
    SetTable.below.go xs j f lo hi ≤ xs.size ∧ (∀ k (h : k < xs.size), k < SetTable.below.go xs j f lo hi → xs[k] < j) ∧ (∀ k (h : k < xs.size), SetTable.below.go xs j f lo hi ≤ k → j ≤ xs[k])
  | 0, lo, hi, hf, hl, hz, h1, h2 => by
    have : hi = lo := by omega
    subst this
    exact ⟨hz, h1, h2⟩
  | f + 1, lo, hi, hf, hl, hz, h1, h2 => by
    unfold SetTable.below.go
    by_cases hlt : lo < hi
    · rw [if_pos hlt]
      dsimp only
      have hm : (lo + hi) / 2 < xs.size := by omega
      have eg : xs.getD ((lo + hi) / 2) j = xs[(lo + hi) / 2] := by simp [Array.getD, hm]
      rw [eg]
      by_cases hc : xs[(lo + hi) / 2] < j
      · rw [if_pos hc]
        refine below_go hr f _ hi (by omega) (by omega) hz (fun k hk h => ?_) h2
        by_cases e : k = (lo + hi) / 2
        · subst e; exact hc
        · exact Nat.lt_trans (hr.lt hm (by omega)) hc
      · rw [if_neg hc]
        refine below_go hr f lo _ (by omega) (by omega) (by omega) h1 (fun k hk h => ?_)
        by_cases e : k = (lo + hi) / 2
        · subst e; omega
        · have := hr.lt hk (show (lo + hi) / 2 < k by omega)
          omega
    · rw [if_neg hlt]
      have : hi = lo := by omega
      subst this
      exact ⟨hz, h1, h2⟩
theorem below_ok {xs : Array Nat} {j : Nat} (hr : Ris xs) : SetTable.below xs j ≤ xs.size ∧ (∀ k (h : k < xs.size), k < SetTable.below xs j → xs[k] < j) ∧ (∀ k (h : k < xs.size), SetTable.below xs j ≤ k → j ≤ xs[k]) :=
  below_go hr xs.size 0 xs.size (by omega) (Nat.zero_le _) (Nat.le_refl _) (fun k _ h => absurd h (Nat.not_lt_zero _)) fun k h h' => absurd h (by omega)
theorem below_at {xs : Array Nat} (hr : Ris xs) {k : Nat} (hk : k < xs.size) : SetTable.below xs xs[k] = k := by
  obtain ⟨h0, h1, h2⟩ := below_ok (j := xs[k]) hr
  rcases Nat.lt_trichotomy (SetTable.below xs xs[k]) k with h | h | h
  · have a := h2 (SetTable.below xs xs[k]) (by omega) (Nat.le_refl _)
    have b := hr.lt hk h
    omega
  · exact h
  · have := h1 k hk h
    omega
theorem below_next {xs : Array Nat} (hr : Ris xs) {k : Nat} (hk : k < xs.size) : SetTable.below xs (xs[k] + 1) = k + 1 := by
  obtain ⟨h0, h1, h2⟩ := below_ok (j := xs[k] + 1) hr
  rcases Nat.lt_trichotomy (SetTable.below xs (xs[k] + 1)) (k + 1) with h | h | h
  · have := h2 k hk (by omega)
    omega
  · exact h
  · have a := h1 (k + 1) (by omega) h
    have b := hr.lt (show k + 1 < xs.size by omega) (show k < k + 1 by omega)
    omega
theorem below_zero {xs : Array Nat} (hr : Ris xs) : SetTable.below xs 0 = 0 := by
  obtain ⟨h0, h1, h2⟩ := below_ok (j := 0) hr
  rcases Nat.eq_zero_or_pos (SetTable.below xs 0) with h | h
  · exact h
  · have := h1 0 (by omega) h
    omega
theorem ris_ins {xs : Array Nat} {j : Nat} (hr : Ris xs) (hj : j ∉ xs.toList) : Ris (SetTable.insertAt xs (SetTable.below xs j) j) := by
  obtain ⟨h0, h1, h2⟩ := below_ok (j := j) hr
  unfold Ris
  rw [SetTable.toList_insertAt]
  have sp : (xs.toList.take (SetTable.below xs j) ++ xs.toList.drop (SetTable.below xs j)).Pairwise (· < ·) := by rw [List.take_append_drop]; exact hr
  obtain ⟨p1, p2, p3⟩ := List.pairwise_append.mp sp
  have lo : ∀ a ∈ xs.toList.take (SetTable.below xs j), a < j := fun a ha => by
    obtain ⟨i, hi, rfl⟩ := List.getElem_of_mem ha
    rw [List.length_take, Array.length_toList] at hi
    rw [List.getElem_take, Array.getElem_toList]
    exact h1 i (by omega) (by omega)
  have up : ∀ a ∈ xs.toList.drop (SetTable.below xs j), j < a := fun a ha => by
    have hm := List.mem_of_mem_drop ha
    obtain ⟨i, hi, rfl⟩ := List.getElem_of_mem ha
    rw [List.length_drop, Array.length_toList] at hi
    rw [List.getElem_drop, Array.getElem_toList] at hm ⊢
    have := h2 (SetTable.below xs j + i) (by omega) (by omega)
    rcases Nat.lt_or_eq_of_le this with h | h
    · exact h
    · exact absurd (h ▸ hm) hj
  refine List.pairwise_append.mpr ⟨p1, List.pairwise_cons.mpr ⟨up, p2⟩, fun a ha b hb => ?_⟩
  rcases List.mem_cons.mp hb with rfl | hb
  · exact lo a ha
  · exact p3 a ha b hb
def Open (t : SetTable) (j : Nat) : Prop := ∀ i, t.slot j ≠ .live i
theorem open_out {t : SetTable} {j : Nat} (hr : Ris t.place) (h : Open t j) : j ∉ t.place.toList := by
  intro hm
  obtain ⟨k, hk, e⟩ := List.getElem_of_mem hm
  rw [Array.length_toList] at hk
  rw [Array.getElem_toList] at e
  refine h k ?_
  unfold SetTable.slot
  dsimp only
  rw [← e, below_at hr hk, if_pos (by simp [hk])]
theorem adv_dummy (t : SetTable) (p : SetTable.Probe) : (t.advance p).dummy = p.dummy := by
  unfold SetTable.advance; split <;> rfl
theorem go_open {t : SetTable} {f : Nat → Int} {h : Int} : ∀ (n : Nat) (p : SetTable.Probe) (j : Nat) (d : Option Nat), SetTable.probe.go t f h n p = some (.empty j d) → (∀ x, p.dummy = some x → Open t x) → Open t j ∧ ∀ x, d = some x → Open t x
  | 0, p, j, d, e, _ => by cases e
  | n + 1, p, j, d, e, hd => by
    unfold SetTable.probe.go at e
    cases es : t.slot p.j with
    | empty =>
      rw [es] at e
      dsimp only at e
      simp only [Option.some.injEq, SetTable.Met.empty.injEq] at e
      obtain ⟨rfl, rfl⟩ := e
      exact ⟨fun i z => (by rw [es] at z; cases z), hd⟩
    | dummy =>
      rw [es] at e
      refine go_open n _ j d e fun x hx => ?_
      rw [adv_dummy] at hx
      cases hx
      exact fun i z => by rw [es] at z; cases z
    | live i =>
      rw [es] at e
      dsimp only at e
      split at e
      · cases e
      · refine go_open n _ j d e fun x hx => ?_
        rw [adv_dummy] at hx
        exact hd x hx
theorem free_open {t : SetTable} {h : Int} {j : Nat} {b : Bool} (e : t.freeSlot h = some (j, b)) : Open t j := by
  unfold SetTable.freeSlot at e
  split at e
  · rename_i j' d hp
    simp only [Option.some.injEq, Prod.mk.injEq] at e
    obtain ⟨rfl, _⟩ := e
    unfold SetTable.probe at hp
    obtain ⟨a, b⟩ := go_open _ _ _ _ hp fun x hx => by cases hx
    cases d with
    | none => exact a
    | some x => exact b x rfl
  · cases e
def Led (t : SetTable) : Prop := t.led = true ∧ Ris t.place
theorem ris_range (n : Nat) : Ris (Array.range n) := by
  unfold Ris
  rw [Array.toList_range]
  exact List.pairwise_lt_range
theorem led_stand {t : SetTable} (h : t.led = true) (n : Nat) : Led (t.standIn n) := ⟨h, ris_range n⟩
theorem led_or {t : SetTable} (h : Led t) (n : Nat) : Led (t.orStandIn n) := by
  unfold SetTable.orStandIn
  split
  · exact h
  · exact led_stand h.1 n
theorem led_lay {t : SetTable} (h : Led t) (es : Array (Int × Value)) (k : Int) (x : Value) : Led (layNew t es k x).2.1 := by
  unfold layNew
  split
  · rename_i j b e
    have l2 : Led (t.put j).1 := ⟨h.1, ris_ins h.2 (open_out h.2 (free_open e))⟩
    exact led_or l2 _
  · exact led_stand h.1 _
theorem fst_sub {α : Type} (f : Nat → Option α) (n : Nat) : (((List.range n).filterMap fun j => (f j).map (j, ·)).map (·.1)).Sublist (List.range n) := by
  rw [List.map_filterMap]
  have : (fun x => Option.map (fun y : Nat × α => y.1) ((f x).map (x, ·))) = fun x => if (f x).isSome then some x else none := by
    funext x; cases f x <;> rfl
  rw [this]
  have e : (List.range n).filterMap (fun x => if (f x).isSome = true then some x else none) = (List.range n).filter fun x => (f x).isSome := by
    induction List.range n with
    | nil => rfl
    | cons a l ih =>
      rw [List.filterMap_cons, List.filter_cons]
      cases (f a).isSome <;> simp [ih]
  rw [e]
  exact List.filter_sublist
theorem led_relaid {t t' : SetTable} {hs : Array Int} {k : Nat} {o : Array Nat} (h : t.led = true) (e : t.relaid hs k = some (t', o)) : Led t' := by
  unfold SetTable.relaid SetTable.laid at e
  cases ho : SetTable.layClean (SetTable.sizeAbove k - 1) hs with
  | none => rw [ho] at e; cases e
  | some ow =>
    rw [ho] at e
    simp only [Option.bind_eq_bind, Option.bind_some, Option.pure_def, Option.some.injEq, Prod.mk.injEq] at e
    obtain ⟨rfl, _⟩ := e
    refine ⟨h, ?_⟩
    unfold Ris
    dsimp only
    exact List.Pairwise.sublist (fst_sub (fun j => ow.getD j none) _) List.pairwise_lt_range
theorem led_all {t : SetTable} (h : t.led = true) (es : Array (Int × Value)) (k : Nat) : Led (relayAll t es k).2.1 := by
  unfold relayAll
  split
  · rename_i t' o e
    dsimp only
    split
    · exact led_relaid h e
    · exact led_stand h _
  · exact led_stand h _
end L2
set_option Elab.async false
set_option linter.all false
set_option maxRecDepth 100000
namespace L2
open PySem PySem.Spec PyProof.Rows
def byT (w : World) : Bool := w.params.followText "set-order"
def SetI (P : Program) (w : World) (h : Heap) (a : Addr) (ks : List Int) : Prop :=
  ∃ o es ep t, h.get? a = some o ∧ o.ExactSet ∧ o.data = .set es ep t ∧ ElemsOf (intKind P w) es.toList ∧ (∀ k, k ∈ ks ↔ ∃ e ∈ es.toList, (intKind P w).is k e.2 = true) ∧ es.size < scanBound ∧ t.fits es.size = true ∧ es.size = ks.length ∧ (byT w = false → Led t)
section
variable {P : Program} {w : World} {A : Around} {E : Value → Shared → Prop} {s : Shared}
theorem SetI.kept {h h' : Heap} {a : Addr} {ks : List Int} (hS : SetI P w h a ks) (k : ∀ o, h.get? a = some o → h'.get? a = some o) : SetI P w h' a ks := by
  obtain ⟨o, es, ep, t, ho, r⟩ := hS
  exact ⟨o, es, ep, t, k o ho, r⟩
theorem SetI.store {h : Heap} {a : Addr} {o : Obj} {es es' : Array (Int × Value)} {ep : Nat} {t t' : SetTable} {ks : List Int} (e : h.get? a = some o) (x : o.ExactSet) (d : o.data = .set es ep t)
    (h1 : ElemsOf (intKind P w) es'.toList) (h2 : ∀ k, k ∈ ks ↔ ∃ e ∈ es'.toList, (intKind P w).is k e.2 = true) (h3 : es'.size < scanBound) (h4 : t'.fits es'.size = true) (h5 : es'.size = ks.length) (h6 : byT w = false → Led t') :
    (h.update a (Obj.putSet es' t')).get? a = some { o with data := .set es' (ep + 1) t' } ∧ SetI P w (h.update a (Obj.putSet es' t')) a ks := by
  have g : (h.update a (Obj.putSet es' t')).get? a = some { o with data := .set es' (ep + 1) t' } := by
    rw [Heap.get?_update_self (Obj.putSet es' t') e (by rw [putSet_of es' t' d]; rfl), putSet_of es' t' d]
  exact ⟨g, { o with data := .set es' (ep + 1) t' }, es', ep + 1, t', g, x, rfl, h1, h2, h3, h4, h5, h6⟩
theorem add_end {g : Bool → Sem Unit} (hg : ∀ (b : Bool) (z : Shared) (q : Unit → Shared → Prop), q () z → wpAny (model P w) A (g b) q E z) {a : Addr} {o : Obj} {es e1 : Array (Int × Value)} {ep : Nat} {t t2 : SetTable} {ks : List Int}
    (e : s.heap.get? a = some o) (x : o.ExactSet) (d : o.data = .set es ep t)
    (h1 : ElemsOf (intKind P w) e1.toList) (h2 : ∀ k, k ∈ ks ↔ ∃ e ∈ e1.toList, (intKind P w).is k e.2 = true) (h3 : e1.size < scanBound) (h4 : t2.fits e1.size = true) (h5 : e1.size = ks.length) (h6 : byT w = false → Led t2)
    {dm : Bool} {R : Option Bool → Shared → Prop} (h : ∀ h', Heap.SameBut a s.heap h' → SetI P w h' a ks → R (some true) { s with heap := h' }) :
    wpAny (model P w) A (do
      storeSet a e1 t2
      if (!dm && t2.tooFull) = true then do
        g (relayAll t2 e1 (SetTable.grown e1.size)).2.2
        storeSet a (relayAll t2 e1 (SetTable.grown e1.size)).1 (relayAll t2 e1 (SetTable.grown e1.size)).2.1
        pure (some true)
      else pure (some true)) R E s := by
  refine wpAny_bind (wpAny_storeSet_of e d ?_ (fits_of_scanBound h3))
  obtain ⟨g1, S1⟩ := SetI.store (P := P) (w := w) e x d h1 h2 h3 h4 h5 h6
  have b1 := Heap.SameBut.update s.heap a (Obj.putSet e1 t2)
  split
  · have p := relayAll_perm t2 e1 (SetTable.grown e1.size)
    have f := relayAll_fits t2 e1 (SetTable.grown e1.size)
    have l : byT w = false → Led (relayAll t2 e1 (SetTable.grown e1.size)).2.1 := fun z => led_all (h6 z).1 _ _
    generalize relayAll t2 e1 (SetTable.grown e1.size) = R2 at p f l ⊢
    obtain ⟨e2, t3, g2⟩ := R2
    dsimp only at p f l ⊢
    have n2 : e2.size = e1.size := by have := p.length_eq; simpa using this
    refine wpAny_bind (hg _ _ _ ?_)
    refine wpAny_bind (wpAny_storeSet_of g1 rfl ?_ (fits_of_scanBound (by omega)))
    obtain ⟨_, S2⟩ := SetI.store (P := P) (w := w) (ks := ks) g1 x rfl (ElemsOf.perm h1 p) (fun k => (h2 k).trans ⟨fun ⟨y, hy, z⟩ => ⟨y, p.mem_iff.mpr hy, z⟩, fun ⟨y, hy, z⟩ => ⟨y, p.mem_iff.mp hy, z⟩⟩) (by omega) f (by omega) l
    exact wpAny_pure (h _ (b1.trans (Heap.SameBut.update _ a _)) S2)
  · exact wpAny_pure (h _ b1 S1)
theorem dd_mem (ks : List Int) (k j : Int) : j ∈ step_dedup ks k ↔ j ∈ ks ∨ j = k := by
  unfold step_dedup
  split
  · rename_i h
    rw [List.any_eq_true] at h
    obtain ⟨y, hy, e⟩ := h
    have : y = k := by simpa using e
    subst this
    exact ⟨.inl, fun z => z.elim id fun e => e ▸ hy⟩
  · simp
theorem dd_in {ks : List Int} {k : Int} (h : k ∈ ks) : step_dedup ks k = ks := by
  unfold step_dedup
  rw [if_pos (List.any_eq_true.mpr ⟨k, h, by simp⟩)]
theorem dd_out {ks : List Int} {k : Int} (h : k ∉ ks) : step_dedup ks k = ks ++ [k] := by
  unfold step_dedup
  rw [if_neg (fun z => by obtain ⟨y, hy, e⟩ := List.any_eq_true.mp z; exact h ((by simpa using e : y = k) ▸ hy))]
theorem add_I {a : Addr} {ks : List Int} {k : Int} {x : Value} {Q : Bool → Shared → Prop} (hk : (intKind P w).is k x = true) (hx : x.scannable = true) (hS : SetI P w s.heap a ks) (hr : ks.length + 1 < scanBound)
    (h : ∀ h' b, Heap.SameBut a s.heap h' → SetI P w h' a (step_dedup ks k) → Q b { s with heap := h' }) : wpAny (model P w) A (setAddHashed a x ((intKind P w).hash k)) Q E s := by
  obtain ⟨o, es, ep, t, ho, ex, d, el, me, bd, fi, le, ld⟩ := hS
  unfold setAddHashed setAddHashedIn
  refine wpAny_holding (wpAny_bind (wpAny_setState_of ho d fi ?_)); dsimp only
  rw [byScan_of hx bd el]; simp only [if_true]
  unfold setAddByScan
  refine wpAny_bind (wpAny_bind (wpAny_rule (wpAny_bind (wpAny_setScan_of hk ho d fi el ?_))))
  cases hf : List.findIdx? (fun e => (intKind P w).is k e.2) es.toList with
  | some j =>
    dsimp only
    obtain ⟨lj, pj, _⟩ := List.findIdx?_eq_some_iff_getElem.mp hf
    have kin : k ∈ ks := (me k).mpr ⟨_, List.getElem_mem lj, pj⟩
    refine wpAny_pure (wpAny_pure ?_)
    have := h s.heap false (Heap.SameBut.refl a s.heap) (by rw [dd_in kin]; exact ⟨o, es, ep, t, ho, ex, d, el, me, bd, fi, le, ld⟩)
    exact this
  | none =>
    dsimp only
    have kout : k ∉ ks := fun z => by
      obtain ⟨y, hy, q⟩ := (me k).mp z
      have := List.findIdx?_eq_none_iff.mp hf y hy
      rw [q] at this; cases this
    have gw : ∀ (b : Bool) {z : Shared} {q : Unit → Shared → Prop}, q () z → wpAny (model P w) A (match b with | true => rule "set.scan.the-table-gave-way" | false => pure ()) q E z := fun b z q hq => by
      cases b
      · exact wpAny_pure hq
      · exact wpAny_rule hq
    have pe := layNew_perm t es ((intKind P w).hash k) x
    have fe := layNew_fits t es ((intKind P w).hash k) x
    have lf : byT w = false → Led (layNew t es ((intKind P w).hash k) x).2.1 := fun z => led_lay (ld z) _ _ _
    generalize layNew t es ((intKind P w).hash k) x = L at pe fe lf ⊢
    obtain ⟨e1, t1, dm, gv⟩ := L
    dsimp only at pe fe lf ⊢
    rw [Array.toList_push] at pe
    have el1 : ElemsOf (intKind P w) e1.toList := (ElemsOf.push el hk hx).perm pe
    have n1 : e1.size = ks.length + 1 := by have := pe.length_eq; simp at this; omega
    have me1 : ∀ j, j ∈ ks ++ [k] ↔ ∃ e ∈ e1.toList, (intKind P w).is j e.2 = true := fun j => by
      rw [List.mem_append, me j, List.mem_singleton]
      constructor
      · rintro (⟨y, hy, q⟩ | rfl)
        · exact ⟨y, pe.mem_iff.mpr (List.mem_append_left _ hy), q⟩
        · exact ⟨_, pe.mem_iff.mpr (List.mem_append_right _ (List.mem_singleton.mpr rfl)), hk⟩
      · rintro ⟨y, hy, q⟩
        rcases List.mem_append.mp (pe.mem_iff.mp hy) with hy | hy
        · exact .inl ⟨y, hy, q⟩
        · rw [List.mem_singleton.mp hy] at q
          exact .inr ((intKind P w).inj x j k q hk)
    refine wpAny_bind (gw _ ?_)
    have fin : ∀ h', Heap.SameBut a s.heap h' → SetI P w h' a (ks ++ [k]) → Q true { s with heap := h' } := fun h' b z => h h' true b (by rw [dd_out kout]; exact z)
    split
    · refine wpAny_bind ?_
      rw [hashByValue_scannable 8 hx]
      refine wpAny_pure ?_
      refine add_end ?_ ho ex d el1 me1 (by omega) ?_ (by rw [List.length_append]; simpa using n1) ?_ ?_
      · intro b z q hq
        cases b
        · exact wpAny_pure hq
        · exact wpAny_rule hq
      · split
        · exact fe
        · exact SetTable.fits_plain_off fe
      · intro z
        split
        · exact lf z
        · exact lf z
      · intro h' b z
        exact wpAny_pure (fin h' b z)
    · refine wpAny_bind (wpAny_pure ?_)
      simp only [if_true]
      refine add_end ?_ ho ex d el1 me1 (by omega) fe (by rw [List.length_append]; simpa using n1) lf ?_
      · intro b z q hq
        cases b
        · exact wpAny_pure hq
        · exact wpAny_rule hq
      · intro h' b z
        exact wpAny_pure (fin h' b z)
end
end L2
set_option Elab.async false
set_option linter.all false
set_option maxRecDepth 100000
set_option maxHeartbeats 3200000
namespace L2
open PySem PySem.Spec PyProof.Rows
def setO (w : World) : Obj := { cls := .type "set", dict := none, data := .set #[] 0 (.fresh 0 0 (!byT w)) }
section
variable {P : Program} {w : World} {A : Around} {E : Value → Shared → Prop} {s : Shared}
theorem new_I (a : Value) {q : Value → Shared → Prop} (h : q (.ref s.heap.objs.size) { s with heap := s.heap.push (setO w) }) :
    codeAny (model P w) A (.call (.builtin "set.__new__") ⟨[.type "set", a], []⟩) (wants q E) s := by
  refine codeAny_of_tree (show wpAny _ A.in1 (do checkBuiltinCall "set.__new__" ⟨[.type "set", a], []⟩; again (.builtin "set.__new__" ⟨[.type "set", a], []⟩)) _ _ s from ?_)
  refine wpAny_bind (wpAny_of_eq (PySem.F.newCall_set_1 a) (wpAny_pure ⟨plainId_quiet PySem.F.plain_set_new _, codeAny_builtin PySem.F.entry_set_new ?_⟩))
  rw [Around.under_plainId PySem.F.plain_set_new _]; unfold Builtin.«set.__new__» Builtin.Frozenset.newClass
  have su := sub_set_self
  obtain ⟨hp, g, d, tk, os⟩ := s
  dsimp only
  wp_walk
  refine wpAny_askSetting (wpAny_pure ?_)
  dsimp only; simp only [newObj]
  exact wpAny_bind (wpAny_alloc (wpAny_pure (wpAny_pure h)))
theorem setI_new (h : Heap) : SetI P w (h.push (setO w)) h.objs.size [] :=
  ⟨setO w, #[], 0, _, Heap.get?_push_size _ rfl, ⟨rfl, rfl, rfl⟩, rfl, fun e he => by simp at he, fun k => by simp, by decide, by rfl, rfl, fun z => ⟨by simp [SetTable.fresh, z], by simp [Ris, SetTable.fresh]⟩⟩
variable {R : Result → Shared → Prop} {I : Addr} {fp wr : List Addr} {G : Array GenState → Array GenState → Prop} {n : Nat} {p : Nat → Value → Prop} {St : Nat → Shared → Prop}
theorem upd_I (W : WalksS P w A.in1 I fp wr G n p St) (S : Addr) (hf : S ∉ fp) (f : Nat → Int) (hv : ∀ i v, p i v → ∃ t, v = .int (f i) t) (hb : n + 1 < scanBound) :
    ∀ (k i : Nat) (z : Shared), n - i = k → i ≤ n → St i z → SetI P w z.heap S (firstMet f i) →
      (∀ z', Moved (S :: wr) G z z' → SetI P w z'.heap S (firstMet f n) → R (.ok (.ret .none)) z') → codeAny (model P w) A (.builtin "set.update.loop" ⟨[.ref S, .ref I], []⟩) R z := by
  have hw : S ∉ wr := fun q => hf (W.sub _ q)
  have sb : ∀ b ∈ wr, b ∈ S :: wr := fun b q => List.mem_cons_of_mem _ q
  intro k
  induction k with
  | zero =>
    intro i z hk hi st hS hR
    obtain rfl : i = n := by omega
    refine codeAny_builtin PyProof.Rows.F.entry_set_update_loop ?_
    rw [Around.under_plainId PyProof.Rows.F.plain_set_update_loop _]
    refine (show wpAny _ A.in1 (pyNext (.ref I) >>= _) _ _ z from wpAny_bind (W.done z _ _ st fun z' m => ?_))
    exact (show wpAny _ A.in1 (ret Value.none) _ _ z' from wpAny_pure (hR z' (m.mono sb) (hS.kept fun o e => m.heap S _ hw e)))
  | succ k ih =>
    intro i z hk hi st hS hR
    have lt : i < n := by omega
    refine codeAny_builtin PyProof.Rows.F.entry_set_update_loop ?_
    rw [Around.under_plainId PyProof.Rows.F.plain_set_update_loop _]
    refine (show wpAny _ A.in1 (pyNext (.ref I) >>= _) _ _ z from wpAny_bind (W.item i z _ _ lt st fun v z' hp st' m => ?_))
    obtain ⟨t, rfl⟩ := hv i v hp
    have hS' : SetI P w z'.heap S (firstMet f i) := hS.kept fun o e => m.heap S _ hw e
    refine (show wpAny _ A.in1 (holding [Value.int (f i) t] (setAdd S (.int (f i) t)) >>= _) _ _ z' from wpAny_bind (wpAny_holding ?_))
    unfold setAdd
    refine wpAny_holding (wpAny_bind ((intKind P w).pyHash (k := f i) (intKind_is _ _ _ _) ?_))
    have rm : (firstMet f i).length + 1 < scanBound := by have := firstMet_length_le f i; omega
    refine add_I (s := { z' with toks := z'.toks + 1 }) (intKind_is _ _ _ _) rfl hS' rm fun h' b hs hS2 => ?_
    rw [← firstMet_succ] at hS2
    refine wpAny_pure ⟨plainId_quiet PyProof.Rows.F.plain_set_update_loop _, ih (i + 1) _ (by omega) lt (W.frame _ z' _ _ st' (Nat.le_succ _) fun b hb o e => ?_) hS2 fun z2 m2 hS3 => ?_⟩
    · rw [hs.2 b (fun q : b = S => hf (q ▸ hb))]; exact e
    · refine hR z2 (Moved.trans W.gtrans ((m.mono sb).then_heap (Nat.le_succ _) fun b o hb e => ?_) m2) hS3
      rw [hs.2 b (fun q : b = S => hb (by rw [q]; exact List.mem_cons_self))]; exact e
end
section
variable {P : Program} {w : World} {A : Around} {E : Value → Shared → Prop} {s : Shared}
theorem set_I {l : Addr} {its : Array Value} {ns : List Int} {Q : Value → Shared → Prop} (hh : A.handled = none) (hl : s.heap.IsList l its) (hi : IntsAre its.toList ns) (hb : its.size + 1 < scanBound)
    (h : ∀ (h' : Heap) (tk : Nat), SetI P w h' s.heap.objs.size (firstMet (fun i => ns.getD i 0) its.size) → (∀ b o, s.heap.get? b = some o → h'.get? b = some o) → Q (.ref s.heap.objs.size) { s with heap := h', toks := tk }) :
    wpAny (model P w) A (call (.type "set") [.ref l]) Q E s := by
  obtain ⟨c, tl, mro⟩ := PySem.F.called_set.mro
  have md := PySem.F.called_set.made
  have sb := PySem.F.called_set.sub
  refine wpAny_call (codeAny_of_tree (show wpAny _ _ (callAny (.type "set") _) _ _ _ from ?_))
  refine wpAny_pure ⟨Code.quiet_builtin _ (by decide +kernel), codeAny_builtin PySem.F.entry_type_call ?_⟩
  rw [Around.under_plain (weight_type_call_type "set" [.ref l] []) rfl]
  have n1 := PySem.F.called_set.notType
  have n2 := PySem.F.called_set.canCreate
  have n3 := PySem.F.typeCall_set_1 (.ref l)
  repeat (any_goals (first | assumption | wp_step))
  refine codeAny_mono (new_I (.ref l) (E := E) (q := fun ob z => ob = .ref s.heap.objs.size ∧ z = { s with heap := s.heap.push (setO w) }) ⟨rfl, rfl⟩) fun r z hr => ?_
  cases r with
  | error e => exact hr
  | ok fl =>
    cases fl with
    | ret ob =>
      obtain ⟨rfl, rfl⟩ := hr
      have gS : (s.heap.push (setO w)).get? s.heap.objs.size = some (setO w) := Heap.get?_push_size _ rfl
      have tS : Shared.TypeIs { s with heap := s.heap.push (setO w) } (.ref s.heap.objs.size) "set" := ⟨_, gS, rfl⟩
      have i1 := PySem.F.called_set.init.lookup
      have i2 := PySem.F.called_set.init.bind (.ref s.heap.objs.size)
      repeat (any_goals (first | assumption | wp_step))
      refine codeAny_mono (codeAny_call_builtin (R := wants (fun r z => r = .none ∧ ∃ h' tk, z = { s with heap := h', toks := tk } ∧ SetI P w h' s.heap.objs.size (firstMet (fun i => ns.getD i 0) its.size) ∧ (∀ b o, s.heap.get? b = some o → h'.get? b = some o)) E) PySem.F.called_set.init.plain PySem.F.entry_set_init (check_set_init_1 tS ?_)) fun r2 z2 hr2 => ?_
      · obtain ⟨⟨oc, od, oda, osl⟩, ol, hc, nl, hd⟩ := hl
        simp only at hc hd; subst hc; subst hd
        have ol' : (s.heap.push (setO w)).get? l = some { cls := .type "list", dict := od, data := .seq its nl, slots := osl } := Heap.get?_push_of_some _ ol
        have s1 := PySem.F.sub_list_set
        have s2 := PySem.F.sub_list_frozenset
        have ne : (Value.type "list" == Value.type "dict") = false := by decide
        have l1 : (s.heap.push (setO w)).IsList l its := ⟨_, ol', rfl, nl, rfl⟩
        unfold Builtin.«set.__init__» noKeywords Builtin.Frozenset.updateFrom
        generalize hp : pyIter = pI
        wp_walk
        subst hp
        refine wpAny_pyIter_list l1 (wpAny_bind (wpAny_runValue ?_))
        have ll : l < s.heap.objs.size := Heap.lt_size ol
        have h3 : A.in1.in1.in1.handled = none := by simp [hh]
        have nI : l ≠ (s.heap.push (setO w)).objs.size := by rw [Heap.size_push]; exact Nat.ne_of_lt (Nat.lt_succ_of_lt ll)
        have nf : s.heap.objs.size ∉ [(s.heap.push (setO w)).objs.size, l] := by
          rw [Heap.size_push]; simp only [List.mem_cons, List.not_mem_nil, or_false, not_or]
          exact ⟨Nat.ne_of_lt (Nat.lt_succ_self _), Nat.ne_of_gt ll⟩
        have hv : ∀ (i : Nat) (v : Value), its[i]? = some v → ∃ t, v = .int ((fun i => ns.getD i 0) i) t := fun i v q => IntsAre.int_at hi i v (by rw [Array.getElem?_toList]; exact q)
        refine upd_I ((Walks.list h3 _ l nI its).toS) s.heap.objs.size nf (fun i => ns.getD i 0) hv hb (its.size - 0) 0 _ (by omega) (Nat.zero_le _) ⟨⟨_, Heap.get?_push_size _ rfl, rfl, rfl⟩, (l1.push _)⟩ ?st ?fin
        case st => exact (setI_new s.heap).kept fun o e => Heap.get?_push_of_some _ e
        case fin =>
          intro z' m hS
          obtain ⟨h', g', d', tk', os'⟩ := z'
          obtain rfl : g' = s.gens := m.gens
          obtain rfl : d' = s.drawn := m.drawn
          obtain rfl : os' = s.os := m.os
          refine (show wpAny _ _ _ _ _ _ from wpAny_pure ?_)
          refine (show wpAny _ _ (ret Value.none) _ _ _ from wpAny_pure ⟨rfl, h', tk', rfl, hS, fun b o e => ?_⟩)
          have lb := Heap.lt_size e
          refine m.heap b o ?_ (Heap.get?_push_of_some _ (Heap.get?_push_of_some _ e))
          rw [Heap.size_push]; simp only [List.mem_cons, List.not_mem_nil, or_false, not_or]
          exact ⟨Nat.ne_of_lt lb, Nat.ne_of_lt (Nat.lt_succ_of_lt lb)⟩
      · cases r2 with
        | error e => exact hr2
        | ok f2 =>
          cases f2 with
          | ret r =>
            obtain ⟨rfl, h', tk, rfl, hS, hk⟩ := hr2
            repeat (any_goals (first | assumption | wp_step))
            exact h _ _ hS hk
          | _ => exact hr2.elim
    | _ => exact hr.elim
end
end L2
set_option Elab.async false
set_option linter.all false
set_option maxRecDepth 100000
set_option maxHeartbeats 1000000
namespace L2
open PySem PySem.Spec PyProof.Rows
theorem slot_si_next : Slot "set_iterator" "__next__" "set_iterator.__next__" :=
  .of (owner := "set_iterator") (n := "__next__") (by rw [typeLookup_type, builtinLookup_eq_fast]; kernel_rfl) (by decide +kernel) (by decide +kernel) (by decide +kernel) (by first | exact .inl (by decide +kernel) | exact .inr (by decide +kernel)) (by rw [isSubtype_type]; kernel_rfl)
theorem entry_si_next : entryFor table "set_iterator.__next__" = some Builtin.«set_iterator.__next__» := entryFor_of_tree (by kernel_rfl)
theorem slot_si_iter : Slot "set_iterator" "__iter__" "set_iterator.__iter__" :=
  .of (owner := "set_iterator") (n := "__iter__") (by rw [typeLookup_type, builtinLookup_eq_fast]; kernel_rfl) (by decide +kernel) (by decide +kernel) (by decide +kernel) (by first | exact .inl (by decide +kernel) | exact .inr (by decide +kernel)) (by rw [isSubtype_type]; kernel_rfl)
theorem entry_s_iter : entryFor table "set.__iter__" = some Builtin.«frozenset.__iter__» := entryFor_alias (id' := "frozenset.__iter__") (by kernel_rfl) rfl (by decide +kernel) (by kernel_rfl)
theorem erase_perm {α : Type} : ∀ (l : List α) (i : Nat) (h : i < l.length), (l[i] :: l.eraseIdx i).Perm l
  | a :: l, 0, _ => .refl _
  | a :: l, i + 1, h => (List.Perm.swap _ _ _).trans (List.Perm.cons a (erase_perm l i (by simpa using h)))
theorem pick_go {α : Type} (f : Nat → Nat) : ∀ (n k : Nat) (l : List α) (o : Array α), l.length = n → List.Perm (pickOrder.go f n k l o).toList (o.toList ++ l)
  | 0, k, l, o, h => by
    obtain rfl : l = [] := List.eq_nil_of_length_eq_zero h
    unfold pickOrder.go; simp
  | n + 1, k, l, o, h => by
    unfold pickOrder.go
    have lt : f k % l.length < l.length := Nat.mod_lt _ (by omega)
    rw [List.getElem?_eq_getElem lt]
    dsimp only
    refine (pick_go f n (k + 1) _ _ (by rw [List.length_eraseIdx_of_lt lt]; omega)).trans ?_
    rw [Array.toList_push, List.append_assoc]
    exact List.Perm.append_left _ (erase_perm l _ lt)
theorem pick_perm {α : Type} (f : Nat → Nat) (xs : Array α) : List.Perm (pickOrder f xs).toList xs.toList := by
  have := pick_go f xs.size 0 xs.toList #[] (by simp)
  simpa [pickOrder] using this
theorem perm_nodup : ∀ {ks ms : List Int}, ks.Nodup → (∀ k ∈ ks, k ∈ ms) → ms.length = ks.length → ms.Perm ks
  | [], ms, _, _, h => by rw [List.eq_nil_of_length_eq_zero h]
  | k :: ks, ms, hn, hm, h => by
    obtain ⟨h1, h2⟩ := List.nodup_cons.mp hn
    have hk := hm k (.head _)
    have p := List.perm_cons_erase hk
    refine p.trans (List.Perm.cons k (perm_nodup h2 (fun j hj => ?_) ?_))
    · have ne : j ≠ k := fun e => h1 (by rw [← e]; exact hj)
      exact (List.mem_erase_of_ne ne).mpr (hm j (.tail _ hj))
    · rw [List.length_erase_of_mem hk, h]; simp
section
variable {P : Program} {w : World} {A : Around} {E : Value → Shared → Prop} {s : Shared}
theorem wp_choose {src : Source} {n : Nat} {Q : Nat → Shared → Prop} (hn : n ≠ 0) (h : ∀ i d, i < n → Q i { s with drawn := d }) : wpAny (model P w) A (choose src n) Q E s := by
  intro Γ p hΓ
  unfold choose
  simp only [Sem.wp]
  exact ⟨hn, h _ _ (Nat.mod_lt _ (Nat.pos_of_ne_zero hn))⟩
theorem wp_order {α : Type} : ∀ (n : Nat) (xs : List α) {s : Shared} {Q : List α → Shared → Prop}, xs.length = n → (∀ ys d, ys.Perm xs → Q ys { s with drawn := d }) → wpAny (model P w) A (drawOrder n xs) Q E s
  | 0, xs, s, Q, hl, h => by
    obtain rfl : xs = [] := List.eq_nil_of_length_eq_zero hl
    unfold drawOrder
    exact wpAny_pure (h [] s.drawn (.refl _))
  | n + 1, x :: xs, s, Q, hl, h => by
    unfold drawOrder
    refine wpAny_bind (wp_choose (by simp) fun i d hi => ?_)
    rw [List.getElem?_eq_getElem hi]
    refine wpAny_bind (wp_order n _ (by rw [List.length_eraseIdx_of_lt hi, hl]; rfl) fun ys d' hp => ?_)
    exact wpAny_pure (h _ d' ((List.Perm.cons _ hp).trans (erase_perm _ i hi)))
theorem stop_I {s : Shared} {Q : Value → Shared → Prop} {R : Value → Shared → Prop} {α : Type} {q : α → Shared → Prop} (hh : A.handled = none) (h : ∀ x h', (∀ b o, s.heap.get? b = some o → h'.get? b = some o) → ({ s with heap := h' } : Shared).TypeIs x "StopIteration" → R x { s with heap := h' }) :
    wpAny (model P w) A (newExc (.type "StopIteration") [] >>= fun x => (raiseNew x : Sem α)) q R s := by
  have ho : ∃ n, n ≤ 10 ∧ (ownMembersOf (Value.type "StopIteration") []).size = n := by
    first
    | exact ⟨_, by decide, rfl⟩
    | exact ⟨(ownMembersOf (Value.type "StopIteration") []).size, by decide +kernel, rfl⟩
  obtain ⟨no, hno, eno⟩ := ho
  refine wpAny_bind (wpAny_bind (wpAny_newObj_type (wpAny_bind (wpAny_of_eq rfl (wpAny_newObj_type ?_ (by first | trivial | (unfold sizeOk; trivial) | (simp [sizeOk, sizeLine_eq, eno]; omega) | (simp only [sizeOk, Array.size_append, eno, sizeLine_eq]; simp; omega))))) (by show 0 ≤ sizeLine; decide)))
  refine wpAny_bind (wpAny_handled ?_)
  rw [hh]
  refine wpAny_bind (wpAny_pure (wpAny_throw (h _ _ (fun b o q => Heap.get?_push_of_some _ (Heap.get?_push_of_some _ q)) ?_)))
  exact ⟨_, Heap.get?_push_size _ rfl, rfl⟩
def itO (f : Value) (i : Nat) (S : Addr) (n ep : Nat) : Obj := { cls := .type "set_iterator", data := .fields #[f, rawInt (i : Nat), .ref S, rawInt (n : Nat), rawInt (ep : Nat)] }
variable {I S : Addr} {o : Obj} {es : Array (Int × Value)} {ep : Nat} {t : SetTable}
theorem next_led {f i : Nat} {r : Option (Value × Nat)} {Q : Option Value → Shared → Prop} (hh : A.handled = none) (hI : s.heap.get? I = some (itO (rawInt (f : Nat)) i S es.size ep)) (hS : s.heap.get? S = some o) (hd : o.data = .set es ep t) (hf : t.fits es.size = true)
    (hn : ∀ (A : Around) (E : Value → Shared → Prop) (q : Option (Value × Nat) → Shared → Prop), q r s → wpAny (model P w) A (setNext S f i ep) q E s)
    (hq : ∀ x k h', r = some (x, k) → h'.get? I = some (itO (rawInt (k : Nat)) (i + 1) S es.size ep) → (∀ b o, b ≠ I → s.heap.get? b = some o → h'.get? b = some o) → Q (some x) { s with heap := h' })
    (he : ∀ h', r = none → (∀ b o, b ≠ I → s.heap.get? b = some o → h'.get? b = some o) → Q none { s with heap := h' }) : wpAny (model P w) A (pyNext (.ref I)) Q E s := by
  have hT : s.TypeIs (.ref I) "set_iterator" := by
    first
    | exact ⟨_, hI, rfl⟩
    | exact ⟨_, _, hI, rfl⟩
  refine wpAny_bind (wpAny_attempt (wpAny_callSpecial?_slot hT slot_si_next (wpAny_call_entry slot_si_next hT entry_si_next (wpAny_bind (wpAny_pure (wpAny_bind (wpAny_fieldsOf hI rfl ?_)))))))
  show wpAny _ _ (setEntries S >>= _) _ _ _
  refine wpAny_bind (wpAny_setEntries_of hS hd hf ?_)
  show wpAny _ _ (ite (((es.size : Int) != (es.size : Int)) = true) _ _) _ _ _
  rw [if_neg (by simp)]
  show wpAny _ _ (setNext S f i ep >>= _) _ _ _
  refine wpAny_bind (hn _ _ _ ?_)
  cases r with
  | some p =>
    obtain ⟨x, k⟩ := p
    refine wpAny_bind (wpAny_setField_rec hI (by show 0 < 5; decide) fun h1 g1 sb1 => ?_)
    refine wpAny_bind (wpAny_setField_rec g1 (by show 1 < 5; decide) fun h2 g2 sb2 => ?_)
    exact wpAny_pure ⟨_, rfl, wpAny_pure (hq x k h2 rfl g2 fun b o hb q => (sb2.2 b hb).trans ((sb1.2 b hb).trans q))⟩
  | none =>
    refine wpAny_bind (wpAny_setField_rec hI (by show 2 < 5; decide) fun h1 g1 sb1 => ?_)
    refine stop_I (Q := fun _ _ => True) (by exact hh) fun x h' hk hx => ?_
    refine wpAny_bind (wpAny_isInstance (T := "StopIteration") hx isSubtype_stop (wpAny_pure (he h' rfl fun b o hb q => hk b o ((sb1.2 b hb).trans q))))
theorem next_drawn {T : Addr} {i : Nat} {ps : List Nat} {Q : Option Value → Shared → Prop} (hh : A.handled = none) (hI : s.heap.get? I = some (itO (.ref T) i S es.size ep)) (hT2 : s.heap.get? T = some { cls := .type "tuple", data := .seq (ps.map fun p => rawInt (p : Nat)).toArray }) (hS : s.heap.get? S = some o) (hd : o.data = .set es ep t) (hf : t.fits es.size = true)
    (hq : ∀ p e h', ps[i]? = some p → es[p]? = some e → h'.get? I = some (itO (.ref T) (i + 1) S es.size ep) → (∀ b o, b ≠ I → s.heap.get? b = some o → h'.get? b = some o) → Q (some e.2) { s with heap := h' }) (hp : ∀ p ∈ ps, p < es.size)
    (he : ∀ h', ps[i]? = none → (∀ b o, b ≠ I → s.heap.get? b = some o → h'.get? b = some o) → Q none { s with heap := h' }) : wpAny (model P w) A (pyNext (.ref I)) Q E s := by
  have hT : s.TypeIs (.ref I) "set_iterator" := by
    first
    | exact ⟨_, hI, rfl⟩
    | exact ⟨_, _, hI, rfl⟩
  refine wpAny_bind (wpAny_attempt (wpAny_callSpecial?_slot hT slot_si_next (wpAny_call_entry slot_si_next hT entry_si_next (wpAny_bind (wpAny_pure (wpAny_bind (wpAny_fieldsOf hI rfl ?_)))))))
  show wpAny _ _ (setEntries S >>= _) _ _ _
  refine wpAny_bind (wpAny_setEntries_of hS hd hf ?_)
  show wpAny _ _ (ite (((es.size : Int) != (es.size : Int)) = true) _ _) _ _ _
  rw [if_neg (by simp)]
  show wpAny _ _ (seqItems? (.ref T) >>= _) _ _ _
  refine wpAny_bind (wpAny_seqItems hT2 rfl ?_)
  dsimp only
  rw [List.getElem?_toArray, Int.toNat_natCast, List.getElem?_map]
  cases hx : ps[i]? with
  | some p =>
    have lp := hp p (List.mem_of_getElem? hx)
    have ge : es[p]? = some es[p] := Array.getElem?_eq_getElem lp
    show wpAny _ _ (setNextDrawn S p ep >>= _) _ _ _
    refine wpAny_bind ?_
    unfold setNextDrawn
    refine wpAny_bind (wpAny_setState_of hS hd hf ?_)
    show wpAny _ _ (ite ((ep != ep) = true) _ _) _ _ _
    rw [if_neg (by simp)]
    show wpAny _ _ (match es[p]? with | some (_, x) => pure x | _ => _) _ _ _
    rw [ge]
    refine wpAny_pure ?_
    refine wpAny_bind (wpAny_setField_rec hI (by show 1 < 5; decide) fun h1 g1 sb1 => ?_)
    exact wpAny_pure ⟨_, rfl, wpAny_pure (hq p es[p] h1 hx ge g1 fun b o hb q => (sb1.2 b hb).trans q)⟩
  | none =>
    show wpAny _ _ (setField (.ref I) 0 (rawInt 0) >>= _) _ _ _
    refine wpAny_bind (wpAny_setField_rec hI (by show 0 < 5; decide) fun h1 g1 sb1 => ?_)
    refine wpAny_bind (wpAny_setField_rec g1 (by show 2 < 5; decide) fun h2 g2 sb2 => ?_)
    refine stop_I (Q := fun _ _ => True) (by exact hh) fun x h' hk hx' => ?_
    exact wpAny_bind (wpAny_isInstance (T := "StopIteration") hx' isSubtype_stop (wpAny_pure (he h' hx fun b o hb q => hk b o ((sb2.2 b hb).trans ((sb1.2 b hb).trans q)))))
theorem snext_t {f i : Nat} {Q : Option (Value × Nat) → Shared → Prop} (hb : byT w = true) (hS : s.heap.get? S = some o) (hd : o.data = .set es ep t) (hf : t.fits es.size = true)
    (h : Q (((pickOrder (w.params.setOrder S ep) es)[i]?).map fun e => (e.2, f)) s) : wpAny (model P w) A (setNext S f i ep) Q E s := by
  unfold byT at hb
  unfold setNext setsByText
  refine wpAny_bind (wpAny_setState_of hS hd hf ?_)
  refine wpAny_bind (wpAny_bind (wpAny_askSetting (wpAny_pure ?_)))
  show wpAny _ _ (ite (w.params.followText "set-order" = true) _ _) _ _ _
  rw [if_pos hb]
  show wpAny _ _ (ite ((ep != ep) = true) _ _) _ _ _
  rw [if_neg (by simp)]
  unfold setWalk setsByText
  refine wpAny_bind (wpAny_bind (wpAny_setState_of hS hd hf ?_))
  refine wpAny_bind (wpAny_bind (wpAny_askSetting (wpAny_pure ?_)))
  show wpAny _ _ (ite (w.params.followText "set-order" = true) _ _) _ _ _
  rw [if_pos hb]
  exact wpAny_bind (wpAny_askSetting (wpAny_pure (wpAny_pure h)))
theorem snext_l {f i : Nat} {Q : Option (Value × Nat) → Shared → Prop} (hb : byT w = false) (hp : (!t.plain && decide (es.size > 1)) = false) (hl : t.led = true) (hS : s.heap.get? S = some o) (hd : o.data = .set es ep t) (hf : t.fits es.size = true)
    (h : Q (match es[SetTable.below t.place f]?, t.place[SetTable.below t.place f]? with | some (_, x), some j => some (x, j + 1) | _, _ => none) s) : wpAny (model P w) A (setNext S f i ep) Q E s := by
  unfold byT at hb
  unfold setNext setsByText
  refine wpAny_bind (wpAny_setState_of hS hd hf ?_)
  refine wpAny_bind (wpAny_bind (wpAny_askSetting (wpAny_pure ?_)))
  show wpAny _ _ (ite (w.params.followText "set-order" = true) _ _) _ _ _
  rw [if_neg (by rw [hb]; simp)]
  show wpAny _ _ (ite ((!t.plain && decide (es.size > 1)) = true) _ _) _ _ _
  rw [if_neg (by rw [hp]; simp)]
  show wpAny _ _ (ite ((!t.led && !es.isEmpty) = true) _ (pure ()) >>= _) _ _ _
  rw [if_neg (by rw [hl]; simp)]
  exact wpAny_bind (wpAny_pure (wpAny_pure h))
end
end L2
set_option Elab.async false
set_option linter.all false
set_option maxRecDepth 100000
set_option maxHeartbeats 1000000
namespace L2
open PySem PySem.Spec PyProof.Rows
theorem entry_si_iter : entryFor table "set_iterator.__iter__" = some Builtin.«dict_keyiterator.__iter__» := entryFor_alias (id' := "dict_keyiterator.__iter__") (by kernel_rfl) rfl (by decide +kernel) (by kernel_rfl)
theorem fm_len {α : Type} {es : Array α} : ∀ (ps : List Nat), (∀ p ∈ ps, p < es.size) → (ps.filterMap fun p => es[p]?).length = ps.length
  | [], _ => rfl
  | p :: ps, h => by
    rw [List.filterMap_cons, Array.getElem?_eq_getElem (h p (.head _))]
    simp [fm_len ps fun q hq => h q (.tail _ hq)]
theorem fm_at {α : Type} {es : Array α} : ∀ (ps : List Nat), (∀ p ∈ ps, p < es.size) → ∀ i : Nat, (ps.filterMap fun p => es[p]?)[i]? = (ps[i]?).bind fun p => es[p]?
  | [], _, i => by simp
  | p :: ps, h, i => by
    rw [List.filterMap_cons, Array.getElem?_eq_getElem (h p (.head _))]
    cases i with
    | zero => simp [h p (.head _)]
    | succ i => simpa using fm_at ps (fun q hq => h q (.tail _ hq)) i
section
variable {P : Program} {w : World} {A : Around} {E : Value → Shared → Prop} {s : Shared} {I S : Addr} {o : Obj} {es : Array (Int × Value)} {ep : Nat} {t : SetTable}
theorem si_self {f : Value} {i n : Nat} {Q : Value → Shared → Prop} (hI : s.heap.get? I = some (itO f i S n ep)) (h : Q (.ref I) s) : wpAny (model P w) A (pyIter (.ref I)) Q E s := by
  have hT : s.TypeIs (.ref I) "set_iterator" := by
    first
    | exact ⟨_, hI, rfl⟩
    | exact ⟨_, _, hI, rfl⟩
  refine wpAny_pyIter_slot hT slot_si_iter (wpAny_call_entry slot_si_iter hT entry_si_iter ?_)
  exact (show wpAny _ _ (ret (.ref I)) _ _ s from wpAny_pure ⟨_, rfl, "set_iterator", _, hT, slot_si_next.lookup, h⟩)
theorem walk_led (hh : A.handled = none) (hne : S ≠ I) (hd : o.data = .set es ep t) (hf : t.fits es.size = true) (vs : List Value) (nx : Nat → Nat)
    (hs : ∀ i (s : Shared), i ≤ vs.length → s.heap.get? S = some o → ∀ (A : Around) (E : Value → Shared → Prop) (q : Option (Value × Nat) → Shared → Prop), q ((vs[i]?).map fun x => (x, nx (i + 1))) s → wpAny (model P w) A (setNext S (nx i) i ep) q E s) :
    Walks P w A I [I, S] [I] vs.length (fun i v => vs[i]? = some v) (fun i h => h.get? I = some (itO (rawInt (nx i : Nat)) i S es.size ep) ∧ h.get? S = some o) where
  sub := fun b hb => by simp at hb; simp [hb]
  frame := fun _ _ _ st hk => ⟨hk I (by simp) _ st.1, hk S (by simp) _ st.2⟩
  item := fun i s Q E hi st hQ => by
    have gv : vs[i]? = some vs[i] := List.getElem?_eq_getElem hi
    refine next_led hh st.1 st.2 hd hf (hs i s (by omega) st.2) (fun x k h' e g kp => ?_) (fun h' e => ?_)
    · rw [gv] at e
      simp only [Option.map_some, Option.some.injEq, Prod.mk.injEq] at e
      obtain ⟨rfl, rfl⟩ := e
      exact hQ _ h' s.toks gv ⟨g, kp S _ hne st.2⟩ fun b o hb q => kp b o (fun z => hb (by simp [z])) q
    · rw [gv] at e; cases e
  done := fun s Q E st hQ => by
    have gn : vs[vs.length]? = none := by simp
    refine next_led hh st.1 st.2 hd hf (hs vs.length s (Nat.le_refl _) st.2) (fun x k h' e g kp => ?_) (fun h' e kp => ?_)
    · rw [gn] at e; cases e
    · exact hQ h' s.toks fun b o hb q => kp b o (fun z => hb (by simp [z])) q
  self := fun _ _ _ _ st hQ => si_self st.1 hQ
theorem walk_drawn {T : Addr} (hh : A.handled = none) (hne : S ≠ I) (hn2 : T ≠ I) (hd : o.data = .set es ep t) (hf : t.fits es.size = true) (ps : List Nat) (hp : ∀ p ∈ ps, p < es.size) (hl : ps.length = es.size) :
    Walks P w A I [I, S, T] [I] (ps.filterMap fun p => es[p]?).length (fun i v => (((ps.filterMap fun p => es[p]?).map (·.2))[i]? = some v)) (fun i h => h.get? I = some (itO (.ref T) i S es.size ep) ∧ h.get? S = some o ∧ h.get? T = some { cls := .type "tuple", data := .seq (ps.map fun p => rawInt (p : Nat)).toArray }) where
  sub := fun b hb => by simp at hb; simp [hb]
  frame := fun _ _ _ st hk => ⟨hk I (by simp) _ st.1, hk S (by simp) _ st.2.1, hk T (by simp) _ st.2.2⟩
  item := fun i s Q E hi st hQ => by
    have fm := fm_at ps hp
    refine next_drawn hh st.1 st.2.2 st.2.1 hd hf (fun p e h' e1 e2 g kp => ?_) hp (fun h' e => ?_)
    · refine hQ _ h' s.toks ?_ ⟨g, kp S _ hne st.2.1, kp T _ hn2 st.2.2⟩ fun b o hb q => kp b o (fun z => hb (by simp [z])) q
      rw [List.getElem?_map, fm, e1]
      simp [e2]
    · have : ps.length ≤ i := List.getElem?_eq_none_iff.mp e
      rw [fm_len ps hp] at hi
      omega
  done := fun s Q E st hQ => by
    refine next_drawn hh st.1 st.2.2 st.2.1 hd hf (fun p e h' e1 e2 g kp => ?_) hp (fun h' e kp => ?_)
    · rw [fm_len ps hp] at e1
      simp at e1
    · exact hQ h' s.toks fun b o hb q => kp b o (fun z => hb (by simp [z])) q
  self := fun _ _ _ _ st hQ => si_self st.1 hQ
end
end L2
set_option Elab.async false
set_option linter.all false
set_option maxRecDepth 100000
set_option maxHeartbeats 1000000
namespace L2
open PySem PySem.Spec PyProof.Rows
def nxS (t : SetTable) : Nat → Nat
  | 0 => 0
  | k + 1 => t.place.getD k 0 + 1
section
variable {P : Program} {w : World} {A : Around} {E : Value → Shared → Prop} {s : Shared} {I S : Addr} {o : Obj} {es : Array (Int × Value)} {ep : Nat} {t : SetTable}
theorem keys_of : ∀ {l : List (Int × Value)}, ElemsOf (intKind P w) l → ∃ ms, IntsAre (l.map (·.2)) ms ∧ ∀ k, k ∈ ms ↔ ∃ e ∈ l, (intKind P w).is k e.2 = true
  | [], _ => ⟨[], .nil, fun k => by simp⟩
  | e :: l, h => by
    obtain ⟨ms, h1, h2⟩ := keys_of h.tail
    obtain ⟨⟨k, hk, _⟩, _⟩ := h.head
    obtain ⟨tk, ev⟩ := Value.isInt_shape hk
    refine ⟨k :: ms, by rw [List.map_cons, ev]; exact .cons k tk h1, fun j => ?_⟩
    rw [List.mem_cons, h2 j]
    constructor
    · rintro (rfl | ⟨y, hy, q⟩)
      · exact ⟨e, .head _, hk⟩
      · exact ⟨y, .tail _ hy, q⟩
    · rintro ⟨y, hy, q⟩
      rcases List.mem_cons.mp hy with rfl | hy
      · exact .inl ((intKind P w).inj _ j k q hk)
      · exact .inr ⟨y, hy, q⟩
theorem iter_I {ks : List Int} {Q : Value → Shared → Prop} (hh : A.handled = none) (hS : SetI P w s.heap S ks) (hk : ks.Nodup)
    (h : ∀ h' d I fp vs ms St, (∀ b o, s.heap.get? b = some o → h'.get? b = some o) → IntsAre vs ms → ms.Perm ks → Walks P w A I fp [I] vs.length (fun i v => vs[i]? = some v) St → St 0 h' → (∀ b ∈ fp, b = S ∨ s.heap.objs.size ≤ b) → s.heap.objs.size ≤ I → Q (.ref I) { s with heap := h', drawn := d }) :
    wpAny (model P w) A (pyIter (.ref S)) Q E s := by
  obtain ⟨o, es, ep, t, ho, ex, d, el, me, bd, fi, le, ld⟩ := hS
  obtain ⟨⟨oc, od, oda, osl⟩, ho, ex, d⟩ : ∃ o : Obj, s.heap.get? S = some o ∧ o.ExactSet ∧ o.data = .set es ep t := ⟨o, ho, ex, d⟩
  have hT : s.TypeIs (.ref S) "set" := ⟨_, ho, ex.1⟩
  have hlt : S < s.heap.objs.size := Heap.lt_size ho
  obtain ⟨ms, m1, m2⟩ := keys_of el
  have mp : ∀ {l : List (Int × Value)}, l.Perm es.toList → ∃ ms', IntsAre (l.map (·.2)) ms' ∧ ms'.Perm ks := fun {l} q => by
    obtain ⟨ms', a1, a2⟩ := keys_of (el.perm q)
    have hl : ms'.length = ks.length := by
      have := IntsAre.length a1
      rw [List.length_map, q.length_eq, Array.length_toList] at this
      omega
    refine ⟨ms', a1, perm_nodup hk (fun k kk => ?_) hl⟩
    obtain ⟨e, he, z⟩ := (me k).mp kk
    exact (a2 k).mpr ⟨e, q.mem_iff.mpr he, z⟩
  refine wpAny_pyIter_slot hT PySem.F.slot_set_iter (wpAny_call_entry PySem.F.slot_set_iter hT entry_s_iter ?_)
  unfold Builtin.«frozenset.__iter__» Builtin.Frozenset.slot0
  refine wpAny_bind (wpAny_bind (wpAny_pure (wpAny_pure ?_)))
  unfold Builtin.Frozenset.sizeOf
  refine wpAny_bind (wpAny_bind (wpAny_setEntries_of ho d fi (wpAny_pure ?_)))
  unfold setDrawn setsByText
  refine wpAny_bind (wpAny_bind (wpAny_setState_of ho d fi (wpAny_bind (wpAny_bind (wpAny_askSetting (wpAny_pure (wpAny_pure ?_)))))))
  show wpAny _ _ (ite ((!byT w && (!t.plain && decide (es.size > 1))) = true) (drawOrder es.size (List.range es.size) >>= _) _) _ _ _
  have hz : es.size ≤ sizeLine := fits_of_scanBound bd
  have fin : ∀ (f : Value) (h1 : Heap) (dr : Drawn) (fp : List Addr) (vs : List Value) (ms : List Int) (St : Nat → Heap → Prop), (∀ b o, s.heap.get? b = some o → h1.get? b = some o) → s.heap.objs.size ≤ h1.objs.size → IntsAre vs ms → ms.Perm ks →
      Walks P w A h1.objs.size fp [h1.objs.size] vs.length (fun i v => vs[i]? = some v) St → St 0 (h1.push (itO f 0 S es.size ep)) → (∀ b ∈ fp, b = S ∨ s.heap.objs.size ≤ b) →
      wpAny (model P w) A.in1 (do let e ← setEpoch S; let x ← newFields "set_iterator" [f, rawInt 0, Value.ref S, rawInt (es.size : Nat), rawInt (e : Nat)]; ret x) (fun fin s' => ∃ v, fin = Fin.done (Flow.ret v) ∧ ∃ T' r, s'.TypeIs v T' ∧ typeLookup (Value.type T') (Str.ofString "__next__") = pure (some r) ∧ Q v s') E { s with heap := h1, drawn := dr } := by
    intro f h1 dr fp vs ms St k1 k2 a1 a2 W st hb
    refine wpAny_bind (wpAny_setEpoch_of (s := { s with heap := h1, drawn := dr }) (k1 _ _ ho) d fi ?_)
    unfold newFields
    refine wpAny_bind (wpAny_newObj_type (wpAny_pure ⟨_, rfl, "set_iterator", _, ⟨_, Heap.get?_push_size _ rfl, rfl⟩, slot_si_next.lookup, ?_⟩) (by show 5 ≤ sizeLine + 2; decide))
    exact h _ dr _ fp vs ms St (fun b o q => Heap.get?_push_of_some _ (k1 b o q)) a1 a2 W st hb k2
  by_cases hdr : (!byT w && (!t.plain && decide (es.size > 1))) = true
  · rw [if_pos hdr]
    refine wpAny_bind (wp_order _ _ (by simp) fun ps dr hp => ?_)
    have lp : ∀ p ∈ ps, p < es.size := fun p q => List.mem_range.mp (hp.mem_iff.mp q)
    have ll : ps.length = es.size := by rw [hp.length_eq]; simp
    refine wpAny_bind (wpAny_newTuple ?_ (by rw [List.length_map, ll]; exact hz))
    have pp : (ps.filterMap fun p => es[p]?).Perm es.toList := (hp.filterMap _).trans (by rw [filterMap_getElem?_range])
    obtain ⟨ms', a1, a2⟩ := mp pp
    have nT : s.heap.objs.size ≠ (s.heap.push { cls := .type "tuple", data := .seq (ps.map fun i => rawInt (i : Nat)).toArray }).objs.size := by rw [Heap.size_push]; exact Nat.ne_of_lt (Nat.lt_succ_self _)
    have nS : S ≠ (s.heap.push { cls := .type "tuple", data := .seq (ps.map fun i => rawInt (i : Nat)).toArray }).objs.size := by rw [Heap.size_push]; exact Nat.ne_of_lt (Nat.lt_succ_of_lt hlt)
    have W := walk_drawn (P := P) (w := w) (A := A) hh nS nT d fi ps lp ll
    have el2 : (ps.filterMap fun p => es[p]?).length = ((ps.filterMap fun p => es[p]?).map (·.2)).length := by rw [List.length_map]
    rw [el2] at W
    refine fin (.ref s.heap.objs.size) _ dr [_, S, s.heap.objs.size] ((ps.filterMap fun p => es[p]?).map (·.2)) ms' _ (fun b o q => Heap.get?_push_of_some _ q) (by rw [Heap.size_push]; exact Nat.le_succ _) a1 a2 W ⟨Heap.get?_push_size _ rfl, Heap.get?_push_of_some _ (Heap.get?_push_of_some _ ho), Heap.get?_push_of_some _ (Heap.get?_push_size _ rfl)⟩ fun b hb => ?_
    rcases List.mem_cons.mp hb with rfl | hb
    · exact .inr (by rw [Heap.size_push]; exact Nat.le_succ _)
    · rcases List.mem_cons.mp hb with rfl | hb
      · exact .inl rfl
      · rw [List.mem_singleton.mp hb]; exact .inr (Nat.le_refl _)
  · rw [if_neg hdr]
    refine wpAny_bind (wpAny_pure ?_)
    have nS : S ≠ s.heap.objs.size := Nat.ne_of_lt hlt
    have hfp : ∀ b ∈ [s.heap.objs.size, S], b = S ∨ s.heap.objs.size ≤ b := fun b hb => by
      rcases List.mem_cons.mp hb with rfl | hb
      · exact .inr (Nat.le_refl _)
      · exact .inl (List.mem_singleton.mp hb)
    cases hb : byT w with
    | true =>
      have pp := pick_perm (w.params.setOrder S ep) es
      obtain ⟨ms', a1, a2⟩ := mp pp
      refine fin (rawInt 0) s.heap s.drawn [s.heap.objs.size, S] _ ms' _ (fun b o q => q) (Nat.le_refl _) a1 a2 (walk_led hh nS d fi _ (fun _ => 0) fun i z hi hz' A' E' q hq => snext_t hb hz' d fi ?_) ⟨Heap.get?_push_size _ rfl, Heap.get?_push_of_some _ ho⟩ hfp
      rw [List.getElem?_map, Array.getElem?_toList, Option.map_map] at hq
      exact hq
    | false =>
      obtain ⟨l1, l2⟩ := ld hb
      rw [hb] at hdr
      have hpl : (!t.plain && decide (es.size > 1)) = false := by
        cases z : (!t.plain && decide (es.size > 1)) with
        | false => rfl
        | true => rw [z] at hdr; exact absurd rfl hdr
      have sz : t.place.size = es.size := by
        simp only [SetTable.fits, Bool.and_eq_true, beq_iff_eq] at fi
        exact fi.1
      obtain ⟨ms', a1, a2⟩ := mp (l := es.toList) (.refl _)
      refine fin (rawInt 0) s.heap s.drawn [s.heap.objs.size, S] _ ms' _ (fun b o q => q) (Nat.le_refl _) a1 a2 (walk_led hh nS d fi _ (nxS t) fun i z hi hz' A' E' q hq => snext_l hb hpl l1 hz' d fi ?_) ⟨Heap.get?_push_size _ rfl, Heap.get?_push_of_some _ ho⟩ hfp
      rw [List.length_map, Array.length_toList] at hi
      have hbl : SetTable.below t.place (nxS t i) = i := by
        cases i with
        | zero => exact below_zero l2
        | succ k =>
          have lk : k < t.place.size := by omega
          have := below_next l2 lk
          simpa [nxS, Array.getD, lk] using this
      rw [hbl]
      rw [List.getElem?_map, Array.getElem?_toList] at hq
      by_cases hi' : i < es.size
      · have g1 : es[i]? = some es[i] := Array.getElem?_eq_getElem hi'
        have g2 : t.place[i]? = some t.place[i] := Array.getElem?_eq_getElem (by omega)
        rw [g1] at hq ⊢
        rw [g2]
        have e3 : t.place.getD i 0 = t.place[i] := by simp [Array.getD, show i < t.place.size by omega]
        simp only [Option.map_some, nxS, e3] at hq
        exact hq
      · have g1 : es[i]? = none := Array.getElem?_eq_none (by omega)
        rw [g1] at hq ⊢
        exact hq
end
end L2
set_option Elab.async false
set_option linter.all false
set_option maxRecDepth 100000
set_option maxHeartbeats 1000000
namespace L2
open PySem PySem.Spec PyProof.Rows
section
variable {P : Program} {w : World} {A : Around} {E : Value → Shared → Prop} {s : Shared} {S : Addr}
theorem hint_set {Q : Bool → Shared → Prop} (hT : s.TypeIs (.ref S) "set") (h : Q false s) : wpAny (model P w) A (Builtin.List.listLengthHint (.ref S)) Q E s := by
  unfold Builtin.List.listLengthHint
  refine wpAny_bind (wpAny_specialOf hT PySem.F.slot_set_len.lookup ?_)
  generalize hid : ("set.__len__" : String) = id0
  wp_delta
  rw [show splitId id0 = some ("set", "__len__") from by subst hid; decide +kernel]
  subst hid
  refine wpAny_bind (wpAny_isInstance (T := "set") (b := true) hT (by rw [isSubtype_type]; kernel_rfl) ?_)
  refine wpAny_ite_split (fun z => absurd z (by decide)) (fun _ => wpAny_ite_split (fun _ => wpAny_bind (wpAny_typeOf hT (wpAny_pure h))) (fun z => absurd (by decide +kernel) z))
theorem ext_I {ks : List Int} {R : Result → Shared → Prop} (hh : A.handled = none) (hS : SetI P w s.heap S ks) (hk : ks.Nodup) (hz : ks.length < 4096) (L : Addr) (hL : L ≠ S) (res : Value) (c : Nat) (gL : s.heap.get? L = some { cls := .type "list", data := .seq #[] c })
    (hR : ∀ h' tk dr acc c' ms, (∀ b o, b ≠ L → s.heap.get? b = some o → h'.get? b = some o) → h'.get? L = some { cls := .type "list", dict := none, data := .seq acc c', slots := #[] } → IntsAre acc.toList ms → ms.Perm ks → R (.ok (.ret res)) { s with heap := h', toks := tk, drawn := dr }) :
    wpAny (model P w) A.in1 (Builtin.List.listExtendWith (.ref L) (.ref S) res)
      (fun fin s' => match fin with | .done f => R (.ok f) s' | .again c' => c'.quiet = true ∧ codeAny (model P w) A c' R s') (fun e s' => R (.error e) s') s := by
  have hT : s.TypeIs (.ref S) "set" := by
    obtain ⟨o, _, _, _, ho, ex, _⟩ := hS
    exact ⟨_, ho, ex.1⟩
  have lL := Heap.lt_size gL
  unfold Builtin.List.listExtendWith
  refine wpAny_bind (wpAny_typeOf (T := "set") hT ?_)
  have h1 : Builtin.List.listSameRef (.ref L) (.ref S) = false := by simp [Builtin.List.listSameRef, hL]
  have h2 : (Value.type "set" == Value.type "list") = false := by decide
  have h3 : (Value.type "set" == Value.type "tuple") = false := by decide
  simp only [h1, h2, h3, Bool.or_false, Bool.false_eq_true, if_false]
  refine wpAny_bind (iter_I (A := A.in1) hh hS hk fun h' dr I fp vs ms St kp a1 a2 W st hb hI => ?_)
  have nf : L ∉ fp := fun q => by
    rcases hb L q with e | e
    · exact hL e
    · exact absurd lL (Nat.not_lt.mpr e)
  have vl : vs.length ≤ sizeLine := by
    have := IntsAre.length a1
    have := a2.length_eq
    exact fits_of_scanBound (show vs.length < scanBound by unfold scanBound; omega)
  have key : ∀ (h : Heap) (c1 : Nat), St 0 h → (∀ b o, b ≠ L → s.heap.get? b = some o → h.get? b = some o) → h.get? L = some { cls := .type "list", data := .seq #[] c1 } →
      codeAny (model P w) A (.builtin "list.extend.loop" ⟨[.ref L, .ref I, res], []⟩) R { s with heap := h, drawn := dr } := by
    intro h c1 st' hk' gL'
    refine codeAny_extend_loopS W.toS vl L nf res vs.length 0 _ #[] c1 rfl (Nat.zero_le _) st' gL' (ItemsOf.nil _) fun z acc c2 hm gz ha => ?_
    rw [Moved.eq_with hm]
    refine hR z.heap z.toks dr acc c2 ms (fun b o hb' e => hm.heap b o (fun q => ?_) (hk' b o hb' e)) gz ?_ a2
    · rcases List.mem_cons.mp q with e' | q
      · exact hb' e'
      · have := Heap.lt_size e
        rw [List.mem_singleton.mp q] at this
        exact absurd this (Nat.not_lt.mpr hI)
    · have : acc.toList = vs := by
        refine List.ext_getElem? fun j => ?_
        rw [Array.getElem?_toList]
        by_cases hj : j < acc.size
        · have g : acc[j]? = some acc[j] := Array.getElem?_eq_getElem hj
          rw [g]; exact (ha.2 j _ g).symm
        · have l2 := ha.1
          rw [Array.getElem?_eq_none (by omega), List.getElem?_eq_none (by omega)]
      rw [this]; exact a1
  have g1 := kp _ _ gL
  refine wpAny_bind (wpAny_holding (hint_set (s := { s with heap := h', drawn := dr }) (by obtain ⟨o, ho, ec⟩ := hT; exact ⟨o, kp _ _ ho, ec⟩) ?_))
  refine wpAny_ite_split (fun _ => ?_) (fun _ => wpAny_pure ⟨plainId_quiet PySem.F.plain_extend_loop _, key _ c st (fun b o _ e => kp b o e) g1⟩)
  refine wpAny_bind (wpAny_rule (wpAny_bind ?_))
  show wpAny _ _ (updateSeq L (·.push .none) >>= fun _ => updateSeq L (·.pop)) _ _ _
  refine wpAny_bind (wpAny_updateSeq g1 rfl ?_)
  have g2 := Heap.get?_update_self (Obj.mapSeq (·.push Value.none)) g1 rfl
  refine wpAny_updateSeq (hz := by seq_fits) g2 rfl ?_
  have g3 := Heap.get?_update_self (Obj.mapSeq (·.pop)) g2 rfl
  refine wpAny_pure ⟨plainId_quiet PySem.F.plain_extend_loop _, key _ _ (W.frame 0 _ _ st fun b hb o e => ?_) (fun b o hb e => ?_) g3⟩
  · have nb : L ≠ b := fun z => nf (z ▸ hb)
    exact (Heap.get?_update_other _ _ nb).trans ((Heap.get?_update_other _ _ nb).trans e)
  · exact (Heap.get?_update_other _ _ (Ne.symm hb)).trans ((Heap.get?_update_other _ _ (Ne.symm hb)).trans (kp _ _ e))
theorem collect_I {ks : List Int} {R : List Value → Shared → Prop} (hh : A.handled = none) (hS : SetI P w s.heap S ks) (hk : ks.Nodup) (hz : ks.length < 4096)
    (h : ∀ h' tk dr vs ms, (∀ b o, s.heap.get? b = some o → h'.get? b = some o) → s.heap.objs.size ≤ h'.objs.size → IntsAre vs ms → ms.Perm ks → R vs { s with heap := h', toks := tk, drawn := dr }) : wpAny (model P w) A (collect (.ref S)) R E s := by
  have lS : S < s.heap.objs.size := by obtain ⟨o, _, _, _, ho, _⟩ := hS; exact Heap.lt_size ho
  unfold collect
  refine wpAny_bind (wpAny_runValue (codeAny_builtin entry_proto_collect' ?_))
  rw [Around.under_plainId PySem.F.plain_proto_collect _]
  refine (show wpAny _ A.in1 (newList [] >>= fun l => again (.builtin "list.__iadd__" ⟨[l, .ref S], []⟩)) _ _ s from wpAny_bind (wpAny_newObj_type (wpAny_pure ⟨plainId_quiet PySem.F.plain_list_iadd _, codeAny_builtin entry_list_iadd' ?_⟩)))
  rw [Around.under_plainId PySem.F.plain_list_iadd _]
  have gL : (s.heap.push { cls := .type "list", data := .seq ([] : List Value).toArray }).get? s.heap.objs.size = some { cls := .type "list", data := .seq #[] } := Heap.get?_push_size _ rfl
  show wpAny _ A.in1 (Builtin.List.listExtendWith (.ref s.heap.objs.size) (.ref S) (.ref s.heap.objs.size)) _ _ _
  have key := ext_I (A := A) (s := { s with heap := s.heap.push { cls := .type "list", data := .seq ([] : List Value).toArray } })
    (R := fun (q : Result) (z : Shared) => ∃ (h' : Heap) (tk : Nat) (dr : Drawn) (acc : Array Value) (c' : Nat) (ms : List Int), q = .ok (.ret (.ref s.heap.objs.size)) ∧ z = { s with heap := h', toks := tk, drawn := dr } ∧ (∀ b o, s.heap.get? b = some o → h'.get? b = some o) ∧ h'.get? s.heap.objs.size = some { cls := .type "list", dict := none, data := .seq acc c', slots := #[] } ∧ IntsAre acc.toList ms ∧ ms.Perm ks)
    hh (hS.kept fun o e => Heap.get?_push_of_some _ e) hk hz s.heap.objs.size (Nat.ne_of_gt lS) (.ref s.heap.objs.size) 0 gL
    (fun h' tk dr acc c' ms k1 g a1 a2 => ⟨h', tk, dr, acc, c', ms, rfl, rfl, fun b o e => k1 b o (Nat.ne_of_lt (Heap.lt_size e)) (Heap.get?_push_of_some _ e), g, a1, a2⟩)
  refine wpAny_mono key (fun fin z x => ?_) fun e z x => ?_
  · cases fin with
    | done f =>
      obtain ⟨h', tk, dr, acc, c', ms, e, rfl, k1, g, a1, a2⟩ := x
      cases e
      exact (show wpAny _ A (load s.heap.objs.size >>= _) _ _ _ from wpAny_bind (wpAny_load g (wpAny_pure (h h' tk dr _ ms k1 (Nat.le_of_lt (Heap.lt_size g)) a1 a2))))
    | again c1 =>
      refine ⟨x.1, codeAny_mono x.2 fun q z2 y => ?_⟩
      obtain ⟨h', tk, dr, acc, c', ms, rfl, rfl, k1, g, a1, a2⟩ := y
      exact (show wpAny _ A (load s.heap.objs.size >>= _) _ _ _ from wpAny_bind (wpAny_load g (wpAny_pure (h h' tk dr _ ms k1 (Nat.le_of_lt (Heap.lt_size g)) a1 a2))))
  · obtain ⟨_, _, _, _, _, _, e', _⟩ := x
    cases e'
theorem sort_I {ks : List Int} {Q : Value → Shared → Prop} (hh : A.handled = none) (hS : SetI P w s.heap S ks) (hk : ks.Nodup) (h64 : ks.length < 64)
    (h : ∀ h' tk dr D out e ns', (∀ b o, s.heap.get? b = some o → h'.get? b = some o) → s.heap.objs.size ≤ D → h'.get? D = some (seqObj "list" out e) → IntsAre out.toList ns' → ns'.Perm ks → ns'.Pairwise (· ≤ ·) → Q (.ref D) { s with heap := h', toks := tk, drawn := dr }) :
    wpAny (model P w) A (call (.builtin "sorted") [.ref S]) Q E s := by
  refine Calls.call_function_entry kind_sorted plain_sorted entry_sorted (args_sorted1 _) ?_
  unfold Builtin.«sorted»
  refine wpAny_bind (m := checkCount "sorted" 1 1 _) (wpAny_pure ?_)
  refine wpAny_bind (collect_I (A := A.in1) hh hS hk (by omega) fun h' tk dr vs ms k1 sz a1 a2 => ?_)
  have l1 : vs.length < 64 := by
    have := IntsAre.length a1
    have := a2.length_eq
    omega
  refine wpAny_bind (wpAny_newList ?_ (fits_of_scanBound (by unfold scanBound; omega)))
  have gD : (h'.push (seqObj "list" vs.toArray 0)).get? h'.objs.size = some (seqObj "list" vs.toArray 0) := Heap.get?_push_size _ rfl
  refine wpAny_bind (wpAny_holding (wpAny_call_entry slot_list_sort ⟨_, gD, rfl⟩ entry_list_sort (list_sort_tree (s := { s with heap := h'.push (seqObj "list" vs.toArray 0), toks := tk, drawn := dr }) gD a1 l1 fun out ns' b1 b2 b3 => ⟨_, rfl, ?_⟩) (args_list_sort _)))
  obtain ⟨e, ge⟩ := sortedHeap_at (out := out) gD
  refine wpAny_pure ⟨_, rfl, h _ tk dr h'.objs.size out e ns' (fun b o q => ?_) sz ge b1 (b2.trans a2) b3⟩
  have lb := Heap.lt_size (k1 b o q)
  rw [sortedHeap_old (Nat.ne_of_lt lb) (by rw [size_push']; exact Nat.lt_succ_of_lt lb)]
  exact Heap.get?_push_of_some _ (k1 b o q)
end
end L2
set_option Elab.async false
set_option linter.all false
set_option maxRecDepth 100000
namespace L2
open PySem PySem.Spec PyProof.Rows
theorem Inv.drawn {X : Cx} {pins : List (Addr × Obj)} {σ : List (Option V)} {H : Hp} {s : Shared} (I : Inv X pins σ H s) (d : Drawn) : Inv X pins σ H { s with drawn := d } :=
  ⟨I.ok, I.os, I.bare, I.base, I.loc, I.cell, I.free, I.freeC, I.pin, I.hok, I.len⟩
theorem met_mem (f : Nat → Int) : ∀ (n : Nat) (k : Int), k ∈ firstMet f n ↔ ∃ i, i < n ∧ f i = k
  | 0, k => by simp [firstMet_zero]
  | n + 1, k => by
    rw [firstMet_succ, dd_mem, met_mem f n k]
    constructor
    · rintro (⟨i, h, e⟩ | rfl)
      · exact ⟨i, by omega, e⟩
      · exact ⟨n, by omega, rfl⟩
    · rintro ⟨i, h, e⟩
      by_cases z : i = n
      · subst z; exact .inr e.symm
      · exact .inl ⟨i, by omega, e⟩
theorem met_nodup (f : Nat → Int) : ∀ n, (firstMet f n).Nodup
  | 0 => by simp [firstMet_zero]
  | n + 1 => by
    rw [firstMet_succ]
    by_cases h : f n ∈ firstMet f n
    · rw [dd_in h]; exact met_nodup f n
    · rw [dd_out h, List.nodup_append]
      refine ⟨met_nodup f n, by simp, fun a ha b hb e => h ?_⟩
      rw [List.mem_singleton.mp hb] at e
      exact e ▸ ha
theorem met_all (ns : List Int) (k : Int) : k ∈ firstMet (fun i => ns.getD i 0) ns.length ↔ k ∈ ns := by
  rw [met_mem]
  constructor
  · rintro ⟨i, h, e⟩
    rw [List.getD_eq_getElem?_getD, List.getElem?_eq_getElem h] at e
    rw [← e]; exact List.getElem_mem h
  · intro h
    obtain ⟨i, hi, e⟩ := List.getElem_of_mem h
    exact ⟨i, hi, by rw [List.getD_eq_getElem?_getD, List.getElem?_eq_getElem hi]; exact e⟩
def tSortSet (K : PySem.W.Frag) (ta : TA) : TE := fun σ H Q => ta σ H fun vs H1 => ∃ (p : Addr) (ns : List Int), vs = [.ref p] ∧ SqL K H1 p (ns.map V.int) ∧ ns.length < 64 ∧ ∀ ns' : List Int, ns'.Pairwise (· < ·) → (∀ x, x ∈ ns' ↔ x ∈ ns) → ∀ l, H1 l = none → Q (.ref l) (upd H1 l (.lst (ns'.map V.int)))
theorem pe_sortSet (K : PySem.W.Frag) {X : Cx} {a : Expr} {ta : TA} {p p2 pos pos2 : Pos} (hc : X.calm = true) (hg1 : Gl X "sorted") (hm1 : X.mg "sorted" = none) (hg : Gl X "set") (hm : X.mg "set" = none) (ha : PA X [a] ta) (hK : X.K = K := by rfl)
    (ho : starEach [.Call (.Name "set" p2) [a] [] pos2] X.env = [(false, eval (.Call (.Name "set" p2) [a] [] pos2) X.env)] := by rfl) (hs : starEach [a] X.env = [(false, eval a X.env)] := by rfl) (hpl : (backTo pos (starEach [] X.env)).any (·.1) = false := by rfl) :
    PE X (.Call (.Name "sorted" p) [.Call (.Name "set" p2) [a] [] pos2] [] pos) (tSortSet K ta) := by
  subst hK
  intro pins s σ H Q I h
  refine Call_ (ld_blt I hg1 hm1 bt_sorted ?_)
  refine PyProof.Rows.callWith_builtin1 ?_ (by rw [ho]; rfl) hpl
  rw [ho]
  show wpAny _ _ (spliced [(false, eval (.Call (.Name "set" p2) [a] [] pos2) X.env)]) _ _ s
  refine Calls.spliced_cons ?_
  refine Call_ (ld_blt I hg hm bt_set (PyProof.Rows.callWith_type1 (thn (ha pos2 pins s σ H _ I h) fun us s1 ⟨vs, H1, I1, r1, q1⟩ => ?_) hs rfl))
  obtain ⟨l, ns, rfl, hq, hn, q⟩ := q1
  obtain ⟨u, rfl, ru⟩ := vals1 r1
  cases ru
  obtain ⟨its, rv, pl, hz⟩ := I1.list hq
  have hl : its.length = ns.length := by have := rv.length; rw [List.length_map] at this; omega
  refine set_I (I1.ok.hd hc) pl.isList (intsAre_of rv) (by rw [List.size_toArray, hl]; show _ < 4096; omega) fun h' tk hS hk => Calls.spliced_nil ?_
  rw [show its.toArray.size = ns.length by rw [List.size_toArray, hl]] at hS
  have hle := firstMet_length_le (fun i => ns.getD i 0) ns.length
  refine sort_I (s := { s1 with heap := h', toks := tk }) (by exact I1.ok.hd hc) hS (met_nodup _ _) (by omega) fun h2 tk2 dr D out e ns' k2 sz ge b1 b2 b3 => ?_
  have hlen : ns'.length < 64 := by rw [b2.length_eq]; omega
  have I2 : Inv X pins σ H1 { s1 with heap := h', toks := tk } := I1.kept (t' := tk) hk
  have hst : ns'.Pairwise (· < ·) := by
    have nd : ns'.Nodup := b2.nodup_iff.mpr (met_nodup _ _)
    exact (List.Pairwise.and b3 nd).imp fun {a b} z => by have h1 := z.1; have h2 := z.2; omega
  have hm' : ∀ x, x ∈ ns' ↔ x ∈ ns := fun x => by rw [b2.mem_iff]; exact met_all ns x
  have I3 := (I2.laid (t' := tk2) (o := .lst (ns'.map V.int)) k2 sz ⟨by rw [List.length_map]; exact Nat.le_of_lt (small1000 (n := ns'.length) (by omega)), out.toList, e, vals_ints b1, by rw [ge]⟩).drawn dr
  exact ⟨.ref D, _, I3, rfl, q ns' hst hm' D (I2.hok.fresh sz)⟩
section
variable {K : PySem.W.Frag} {ts : TA} {as : AA}
@[irreducible] def gSortSet (r : R) : AE := fun ρ q => match view ρ r with
  | some (.lst ds) => (match intsOf ds with | some ns => ns.length < 64 ∧ (∀ ns' : List Int, ns'.Pairwise (· < ·) → (∀ x, x ∈ ns' ↔ x ∈ ns) → q (.f (ns'.map D.int)) ρ) | none => False)
  | _ => False
def aSortSet (as : AA) : AE := fun ρ q => as ρ fun rs ρ1 => match rs with
  | [r] => gSortSet r ρ1 q
  | _ => False
theorem tok_sortSet (h : TAok K ts as) : TEok K (tSortSet K ts) (aSortSet as) := by
  intro F σ ρ H q Q r ha k
  refine h F σ ρ H _ _ r ha fun rs ρ1 vs H1 h1 r1 i1 k1 => ?_
  split at h1
  · obtain ⟨x, rfl, ix⟩ := i1.one
    unfold gSortSet at h1
    split at h1
    · rename_i ds e
      split at h1
      · rename_i ns e'
        obtain ⟨l, us, rfl, sq, rd⟩ := view_lst r1 ix e
        rw [intsOf_eq e', repInts] at rd
        rw [rd] at sq
        exact ⟨l, ns, rfl, sq, h1.1, fun ns' a1 a2 p hp => (k.after k1).new r1 (h1.2 ns' a1 a2) (repInts.mpr rfl) hp⟩
      · exact h1.elim
    · exact h1.elim
  · exact h1.elim
theorem gSortSet_ok {r : R} {ρ : En} {q : Ko} {ns : List Int} (hv : view ρ r = some (.lst (ns.map D.int))) (h64 : ns.length < 64) (h1 : ∀ ns' : List Int, ns'.Pairwise (· < ·) → (∀ x, x ∈ ns' ↔ x ∈ ns) → q (.f (ns'.map D.int)) ρ) : gSortSet r ρ q := by
  unfold gSortSet
  simp only [hv, intsOf_map]
  exact ⟨h64, h1⟩
end
end L2
set_option Elab.async false
set_option linter.all false
set_option maxRecDepth 100000
namespace L2
open PySem PySem.Spec PyProof.Rows
section
variable {X : Cx} {K : PySem.W.Frag} {S : ASp}
end
section
variable {K : PySem.W.Frag} {pr : Nat → Bool} {th : TS} {ah : AS} {S : ASp} {ts : TA} {as : AA}
end
end L2
set_option Elab.async false
set_option linter.all false
set_option maxRecDepth 100000
namespace L2
open PySem PySem.Spec PyProof.Rows PySem.W
section
variable {prog : Program} {w : World} {A : Around} {E : Value → Shared → Prop} {s : Shared} {env : Env}
variable {nm q : Str} {C N : Addr} {bs bm bmB : List Value} {hdct : Bool} {sn : List Str} {sub : List Value} {ab : Bool} {col : Option Bool} {dd : Option Addr} {k0 k1 k2 k3 k5 : Option Value} {B newId initId : String}
theorem Call_mk (F : ExcBaseFacts B newId initId bmB) {mN : Str → Option Value} {x : Str} {np cpos : Pos} {args : List Expr} {Q : Value → Shared → Prop} {fI : Addr} {oI : Obj}
    (hplain : (backTo cpos (starEach args env)).any (·.1) = false) (hi : mN "__init__" = some (.ref fI)) (hfc : oI.cls = .type "function")
    (h : wpAny (model prog w) A (eval (.Name x np) env) (fun f s1 => f = .ref C ∧ wpAny (model prog w) A (evalArgs (.ref C) true (backTo cpos (starEach args env)) [])
      (fun a s2 => a.kw = [] ∧ a.pos.length ≤ sizeLine ∧ s2.heap.get? C = some (excClassObj nm q C N bs bm hdct sn sub ab col dd k0 k1 k2 k3 k5 newId) ∧ s2.heap.Ns N mN ∧ OwnTail s2.heap bmB bm ∧ s2.heap.get? fI = some oI ∧
        ∀ h' e, Heap.MadeExcOf s2.heap h' e (.ref C) a.pos → wpAny (model prog w) (A.under (.builtin "type.__call__" ⟨.ref C :: a.pos, []⟩)) (call (.ref fI) (.ref e :: a.pos)) (fun r s' => r = .none ∧ Q (.ref e) s') E { s2 with heap := h' }) E s1) E s) :
    wpAny (model prog w) A (eval (.Call (.Name x np) args [] cpos) env) Q E s := by
  refine wpAny_Call_ofName (wpAny_mono h (fun f s1 h1 => ?_) fun _ _ x => x)
  obtain ⟨rfl, h1⟩ := h1
  unfold callWith
  refine wpAny_bind (wpAny_holding (wpAny_mono h1 (fun a s2 h2 => wpAny_bind (wpAny_standAt ?_)) fun _ _ x => x))
  obtain ⟨apos, akw⟩ := a
  obtain ⟨hkw, hlen, hC, hn, T, hfI, h2⟩ := h2
  obtain rfl : akw = [] := hkw
  obtain ⟨hp, g, d, tk, os⟩ := s2
  simp only [hplain]
  refine wpAny_bind (wpAny_keeperOf_exc hC ?_)
  refine wpAny_bind (call_init (hrest := hlen) F T hC hn hi hfI hfc fun h' e hm => wpAny_mono (h2 h' e hm) (fun r s' ⟨hr, hE⟩ => ⟨hr, ?_⟩) fun _ _ x => x)
  exact wpAny_bind (wpAny_holding (wpAny_point (wpAny_pure hE)))
end
section
variable {X : Cx} {C fI : Addr} {f x : Str}
def tMkI (C : Addr) (f : Str) (sp : Sp) (t0 : TE) : TE := fun σ H Q => t0 σ H fun v H1 => ∀ e, H1 e = none → sp [.ref e, v] (upd H1 e (.ext (exI e C none)))
  (fun r H2 => r = .non ∧ ∃ dx y, H2 e = some (.ext (exI e C (some dx))) ∧ H2 dx = some (.xd [(f, y)]) ∧ dx ≠ e ∧ H1 dx = none ∧ Q (.ref e) (upd (rm H2 e) e (.ext (exP e C (some dx))))) E0
theorem pe_mkI {k : Nat} {fd : FuncData} {ps : List Str} {sp : Sp} (hex : X.ex = []) (hm : X.mg x = some (.ref C)) (c : ExcI X.K C fI f) (F : FnOk X.prog X.w X.K X.mg X.base CX0 k fI fd ps sp) (hr : Room (k + 1) X.A) (hb : Binds X.K fd ps [])
    {e0 : Expr} {t0 : TE} {np cpos : Pos} (ha : PE X e0 t0) (hg : Gl X x := by rfl) (he : starEach [e0] X.env = [(false, eval e0 X.env)] := by rfl) (hdb : (x == ("__debug__" : Str)) = false := by decide) :
    PE X (.Call (.Name x np) [e0] [] cpos) (tMkI C f sp t0) := by
  intro pins s σ H Q I h
  obtain ⟨tl, N, nm, q, bs, sn, sub, ab, col, dd, k0, k1, k2, k3, k5, mN, hC, hN, hi, tw⟩ := (own_ini I.mod.kin c.cl).obj
  obtain ⟨oI, lkI, hfc⟩ := Option.map_eq_some_iff.mp (show (X.K.lookup fI).map (·.cls) = some (.type "function") from c.fn)
  refine Call_mk (k5 := k5) (k3 := k3) (k2 := k2) (k1 := k1) (k0 := k0) (dd := dd) (col := col) (ab := ab) (sub := sub) (sn := sn) (hdct := true) (bs := bs) (N := N) (q := q) (nm := nm) (C := C) (bm := tl) (mN := mN) (fI := fI) (oI := oI) PySem.F.excBase_ValueError (by rw [he]; rfl) hi hfc (ld_glob I hg hm ⟨rfl, ?_⟩ hdb)
  rw [he]
  refine Calls.evalArgs_plain (Calls.spliced_cons ?_)
  refine thn (ha pins s σ H _ I h) fun u s1 ⟨v, H1, I1, r1, q1⟩ => Calls.spliced_nil ?_
  refine ⟨rfl, by show (1 : Nat) ≤ _; decide, I1.bk _ _ hC, hN.keeps I1.bk, tw.keeps I1.bk, I1.kIn _ _ lkI, fun h' a mk => ?_⟩
  obtain ⟨tt, g1, g2, g3⟩ := mk.there
  have ua : H1 a = none := by
    cases z : H1 a with
    | none => rfl
    | some o =>
      obtain ⟨u, z'⟩ := I1.hok.get z
      rw [mk.new] at z'; cases z'
  have y0 := I1.back0 hex mk.new
  have ga : ∀ b o, s1.heap.get? b = some o → b ≠ a := fun b o z w => by rw [w, mk.new] at z; cases z
  have It := (I1.kept (t' := s1.toks) mk.keeps).track2 (e := a) (o := .ext (exI a C none)) ua y0
    (fun z => by obtain ⟨m1, ⟨o1, _, _, ho1, _⟩, _⟩ := id I1.loc; exact ga _ _ ho1 z)
    (fun x c q z => by obtain ⟨v, o1, ho1, _⟩ := I1.cell x c q; exact ga _ _ ho1 z)
    (fun p hp z => ga _ _ (I1.pin p hp).1 z) (exI.ok ⟨tt, g1⟩)
  have hl : ([Value.ref a, u] : List Value).length = ps.length := F.len _ _ _ _ (q1 a ua)
  refine wpAny_call (codeAny_mono (F.run _ X.stack _ _ ⟨[Value.ref a, u], []⟩ [Value.ref a, u] [.ref a, v] _ E0 (hr.make C [u] []) (It.env0.make C [u] []) (by have := hb _ [Value.ref a, u] It.kIn (by simpa using hl); simpa using this) (.cons rfl (.cons r1 .nil)) (q1 a ua)) fun rr s' hq => ?_)
  cases rr with
  | error ev => exact False.elim hq
  | ok fl =>
    cases fl with
    | next => exact False.elim hq
    | brk => exact False.elim hq
    | cont => exact False.elim hq
    | ret w' =>
      obtain ⟨v', H2, os, bare, un, hok, rv, ev, dx, y, e2, e3, ne, ud, qq⟩ := hq
      subst ev
      have I2 : Inv X pins σ H2 s' := It.call' os un hok bare fun b z => nomatch z
      have I3 := I2.untrack e2 y0
      obtain ⟨t1, g4⟩ := (I2.hok a _ e2).1
      have I4 := Inv.trackX (C := C) (od := some dx) I1 I3 hex rm_same mk.new ⟨_, _, g4, rfl, rfl, rfl⟩
      exact ⟨rv, .ref a, _, I4, rfl, qq⟩
end
end L2
set_option Elab.async false
set_option linter.all false
set_option maxRecDepth 100000
namespace L2
open PySem PySem.Spec PyProof.Rows PySem.W
section
variable {K : PySem.W.Frag} {C : Addr} {f : Str} {pr : Nat → Bool} {t0 : TE} {a0 : AE}
end
end L2
set_option Elab.async false
set_option linter.all false
set_option maxRecDepth 100000
namespace L2
open PySem PySem.Spec PyProof.Rows
mutual
def noL : D → Bool
  | .lst _ => false
  | .tup ds => noLs ds
  | _ => true
def noLs : List D → Bool
  | [] => true
  | d :: ds => noL d && noLs ds
end
section
variable {K : PySem.W.Frag} {H H' : Hp}
mutual
theorem RepD.tups (ht : ∀ a vs, StT H a vs → StT H' a vs) : ∀ {v : V} {d : D}, noL d = true → RepD K H v d → RepD K H' v d
  | v, .non, _, h => by unfold RepD at h ⊢; exact h
  | v, .bl b, _, h => by unfold RepD at h ⊢; exact h
  | v, .int i, _, h => by unfold RepD at h ⊢; exact h
  | v, .str x, _, h => by unfold RepD at h ⊢; exact h
  | v, .tup ds, z, h => by
    unfold RepD at h ⊢
    obtain ⟨a, vs, e, h1, h2⟩ := h
    exact ⟨a, vs, e, ht _ _ h1, RepDs.tups ht (by unfold noL at z; exact z) h2⟩
  | v, .lst ds, z, h => by unfold noL at z; cases z
theorem RepDs.tups (ht : ∀ a vs, StT H a vs → StT H' a vs) : ∀ {vs : List V} {ds : List D}, noLs ds = true → RepDs K H vs ds → RepDs K H' vs ds
  | [], [], _, _ => RepDs.nil
  | v :: vs, d :: ds, z, h => by
    unfold RepDs at h ⊢
    unfold noLs at z
    rw [Bool.and_eq_true] at z
    exact ⟨RepD.tups ht z.1 h.1, RepDs.tups ht z.2 h.2⟩
  | [], d :: ds, _, h => by unfold RepDs at h; exact h.elim
  | v :: vs, [], _, h => by unfold RepDs at h; exact h.elim
end
end
def svN : Sv → Bool
  | .un => true
  | .vl d => noL d
  | .ow ds => noLs ds
  | _ => false
def svNs : En → Bool
  | [] => true
  | s :: ss => svN s && svNs ss
theorem svNs_gt : ∀ {ss : En} (i : Nat), svNs ss = true → svN (gt ss i) = true
  | [], i, _ => rfl
  | s :: ss, 0, h => by unfold svNs at h; rw [Bool.and_eq_true] at h; exact h.1
  | s :: ss, i + 1, h => by unfold svNs at h; rw [Bool.and_eq_true] at h; exact svNs_gt i h.2
section
variable {K : PySem.W.Frag} {F : Fr} {σ : St} {ρ ρ' : En} {H H' : Hp} {vs : List V} {ss ss' : En} {Z Z' : Addr → Prop}
theorem SvOk.tups {Hh Hh' : Hp} {v : Option (Option V)} {s : Sv} (h : SvOk K Hh H v s) (z : svN s = true) (ht : ∀ a vs, StT Hh a vs → StT Hh' a vs) (k : ∀ l o, s.own = true → v = some (some (.ref l)) → H l = some o → H' l = some o) : SvOk K Hh' H' v s := by
  cases s with
  | un => trivial
  | vl d => obtain ⟨x, e, r⟩ := h; exact ⟨x, e, r.tups ht z⟩
  | ow ds => obtain ⟨l, vs, e, a, r⟩ := h; exact ⟨l, vs, e, k _ _ rfl e a, r.tups ht z⟩
  | tp n => cases z
  | dk kvs => cases z
  | dt kvs => cases z
  | ex C fs => cases z
  | sc ns => cases z
  | px d C fs => cases z
  | xl es => cases z
theorem Rel.without (r0 : Rel K (F0 vs ss H Z) (vs.map some) ss H) (r : Rel K (F0 vs ss H Z) (vs.map some) ss' H') (hn : svNs ss' = true) {l : Addr} {us : List V} (h0 : H l = none) (hl : H' l = some (.lst us)) (no : ¬ owned (vs.map some) ss' l) (hz : ∀ a, Z a → Nt H a) : Rel K (F0 vs ss H Z) (vs.map some) ss' (del H' l) := by
  refine ⟨r.len, fun a o e n => ?_, fun a z => ?_, r.zo, r.ow, r.mi, r.ml, fun a z => ?_, r.nd, fun i => (r.sl i).tups (svNs_gt i hn) (fun a xs h => ?_) fun b o ho e h => ?_⟩
  · rw [del_ne (ne_of_none (show H a = some o from e) h0)]; exact r.fr a o e n
  · have al : a ≠ l := fun q => (hz a z).1 (q ▸ h0)
    unfold Nt; rw [del_ne al]; exact r.zl a z
  · have al : a ≠ l := fun q => r0.ma a z (q ▸ h0)
    rw [del_ne al]; exact r.ma a z
  · obtain ⟨n, e⟩ := hid_some.mp h
    have al : a ≠ l := fun q => by rw [q, hl] at e; cases e
    exact hid_of n (by rw [del_ne al]; exact e)
  · have al : b ≠ l := fun q => no ⟨i, ho, q ▸ e⟩
    rw [del_ne al]; exact h
end
section
variable {K : PySem.W.Frag} {F : Fr} {σ : St} {ρ ρ' : En} {H H' : Hp} {rs : List R}
end
end L2
set_option Elab.async false
set_option linter.all false
set_option maxRecDepth 100000
namespace L2
open PySem PySem.Spec PyProof.Rows
def kept (pr : Nat → Bool) : Nat → En → En → Prop
  | k, s :: r, s' :: r' => (pr k = true → s' = s) ∧ kept pr (k + 1) r r'
  | _, [], [] => True
  | _, _, _ => False
section
variable {K : PySem.W.Frag} {pr prB : Nat → Bool}
end
end L2
set_option Elab.async false
set_option linter.all false
set_option maxRecDepth 100000
namespace L2
open PySem PySem.Spec PyProof.Rows
section
variable {K : PySem.W.Frag} {pr prB : Nat → Bool}
end
end L2
set_option Elab.async false
set_option linter.all false
set_option maxRecDepth 100000
namespace L2
open PySem PySem.Spec PyProof.Rows
section
variable {K : PySem.W.Frag} {pr : Nat → Bool}
end
end L2
set_option Elab.async false
set_option linter.all false
set_option maxRecDepth 100000
namespace L2
open PySem PySem.Spec PyProof.Rows
theorem pt_last : ∀ (ρ : En) (s z : Sv), pt (ρ ++ [z]) ρ.length s = ρ ++ [s]
  | [], s, z => rfl
  | x :: ρ, s, z => by
    show x :: pt (ρ ++ [z]) ρ.length s = x :: (ρ ++ [s])
    rw [pt_last ρ s z]
section
variable {K : PySem.W.Frag} {F : Fr} {σ : St} {ρ ρ' : En} {H H' : Hp}
theorem Rel.more (r : Rel K F σ ρ H) {l : Addr} {o : HO} {s : Sv} (hs' : s.own = true) (hd : SvOk K (hid H (hs F σ ρ)) (upd H l o) (some (some (.ref l))) s) (hn : H l = none) : Rel K F (σ ++ [some (.ref l)]) (ρ ++ [s]) (upd H l o) := by
  have x := r.ext 1
  have ng : ∀ a, ¬ F.pin σ.length a := fun a z => by
    have := r.mi _ _ z
    rw [List.getElem?_eq_none (Nat.le_refl _)] at this; cases this
  have sub : ∀ a, owned (σ ++ List.replicate 1 none) (ρ ++ List.replicate 1 .un) a → owned σ ρ a := fun a ⟨i, hi, e⟩ => by
    rw [gt_app] at hi
    rw [List.getElem?_append_left (by rw [r.len]; exact own_lt hi)] at e
    exact ⟨i, hi, e⟩
  have y := x.setF (i := σ.length) (l := l) (o := o) (s := s) hs' (hd.keep (hid_same fun a u e n => ⟨e, fun z => n (z.imp id (sub a))⟩) fun _ _ _ _ e => e) hn ng
  have e1 : (σ ++ List.replicate 1 none).set σ.length (some (.ref l)) = σ ++ [some (.ref l)] := by
    rw [List.set_append_right _ _ (Nat.le_refl _), Nat.sub_self]; rfl
  have e2 : pt (ρ ++ List.replicate 1 .un) σ.length s = ρ ++ [s] := by rw [r.len]; exact pt_last ρ s .un
  rwa [e1, e2] at y
end
end L2
set_option Elab.async false
set_option linter.all false
set_option maxRecDepth 100000
namespace L2
open PySem PySem.Spec PyProof.Rows
section
variable {X : Cx} {K : PySem.W.Frag}
end
section
variable {K : PySem.W.Frag}
end
end L2
set_option Elab.async false
set_option linter.all false
set_option maxRecDepth 100000
namespace L2
open PySem PySem.Spec PyProof.Rows
end L2
set_option Elab.async false
set_option linter.all false
set_option maxRecDepth 100000
namespace L2
open PySem PySem.Spec PyProof.Rows
section
variable {K : PySem.W.Frag} {td : TE} {ad : AE}
end
end L2
set_option Elab.async false
set_option linter.all false
set_option maxRecDepth 100000
namespace L2
open PySem PySem.Spec PyProof.Rows
section
variable {K : PySem.W.Frag}
end
end L2
set_option Elab.async false
set_option linter.all false
set_option maxRecDepth 100000
namespace L2
open PySem PySem.Spec PyProof.Rows
section
variable {X : Cx}
end
section
variable {K : PySem.W.Frag} {pr : Nat → Bool} {ta tb : TE} {a : AE}
end
end L2
set_option Elab.async false
set_option linter.all false
set_option maxRecDepth 100000
namespace L2
open PySem PySem.Spec PyProof.Rows PySem.W
section
variable {prog : Program} {w : World} {A : Around} {E : Value → Shared → Prop} {s : Shared} {env : Env}
variable {nm q : Str} {C N : Addr} {bs bm bmB : List Value} {hdct : Bool} {sn : List Str} {sub : List Value} {ab : Bool} {col : Option Bool} {dd : Option Addr} {k0 k1 k2 k3 k5 : Option Value} {B newId initId : String}
theorem Call_mk0 (F : ExcBaseFacts B newId initId bmB) {mN : Str → Option Value} {x : Str} {np cpos : Pos} {args : List Expr} {Q : Value → Shared → Prop}
    (hplain : (backTo cpos (starEach args env)).any (·.1) = false) (hni : mN "__init__" = none)
    (h : wpAny (model prog w) A (eval (.Name x np) env) (fun f s1 => f = .ref C ∧ wpAny (model prog w) A (evalArgs (.ref C) true (backTo cpos (starEach args env)) [])
      (fun a s2 => a.kw = [] ∧ a.pos.length ≤ sizeLine ∧ s2.heap.get? C = some (excClassObj nm q C N bs bm hdct sn sub ab col dd k0 k1 k2 k3 k5 newId) ∧ s2.heap.Ns N mN ∧ OwnTail s2.heap bmB bm ∧
        ∀ h' e, Heap.MadeExcOf s2.heap h' e (.ref C) a.pos → Q (.ref e) { s2 with heap := h' }) E s1) E s) :
    wpAny (model prog w) A (eval (.Call (.Name x np) args [] cpos) env) Q E s := by
  refine wpAny_Call_ofName (wpAny_mono h (fun f s1 h1 => ?_) fun _ _ x => x)
  obtain ⟨rfl, h1⟩ := h1
  unfold callWith
  refine wpAny_bind (wpAny_holding (wpAny_mono h1 (fun a s2 h2 => wpAny_bind (wpAny_standAt ?_)) fun _ _ x => x))
  obtain ⟨apos, akw⟩ := a
  obtain ⟨hkw, hlen, hC, hn, T, h2⟩ := h2
  obtain rfl : akw = [] := hkw
  obtain ⟨hp, g, d, tk, os⟩ := s2
  simp only [hplain]
  refine wpAny_bind (wpAny_keeperOf_exc hC ?_)
  exact wpAny_bind (wpAny_call_exc_subT (hrest := hlen) F T hC hn hni fun h' e hm => wpAny_bind (wpAny_holding (wpAny_point (wpAny_pure (h2 h' e hm)))))
end
section
variable {X : Cx} {C : Addr} {x : Str}
def tMk0 (C : Addr) (t0 : TE) : TE := fun σ H Q => t0 σ H fun _ H1 => ∀ e, H1 e = none → Q (.ref e) (upd H1 e (.ext (exP e C none)))
theorem pe_mk0 (hex : X.ex = []) (hm : X.mg x = some (.ref C)) (hq : PySem.W.excIn X.K C bmV "ValueError.__new__" = true)
    {e0 : Expr} {t0 : TE} {np cpos : Pos} (ha : PE X e0 t0) (hg : Gl X x := by rfl) (he : starEach [e0] X.env = [(false, eval e0 X.env)] := by rfl) (hdb : (x == ("__debug__" : Str)) = false := by decide) :
    PE X (.Call (.Name x np) [e0] [] cpos) (tMk0 C t0) := by
  intro pins s σ H Q I h
  obtain ⟨tl, N, nm, q, bs, hdct, sn, sub, ab, col, dd, k0, k1, k2, k3, k5, mN, hC, hN, hni, tw⟩ := (own_cls I.mod.kin hm hq).obj
  refine Call_mk0 (k5 := k5) (k3 := k3) (k2 := k2) (k1 := k1) (k0 := k0) (dd := dd) (col := col) (ab := ab) (sub := sub) (sn := sn) (hdct := hdct) (bs := bs) (N := N) (q := q) (nm := nm) (C := C) (bm := tl) (mN := mN) PySem.F.excBase_ValueError (by rw [he]; rfl) hni (ld_glob I hg hm ⟨rfl, ?_⟩ hdb)
  rw [he]
  refine Calls.evalArgs_plain (Calls.spliced_cons ?_)
  refine thn (ha pins s σ H _ I h) fun u s1 ⟨v, H1, I1, r1, q1⟩ => Calls.spliced_nil ?_
  refine ⟨rfl, by show (1 : Nat) ≤ _; decide, I1.bk _ _ hC, hN.keeps I1.bk, tw.keeps I1.bk, fun h' a mk => ?_⟩
  obtain ⟨tt, g1, g2, g3⟩ := mk.there
  have ua : H1 a = none := by
    cases z : H1 a with
    | none => rfl
    | some o =>
      obtain ⟨u, z'⟩ := I1.hok.get z
      rw [mk.new] at z'; cases z'
  have I4 := Inv.trackX (C := C) (od := none) I1 (I1.kept (t' := s1.toks) mk.keeps) hex ua mk.new ⟨_, _, g1, rfl, rfl, rfl⟩
  exact ⟨.ref a, _, I4, rfl, q1 a ua⟩
end
end L2
set_option Elab.async false
set_option linter.all false
set_option maxRecDepth 100000
namespace L2
open PySem PySem.Spec PyProof.Rows PySem.W
section
variable {K : PySem.W.Frag} {C : Addr} {f : Str} {t0 ta : TE} {a0 a : AE} {ts : TA} {as : AA} {F : Fr} {σ : St} {ρ : En} {H : Hp}
def aMk0 (C : Addr) (a : AE) : AE := fun ρ q => a ρ fun _ ρ1 => q (.x (.ex C none)) ρ1
theorem tok_mk0 (ha : TEok K t0 a0) : TEok K (tMk0 C t0) (aMk0 C a0) := by
  intro F σ ρ H q Q r h k
  refine ha F σ ρ H _ _ r h fun r1 ρ1 v H1 h1 o => ?_
  obtain ⟨r', k1, _⟩ := o.inF
  intro e ue
  exact (k.after k1) (.x (.ex C none)) ρ1 (.ref e) _ h1 ⟨r'.fresh ue, Kp.fresh ue, rfl, e, none, rfl, hid_of (fresh_vis r' ue) upd_same, trivial⟩
def aMkI (C : Addr) (f : Str) (a : AE) : AE := fun ρ q => a ρ fun r ρ1 => match r with
  | .d (.int n) => (0 ≤ n ∧ n < 10000000000000000000000000000000000000000000000000000000000000000000000) ∧ q (.x (.ex C (some [(f, .int n)]))) ρ1
  | _ => False
theorem tok_mkI (ha : TEok K t0 a0) : TEok K (tMkI C f (spIP C f) t0) (aMkI C f a0) := by
  intro F σ ρ H q Q r h k
  refine ha F σ ρ H _ _ r h fun r1 ρ1 v H1 h1 o => ?_
  obtain ⟨r', k1, i1⟩ := o.inF
  split at h1
  · rename_i n
    obtain ⟨⟨l0, l2⟩, h1⟩ := h1
    have ev : v = .int n := i1.int
    subst ev
    intro e ue
    refine ⟨e, n.toNat, by rw [Int.toNat_of_nonneg l0], by omega, upd_same, fun dx hd ne => ⟨rfl, dx, .int n, ?_, ?_, ne, ?_, ?_⟩⟩
    · rw [upd_ne (Ne.symm ne), upd_same]
    · rw [upd_same, Int.toNat_of_nonneg l0]
    · rw [upd_ne ne] at hd; exact hd
    · rw [upd_ne ne] at hd
      rw [rm_upd2 ue ne, Int.toNat_of_nonneg l0]
      have r1 := r'.fresh (o := .xd [(f, .int n)]) hd
      have hn : upd H1 dx (.xd [(f, .int n)]) e = none := by rw [upd_ne (Ne.symm ne)]; exact ue
      have hx : exD K (hid (upd (upd H1 dx (.xd [(f, .int n)])) e (.ext (exP e C (some dx)))) (hs F σ ρ1)) (some [(f, .int n)]) (some dx) := by
        refine ⟨[(f, .int n)], hid_of (fresh_vis r' hd) (by rw [upd_ne ne, upd_same]), rfl, ?_⟩
        show RepDs K _ [V.int n] [L2.D.int n]
        unfold RepDs RepDs
        exact ⟨by unfold RepD; rfl, trivial⟩
      have k2 : Kp σ ρ1 ρ1 H1 (upd (upd H1 dx (.xd [(f, .int n)])) e (.ext (exP e C (some dx)))) := (Kp.fresh hd).trans (Kp.fresh hn)
      exact (k.after k1) (.x (.ex C (some [(f, .int n)]))) ρ1 (.ref e) _ h1 ⟨r1.fresh hn, k2, rfl, e, some dx, rfl, hid_of (fresh_vis r1 hn) upd_same, hx⟩
  · exact h1.elim
def aMkL (C : Addr) (f : Str) (a : AE) : AE := fun ρ q => a ρ fun r ρ1 => match view ρ1 r.frz with
  | some (.lst ds) => q (.x (.ex C (some [(f, .lst ds)]))) ρ1
  | _ => False
theorem tok_mkL (ha : TEok K t0 a0) : TEok K (tMkI C f (spIL K C f) t0) (aMkL C f a0) := by
  intro F σ ρ H q Q r h k
  refine ha F σ ρ H _ _ r h fun r1 ρ1 v H1 h1 o => ?_
  obtain ⟨r', k1, i1⟩ := o.inF
  split at h1
  · rename_i ds er
    obtain ⟨p, vs, ev, sq, rd⟩ := view_lst r' i1 er
    subst ev
    intro e ue
    have s0 : Same H1 (upd H1 e (.ext (exI e C none))) := (Same.refl H1).new ue
    refine ⟨e, p, vs, rfl, upd_same, s0.seq sq, fun l dx hl hd nl ne le => ⟨rfl, dx, .ref l, ?_, upd_same, ne, ?_, ?_⟩⟩
    · rw [upd_ne (Ne.symm ne), upd_same]
    · rw [upd_ne ne] at hd; exact hd
    · rw [upd_ne ne] at hd
      rw [upd_ne le] at hl
      have ew : rm (upd (upd (upd (upd H1 e (.ext (exI e C none))) l (.lst vs)) e (.ext (exI e C (some dx)))) dx (.xd [(f, .ref l)])) e = upd (upd H1 l (.lst vs)) dx (.xd [(f, .ref l)]) := by
        funext b
        unfold rm upd
        by_cases z : b = e
        · subst z; rw [if_pos rfl, if_neg (Ne.symm ne), if_neg (Ne.symm le), ue]
        · rw [if_neg z]
          by_cases w : b = dx
          · rw [if_pos w, if_pos w]
          · rw [if_neg w, if_neg w, if_neg z]
            by_cases w2 : b = l
            · rw [if_pos w2, if_pos w2]
            · rw [if_neg w2, if_neg w2, if_neg z]
      rw [ew]
      have rl := r'.fresh (o := .lst vs) hl
      have hd2 : (upd H1 l (.lst vs)) dx = none := by rw [upd_ne nl]; exact hd
      have r2 := rl.fresh (o := .xd [(f, .ref l)]) hd2
      have hn : upd (upd H1 l (.lst vs)) dx (.xd [(f, .ref l)]) e = none := by rw [upd_ne (Ne.symm ne), upd_ne (Ne.symm le)]; exact ue
      have k2 : Kp σ ρ1 ρ1 H1 (upd (upd (upd H1 l (.lst vs)) dx (.xd [(f, .ref l)])) e (.ext (exP e C (some dx)))) := ((Kp.fresh hl).trans (Kp.fresh hd2)).trans (Kp.fresh hn)
      have hx : exD K (hid (upd (upd (upd H1 l (.lst vs)) dx (.xd [(f, .ref l)])) e (.ext (exP e C (some dx)))) (hs F σ ρ1)) (some [(f, .lst ds)]) (some dx) := by
        refine ⟨[(f, .ref l)], hid_of (fresh_vis r' hd) (by rw [upd_ne ne, upd_same]), rfl, ?_⟩
        show RepDs K _ [V.ref l] [L2.D.lst ds]
        unfold RepDs RepDs
        refine ⟨?_, trivial⟩
        unfold RepD
        exact ⟨l, vs, rfl, hid_of (fresh_vis r' hl) (by rw [upd_ne le, upd_ne (Ne.symm nl), upd_same]), rd.same k2.vis⟩
      exact (k.after k1) (.x (.ex C (some [(f, .lst ds)]))) ρ1 (.ref e) _ h1 ⟨r2.fresh hn, k2, rfl, e, some dx, rfl, hid_of (fresh_vis r2 hn) upd_same, hx⟩
  · exact h1.elim
def exsR : List R → Option (List (Addr × Option (List (Str × L2.D))))
  | [] => some []
  | .x (.ex C fs) :: rs => (exsR rs).map ((C, fs) :: ·)
  | _ => none
theorem exs_of : ∀ {vs : List V} {rs : List R} {es : List (Addr × Option (List (Str × L2.D)))}, InFs K F σ ρ H vs rs → exsR rs = some es → Exs K (hid H (hs F σ ρ)) vs es
  | _, _, es, .nil, h => by injection h with h; subst h; trivial
  | _, _, es, .cons (v := v) (r := rr) (vs := vs) (rs := rs) i t, h => by
    unfold exsR at h
    split at h
    · rename_i e; cases e
    · rename_i C fs rs' e
      injection e with e1 e2; subst e1 e2
      obtain ⟨es', h', rfl⟩ := Option.map_eq_some_iff.mp h
      obtain ⟨_, e, od, e1, e2, e3⟩ := i
      injection e1 with e1; injection e1 with e1
      exact ⟨⟨e, od, e1, e2, e3⟩, exs_of t h'⟩
    · cases h
theorem Exs.length {Hh : Hp} : ∀ {vs : List V} {es : List (Addr × Option (List (Str × L2.D)))}, Exs K Hh vs es → vs.length = es.length
  | [], [], _ => rfl
  | _ :: vs, _ :: es, h => by rw [List.length_cons, List.length_cons, Exs.length h.2]
  | [], _ :: _, h => h.elim
  | _ :: _, [], h => h.elim
theorem Exs.get {Hh : Hp} : ∀ {vs : List V} {es : List (Addr × Option (List (Str × L2.D)))} {i : Nat} {c : Addr × Option (List (Str × L2.D))}, Exs K Hh vs es → es[i]? = some c → ∃ e od, vs[i]? = some (.ref e) ∧ Hh e = some (.ext (exP e c.1 od)) ∧ exD K Hh c.2 od
  | [], [], _, _, _, h => by cases h
  | x :: vs, c' :: es, 0, c, h, e => by
    injection e with e; subst e
    obtain ⟨⟨e, od, e1, e2, e3⟩, _⟩ := h
    exact ⟨e, od, by rw [e1]; rfl, e2, e3⟩
  | x :: vs, c' :: es, i + 1, c, h, e => Exs.get (i := i) h.2 e
  | [], _ :: _, _, _, h, _ => h.elim
  | _ :: _, [], _, _, h, _ => h.elim
def aLstX (as : AA) : AE := fun ρ q => as ρ fun rs ρ1 => ∃ es, exsR rs = some es ∧ es.length ≤ 1000000 ∧ q (.x (.xl es)) ρ1
theorem tok_lstX (ht : TAok K ts as) : TEok K (tLst ts) (aLstX as) := by
  intro F σ ρ H q Q r h k
  refine ht F σ ρ H _ _ r h fun rs ρ1 vs H1 h1 r1 i1 k1 => ?_
  obtain ⟨es, h2, h3, h1⟩ := h1
  have hx := exs_of i1 h2
  refine ⟨small (by rw [hx.length]; exact h3), fun p hp => ?_⟩
  have kp : Kp σ ρ1 ρ1 H1 (upd H1 p (.lst vs)) := Kp.fresh hp
  exact (k.after k1) (.x (.xl es)) ρ1 (.ref p) _ h1 ⟨r1.fresh hp, kp, rfl, p, vs, rfl, hid_of (fresh_vis r1 hp) upd_same, hx.same kp.vis⟩
def gIxX : R → R → AE := fun r1 r2 ρ q => match r1, r2 with
  | .o i, .d (.int n) => (match gt ρ i with
    | .xl es => (match atI es n with | some c => q (.x (.ex c.1 c.2)) ρ | none => False)
    | _ => False)
  | _, _ => False
theorem ook_ixX : OpOk K (rIx K) gIxX := by
  intro F σ ρ H x y r1 r2 q Q a h1 h2 h b
  unfold gIxX at h
  split at h
  · rename_i i n
    split at h
    · rename_i es hg
      split at h
      · rename_i c e
        have s := a.sl i
        rw [hg] at s
        obtain ⟨l, vs, e1, e2, e3⟩ := s
        rw [show σ[i]? = _ from h1] at e1
        injection e1 with e1; injection e1 with e1; subst e1
        have e4 : ∃ ee od, atI vs n = some (.ref ee) ∧ hid H (hs F σ ρ) ee = some (.ext (exP ee c.1 od)) ∧ exD K (hid H (hs F σ ρ)) c.2 od := by
          unfold atI at e ⊢
          rw [e3.length]
          cases hx : ixN es.length n with
          | none => rw [hx] at e; cases e
          | some j => rw [hx] at e; exact e3.get e
        obtain ⟨ee, od, e5, e6, e7⟩ := e4
        exact .inl ⟨l, vs, n, .ref ee, rfl, h2.int, StL.sq (hid_some.mp e2).2, e5, b (.x (.ex c.1 c.2)) ρ (.ref ee) H h ⟨a, .refl, rfl, ee, od, rfl, e6, e7⟩⟩
      · exact h.elim
    · exact h.elim
  · exact h.elim
def gLenX : List R → AE := fun rs ρ q => match rs with
  | [.o i] => (match gt ρ i with | .xl es => q (.d (.int es.length)) ρ | _ => False)
  | _ => False
theorem cbok_lenX : CbOk K (fun xs H Q => ∃ p ys, xs = [.ref p] ∧ (SqL K H p ys ∨ SqT K H p ys) ∧ Q (.int ys.length) H) gLenX := by
  intro F σ ρ H vs rs q Q a i h b
  unfold gLenX at h
  split at h
  · rename_i j
    obtain ⟨x, rfl, i1⟩ := i.one
    split at h
    · rename_i es hg
      have s := a.sl j
      rw [hg] at s
      obtain ⟨l, vs, e1, e2, e3⟩ := s
      rw [show σ[j]? = _ from i1] at e1
      injection e1 with e1; injection e1 with e1; subst e1
      exact ⟨l, vs, rfl, .inl (StL.sq (hid_some.mp e2).2), by rw [e3.length]; exact b.int a h⟩
    · exact h.elim
  · exact h.elim
def aIsXe (K : PySem.W.Frag) (a : AE) (u : Value) : AE := fun ρ q => a ρ fun r ρ1 => match r with
  | .x (.ex C _) => ∃ b, ExIs K C ∧ kitOne K (.ref C) u = some b ∧ q (.d (.bl b)) ρ1
  | _ => False
theorem tok_isXe {c : V} {u : Value} (ha : TEok K ta a) : TEok K (tCB (rIsX K c u) (tCons ta (tCons (tC c) tNil))) (aIsXe K a u) := by
  intro F σ ρ H q Q r h k
  refine ha F σ ρ H _ _ r h fun r1 ρ1 v H1 h1 o => ?_
  obtain ⟨r', k1, i1⟩ := o.inF
  split at h1
  · rename_i C fs
    obtain ⟨_, e, od, e1, e2, e3⟩ := i1
    injection e1 with e1; injection e1 with e1; subst e1
    obtain ⟨b', g1, g2, g3⟩ := h1
    exact ⟨e, C, od, b', rfl, (hid_some.mp e2).2, exD_there e3, g1, g2, (k.after k1).bl r' g3⟩
  · exact h1.elim
def aXFldE (K : PySem.W.Frag) (a : AE) (f : Str) : AE := fun ρ q => a ρ fun r ρ1 => match r with
  | .x (.ex C (some fs)) => ∃ d, fs.lookup f = some d ∧ ExG K C f ∧ q (.d d) ρ1
  | _ => False
theorem tok_xfldE (ha : TEok K ta a) : TEok K (tXFld K ta f) (aXFldE K a f) := by
  intro F σ ρ H q Q r h k
  refine ha F σ ρ H _ _ r h fun r1 ρ1 v H1 h1 o => ?_
  obtain ⟨r', k1, i1⟩ := o.inF
  split at h1
  · rename_i C fs
    obtain ⟨_, e, od, e1, e2, e3⟩ := i1
    injection e1 with e1; injection e1 with e1; subst e1
    obtain ⟨d, g1, g2, g3⟩ := h1
    cases od with
    | none => exact e3.elim
    | some dx =>
      obtain ⟨ks, j1, j2, j3⟩ := e3
      obtain ⟨v, l, rv⟩ := look_rep j2 j3 g1
      exact ⟨e, C, dx, ks, v, rfl, (hid_some.mp e2).2, (hid_some.mp j1).2, l, g2, (k.after k1) (.d d) ρ1 v H1 g3 ⟨r', .refl, rv⟩⟩
  · exact h1.elim
end
end L2
set_option Elab.async false
set_option linter.all false
set_option maxRecDepth 100000
namespace K17
open PySem PySem.Spec PyProof.Rows L2
def top (i : Nat) : Stmt := PySem.Challenge.pw_fewjoins_k17_refusals_made.main.body.getD i (.Pass ⟨0, 0, 0, 0⟩)
abbrev si_Nought : Stmt := clsFn (top 7)
theorem sci_Nought : FnScope ["self", "at"] ["self", "at"] (defScope si_Nought) := ⟨rfl, rfl, rfl, by decide +kernel, rfl, by decide +kernel, by decide +kernel⟩
abbrev si_Bare : Stmt := clsFn (top 8)
theorem sci_Bare : FnScope ["self", "given"] ["self", "given"] (defScope si_Bare) := ⟨rfl, rfl, rfl, by decide +kernel, rfl, by decide +kernel, by decide +kernel⟩
abbrev si_Loose : Stmt := clsFn (top 9)
theorem sci_Loose : FnScope ["self", "thing"] ["self", "thing"] (defScope si_Loose) := ⟨rfl, rfl, rfl, by decide +kernel, rfl, by decide +kernel, by decide +kernel⟩
abbrev si_Leans : Stmt := clsFn (top 10)
theorem sci_Leans : FnScope ["self", "place"] ["self", "place"] (defScope si_Leans) := ⟨rfl, rfl, rfl, by decide +kernel, rfl, by decide +kernel, by decide +kernel⟩
abbrev si_NoAnswer : Stmt := clsFn (top 11)
theorem sci_NoAnswer : FnScope ["self", "places"] ["self", "places"] (defScope si_NoAnswer) := ⟨rfl, rfl, rfl, by decide +kernel, rfl, by decide +kernel, by decide +kernel⟩
abbrev si_NoText : Stmt := clsFn (top 12)
theorem sci_NoText : FnScope ["self", "row"] ["self", "row"] (defScope si_NoText) := ⟨rfl, rfl, rfl, by decide +kernel, rfl, by decide +kernel, by decide +kernel⟩
abbrev s_law_tape : Stmt := top 14
abbrev nm_law_tape : List Str := ["_law_script"]
theorem sc_law_tape : FnScope nm_law_tape ["_law_script"] (defScope s_law_tape) := ⟨rfl, rfl, rfl, by decide +kernel, rfl, by decide +kernel, by decide +kernel⟩
abbrev s_law_draw : Stmt := top 15
abbrev nm_law_draw : List Str := ["_law_tape_here", "_law_many", "_law_found", "_law_spot", "_law_cells", "_law_cell", "_law_seed"]
theorem sc_law_draw : FnScope nm_law_draw ["_law_tape_here", "_law_many"] (defScope s_law_draw) := ⟨rfl, rfl, rfl, by decide +kernel, rfl, by decide +kernel, by decide +kernel⟩
abbrev s_law_made : Stmt := top 16
abbrev nm_law_made : List Str := ["_law_number", "_law_text", "_law_places"]
theorem sc_law_made : FnScope nm_law_made ["_law_number", "_law_text", "_law_places"] (defScope s_law_made) := ⟨rfl, rfl, rfl, by decide +kernel, rfl, by decide +kernel, by decide +kernel⟩
abbrev s_law_kinds : Stmt := top 17
abbrev nm_law_kinds : List Str := ["_law_e", "_law_found"]
theorem sc_law_kinds : FnScope nm_law_kinds ["_law_e"] (defScope s_law_kinds) := ⟨rfl, rfl, rfl, by decide +kernel, rfl, by decide +kernel, by decide +kernel⟩
abbrev s_law : Stmt := top 18
abbrev nm_law : List Str := ["_law_script", "_law_tape_here", "_law_number", "_law_signs", "_law_text", "_law_places", "_law_handed", "_law_made_here", "_law_at"]
theorem sc_law : FnScope nm_law ["_law_script"] (defScope s_law) := ⟨rfl, rfl, rfl, by decide +kernel, rfl, by decide +kernel, by decide +kernel⟩
section
variable {P : Program} {w : World} {K : PySem.W.Frag} {mg : Str → Option Value} {base : Heap}
theorem ok_law_tape (D : DefN K mg "_law_tape" s_law_tape ["_law_script"]) (B : BI mg) : OkN P w K mg base 1 "_law_tape" ["_law_script"] (spA K STape) := by
  refine OkN.imp (sp := spTapeX K) ?_ tape_of
  refine D.ok sc_law_tape (fun vs H Q E h => ?_) (fun f cdv A outer s H vs Q E hr h => ?_)
  · obtain ⟨a, ns, rfl, _⟩ := h
    rfl
  · obtain ⟨a, ns, rfl, hS, k⟩ := h
    refine ⟨_, (pss_one (ps_ret (pe_disp (pps_cons pe_str (pe_slice (sl_listK K) (pv 0) po_none (po_some pe_int)) (pps_cons pe_str pe_int (pps_cons pe_str pe_int pps_nil))) rfl rfl (by simp) (by decide)))), ?_⟩
    intro t ht
    have s0 : Same H (upd H t (.dK [])) := (Same.refl H).new ht
    refine ⟨_, rfl, 63, rfl, a, _, rfl, s0.seq hS, fun l hl => ?_⟩
    have ntl : t ≠ l := ne_of_none upd_same hl
    refine ⟨by rw [upd_ne ntl, upd_same], [(Sum.inr ("cells" : Str), V.ref l), (Sum.inr ("spot" : Str), V.int 0), (Sum.inr ("left" : Str), V.int 0)], rfl, (by show 3 ≤ 15; decide), ?_⟩
    rw [tape_made]
    have fin := k t l ht (s0.free hl) ntl
    have eq : upd (upd (upd H t (.dK [])) l (.lst (cutV (ns.map V.int) none (some 63)))) t (.dK (tapeK l 0 0)) = upd (upd H l (.lst ((ns.take 63).map V.int))) t (.dK (tapeK l 0 0)) := by
      rw [cut63]
      funext b
      unfold upd
      by_cases h1 : b = t
      · rw [if_pos h1, if_pos h1]
      · rw [if_neg h1, if_neg h1, if_neg h1]
    rw [eq]
    exact fin
theorem ok_law_draw (D : DefN K mg "_law_draw" s_law_draw ["_law_tape_here", "_law_many"]) (B : BI mg) : OkN P w K mg base 1 "_law_draw" ["_law_tape_here", "_law_many"] (spA K SDraw) := by
  refine OkN.imp (sp := spDrawX K) ?_ draw_of
  refine D.ok sc_law_draw (fun vs H Q E h => ?_) (fun f cdv A outer s H vs Q E hr h => ?_)
  · obtain ⟨t, c, m, sp, lf, ns, n, rfl, _⟩ := h
    rfl
  · obtain ⟨t, c, m, sp, lf, ns, n, rfl, hT, hC, h1, h2, h3, hn, hm, k⟩ := h
    have hu := hu_of hr
    have hm0 := hm.1
    have gl : DGet H t (kV (Sum.inr "left")) (some (.int lf)) := by rw [← tape_left (c := c) (sp := sp)]; exact DGet.k hT
    have gs : DGet H t (kV (Sum.inr "spot")) (some (.int sp)) := by rw [← tape_spot (c := c) (lf := lf)]; exact DGet.k hT
    have gc : DGet H t (kV (Sum.inr "cells")) (some (.ref c)) := by rw [← tape_cells (sp := sp) (lf := lf)]; exact DGet.k hT
    refine ⟨_, (pss_cons (ps_if (pt_cmpR op_gt (pe_dget hu (pv 0) pe_str (fun _ _ => rfl)) pe_int (nomark _))
      (pss_cons (ps_set (i := 2) sc_law_draw.nd rfl (by first | exact Or.inl rfl | exact Or.inr rfl) (pe_op op_mod (pe_dget hu (pv 0) pe_str (fun _ _ => rfl)) (pv 1)))
      (pss_cons (ps_dput hu (pv 0) pe_str (pe_op op_fdivL (pe_dget hu (pv 0) pe_str (fun _ _ => rfl)) (pv 1)) rfl)
      (pss_one (ps_ret (pv 2)))))
      pss_nil)
      (pss_cons (ps_set (i := 3) sc_law_draw.nd rfl (by first | exact Or.inl rfl | exact Or.inr rfl) (pe_dget hu (pv 0) pe_str (fun _ _ => rfl)))
      (pss_cons (ps_dput hu (pv 0) pe_str (pe_op op_add (pv 3) pe_int) rfl)
      (pss_cons (ps_set (i := 4) sc_law_draw.nd rfl (by first | exact Or.inl rfl | exact Or.inr rfl) (pe_dget hu (pv 0) pe_str (fun _ _ => rfl)))
      (pss_cons (ps_set (i := 5) sc_law_draw.nd rfl (by first | exact Or.inl rfl | exact Or.inr rfl) pe_int)
      (pss_cons (ps_if (pt_cmpR op_gt (pe_callB (call_lenK K) rfl B.len_ bt_len (pa_cons (pv 4) pa_nil)) pe_int (nomark _))
      (pss_one (ps_set (i := 5) sc_law_draw.nd rfl (by first | exact Or.inl rfl | exact Or.inr rfl) (pe_ix (ix_seqK K) (pv 4) (pe_op op_mod (pv 3) (pe_callB (call_lenK K) rfl B.len_ bt_len (pa_cons (pv 4) pa_nil))) (fun _ _ => rfl))))
      pss_nil)
      (pss_cons (ps_if (PW.pt (pw_and (pt_cmpR op_ge (pv 5) (pe_op op_pow pe_int pe_int) (nomark _)) (pw_and1 (pt_cmpR op_lt (pv 3) (pe_callB (call_lenK K) rfl B.len_ bt_len (pa_cons (pv 4) pa_nil)) (nomark _)))))
      (pss_cons (ps_dput hu (pv 0) pe_str (pe_op op_fdivL (pe_op op_sub (pv 5) (pe_op op_pow pe_int pe_int)) (pv 1)) rfl)
      (pss_one (ps_ret (pe_op op_mod (pe_op op_sub (pv 5) (pe_op op_pow pe_int pe_int)) (pv 1)))))
      pss_nil)
      (pss_cons (ps_set (i := 6) sc_law_draw.nd rfl (by first | exact Or.inl rfl | exact Or.inr rfl) (pe_op op_mod (pe_op op_mul (pe_op op_add (pe_op op_add (pe_op op_add (pe_op op_mod (pv 5) pe_int) (pe_op op_mul (pe_op op_mul pe_int (pv 3)) (pv 3))) (pe_op op_mul pe_int (pv 3))) pe_int) pe_int) pe_int))
      (pss_one (ps_ret (pe_op op_mod (pe_op op_fdivL (pe_op op_mod (pe_op op_mul (pv 6) (pe_op op_add (pv 6) pe_int)) pe_int) pe_int) (pv 1)))))))))))), ?_⟩
    refine ⟨_, rfl, t, _, rfl, gl, _, _, rfl, rfl, _, rfl, ite2 (fun hl => ?_) fun hl => ?_⟩
    · refine ⟨_, rfl, t, _, rfl, gl, _, rfl, _, _, rfl, rfl, hm0, ?_⟩
      refine ⟨_, rfl, t, _, rfl, gl, _, rfl, _, _, rfl, rfl, hm, _, rfl, t, _, rfl, DPut.k (k := Sum.inr "left") hT (small1000 (by show 3 ≤ 1000; decide)), _, rfl, ?_⟩
      rw [put_left]
      exact drawn (Q := fun z H => Q (.int z) H) hm0 fun r hr => k r _ _ hr h1 (by omega) (Int.ediv_nonneg h3 (Int.le_of_lt hm0))
    · refine ⟨_, rfl, t, _, rfl, gs, ?_⟩
      refine ⟨_, rfl, _, _, rfl, rfl, _, rfl, t, _, rfl, DPut.k (k := Sum.inr "spot") hT (small1000 (by show 3 ≤ 1000; decide)), ?_⟩
      rw [put_spot]
      have hT1 : (upd H t (.dK (tapeK c (sp + 1) lf))) t = some (.dK (tapeK c (sp + 1) lf)) := upd_same
      have hC1 : SqL K (upd H t (.dK (tapeK c (sp + 1) lf))) c (ns.map V.int) := Grow.seq (Grow.refl.upd _) hT hC
      have gr1 : Grow t H (upd H t (.dK (tapeK c (sp + 1) lf))) := Grow.refl.upd _
      have gc1 : DGet (upd H t (.dK (tapeK c (sp + 1) lf))) t (kV (Sum.inr "cells")) (some (.ref c)) := by rw [← tape_cells (sp := sp + 1) (lf := lf)]; exact DGet.k hT1
      have kk : ∀ (r : Nat) (lf' : Int), (r : Int) < m → 0 ≤ lf' → Q (.int (r : Nat)) (upd (upd H t (.dK (tapeK c (sp + 1) lf))) t (.dK (tapeK c (sp + 1) lf'))) := fun r lf' hr hl => by rw [upd_upd]; exact k r _ _ hr (by omega) (by omega) hl
      have kl : ∀ (r : Nat), (r : Int) < m → Q (.int (r : Nat)) (upd H t (.dK (tapeK c (sp + 1) lf))) := fun r hr => k r _ _ hr (by omega) (by omega) h3
      generalize upd H t (.dK (tapeK c (sp + 1) lf)) = H1 at hT1 hC1 gr1 gc1 kk kl ⊢
      refine ⟨_, rfl, t, _, rfl, gc1, ?_⟩
      have p18 : (10 : Int) ^ (18 : Int).toNat = 1000000000000000000 := by decide
      have fits : CPow 10 18 := ⟨by decide, by decide, by decide⟩
      have pos1 : (0 : Int) < 2147483629 := by decide
      have pos2 : (0 : Int) < 2147483647 := by decide
      have spOk : -(2 ^ 64) < sp ∧ sp < 2 ^ 64 := by omega
      refine ⟨_, rfl, c, _, rfl, .inl hC1, _, _, rfl, rfl, _, rfl, ite2 (fun hl => ?_) fun hl => ?_⟩
      · have hl' : 0 < ns.length := by
          have := of_decide_eq_true hl
          rw [List.length_map] at this
          omega
        have el : ((ns.map V.int).length : Int) = ns.length := by rw [List.length_map]
        have hb0 : 0 ≤ sp % ((ns.map V.int).length : Int) := Int.emod_nonneg _ (by omega)
        have hb1 : sp % ((ns.map V.int).length : Int) < ((ns.map V.int).length : Int) := Int.emod_lt_of_pos _ (by omega)
        obtain ⟨j, hj⟩ := Int.eq_ofNat_of_zero_le hb0
        have hj' : j < ns.length := by rw [hj] at hb1; omega
        refine ⟨_, rfl, _, rfl, _, rfl, c, _, rfl, .inl hC1, _, _, rfl, rfl, (by show (0 : Int) < ((ns.map V.int).length : Int); omega), .inl ⟨c, _, _, V.int ns[j], rfl, rfl, hC1, ?_, ?_⟩⟩
        · rw [hj]
          exact atI_nat (by simp [hj'])
        · generalize ns[j] = z
          refine ⟨_, rfl, _, _, rfl, rfl, fits, _, _, rfl, rfl, _, rfl, ite2 (fun hz => ?_) fun hz => ?_⟩
          · refine ⟨_, rfl, _, rfl, c, _, rfl, .inl hC1, _, _, rfl, rfl, _, rfl, ite2 (fun hs => ?_) fun hs => ?_⟩
            · refine ⟨_, rfl, _, _, rfl, rfl, fits, _, _, rfl, rfl, _, rfl, _, _, rfl, rfl, hm, _, rfl, t, _, rfl, DPut.k (k := Sum.inr "left") hT1 (small1000 (by show 3 ≤ 1000; decide)), ?_⟩
              rw [put_left]
              refine ⟨_, rfl, _, _, rfl, rfl, fits, _, _, rfl, rfl, _, rfl, _, _, rfl, rfl, hm0, ?_⟩
              refine drawn (Q := fun z H => Q (.int z) H) hm0 fun r hr => kk r _ hr (Int.ediv_nonneg ?_ (Int.le_of_lt hm0))
              have hz' := of_decide_eq_true hz
              rw [p18] at hz' ⊢
              omega
            · refine ⟨_, rfl, _, _, rfl, rfl, pos1, _, rfl, _, _, rfl, rfl, .inl ⟨by decide, by decide⟩, _, rfl, _, _, rfl, rfl, .inr spOk, _, _, rfl, rfl, _, rfl, _, _, rfl, rfl, .inl ⟨by decide, by decide⟩, _, _, rfl, rfl, _, _, rfl, rfl, _, _, rfl, rfl, .inr ⟨by decide, by decide⟩, _, _, rfl, rfl, pos2, ?_⟩
              refine ⟨_, rfl, _, rfl, _, _, rfl, rfl, _, _, rfl, rfl, .inl seedOk, _, _, rfl, rfl, pos1, _, _, rfl, rfl, dv64, _, rfl, _, _, rfl, rfl, hm0, ?_⟩
              exact drawn (Q := fun z H => Q (.int z) H) hm0 fun r hr => kl r hr
          · refine ⟨_, rfl, _, _, rfl, rfl, pos1, _, rfl, _, _, rfl, rfl, .inl ⟨by decide, by decide⟩, _, rfl, _, _, rfl, rfl, .inr spOk, _, _, rfl, rfl, _, rfl, _, _, rfl, rfl, .inl ⟨by decide, by decide⟩, _, _, rfl, rfl, _, _, rfl, rfl, _, _, rfl, rfl, .inr ⟨by decide, by decide⟩, _, _, rfl, rfl, pos2, ?_⟩
            refine ⟨_, rfl, _, rfl, _, _, rfl, rfl, _, _, rfl, rfl, .inl seedOk, _, _, rfl, rfl, pos1, _, _, rfl, rfl, dv64, _, rfl, _, _, rfl, rfl, hm0, ?_⟩
            exact drawn (Q := fun z H => Q (.int z) H) hm0 fun r hr => kl r hr
      · refine ⟨_, rfl, _, _, rfl, rfl, fits, _, _, rfl, rfl, _, rfl, ite2 (fun hz => ?_) fun hz => ?_⟩
        · refine ⟨_, rfl, _, rfl, c, _, rfl, .inl hC1, _, _, rfl, rfl, _, rfl, ite2 (fun hs => ?_) fun hs => ?_⟩
          · refine ⟨_, rfl, _, _, rfl, rfl, fits, _, _, rfl, rfl, _, rfl, _, _, rfl, rfl, hm, _, rfl, t, _, rfl, DPut.k (k := Sum.inr "left") hT1 (small1000 (by show 3 ≤ 1000; decide)), ?_⟩
            rw [put_left]
            refine ⟨_, rfl, _, _, rfl, rfl, fits, _, _, rfl, rfl, _, rfl, _, _, rfl, rfl, hm0, ?_⟩
            refine drawn (Q := fun z H => Q (.int z) H) hm0 fun r hr => kk r _ hr (Int.ediv_nonneg ?_ (Int.le_of_lt hm0))
            have hz' := of_decide_eq_true hz
            rw [p18] at hz' ⊢
            omega
          · refine ⟨_, rfl, _, _, rfl, rfl, pos1, _, rfl, _, _, rfl, rfl, .inl ⟨by decide, by decide⟩, _, rfl, _, _, rfl, rfl, .inr spOk, _, _, rfl, rfl, _, rfl, _, _, rfl, rfl, .inl ⟨by decide, by decide⟩, _, _, rfl, rfl, _, _, rfl, rfl, _, _, rfl, rfl, .inr ⟨by decide, by decide⟩, _, _, rfl, rfl, pos2, ?_⟩
            refine ⟨_, rfl, _, rfl, _, _, rfl, rfl, _, _, rfl, rfl, .inl seedOk, _, _, rfl, rfl, pos1, _, _, rfl, rfl, dv64, _, rfl, _, _, rfl, rfl, hm0, ?_⟩
            exact drawn (Q := fun z H => Q (.int z) H) hm0 fun r hr => kl r hr
        · refine ⟨_, rfl, _, _, rfl, rfl, pos1, _, rfl, _, _, rfl, rfl, .inl ⟨by decide, by decide⟩, _, rfl, _, _, rfl, rfl, .inr spOk, _, _, rfl, rfl, _, rfl, _, _, rfl, rfl, .inl ⟨by decide, by decide⟩, _, _, rfl, rfl, _, _, rfl, rfl, _, _, rfl, rfl, .inr ⟨by decide, by decide⟩, _, _, rfl, rfl, pos2, ?_⟩
          refine ⟨_, rfl, _, rfl, _, _, rfl, rfl, _, _, rfl, rfl, .inl seedOk, _, _, rfl, rfl, pos1, _, _, rfl, rfl, dv64, _, rfl, _, _, rfl, rfl, hm0, ?_⟩
          exact drawn (Q := fun z H => Q (.int z) H) hm0 fun r hr => kl r hr
end
end K17
set_option Elab.async false
set_option linter.all false
set_option maxRecDepth 100000
set_option maxHeartbeats 1000000
namespace K17
open PySem PySem.Spec PyProof.Rows L2
def esD (c0 c1 c2 c3 c4 c5 c6 c7 c8 c9 c10 : Addr) (n : Int) (ds : List D) : List (Addr × Option (List (Str × D))) := [(c0, none), (c1, none), (c2, none), (c3, none), (c4, none), (c5, some [("at", .int n)]), (c6, some [("given", .int n)]), (c7, some [("thing", .int n)]), (c8, some [("place", .int n)]), (c9, some [("row", .int n)]), (c10, some [("places", .lst ds)])]
def SMade (c0 c1 c2 c3 c4 c5 c6 c7 c8 c9 c10 : Addr) : ASp := fun ss q => ∃ (n : Int) (t : Str) (ds : List D), ss = [.vl (.int n), .vl (.str t), .ow ds] ∧ 0 ≤ n ∧ n < 10000000000000000000000000000000000000000000000000000000000000000000000 ∧ q (.x (.xl (esD c0 c1 c2 c3 c4 c5 c6 c7 c8 c9 c10 n ds))) [.vl (.int n), .vl (.str t), .ow ds]
def SKinds (c0 c1 c2 c3 c4 c5 c6 c7 c8 c9 c10 : Addr) : ASp := fun ss q => ∃ (j : Nat) (C : Addr) (fs : Option (List (Str × D))), [c0, c1, c2, c3, c4, c5, c6, c7, c8, c9, c10][j]? = some C ∧ ss = [.ex C fs] ∧ q (.f ((List.range 11).map fun k => .bl (decide (j = k)))) [.ex C fs]
section
variable {P : Program} {w : World} {K : PySem.W.Frag} {mg : Str → Option Value} {base : Heap}
theorem init_Nought {C_Nought C_JoinError f_Nought : Addr} (i_n : InitN K C_Nought f_Nought "at" "Nought.__init__" si_Nought ["self", "at"]) (b : BaseI K C_JoinError) (B : BI mg) (m : mg "JoinError" = some (.ref C_JoinError)) :
    ∃ fd, Binds K fd ["self", "at"] [] ∧ FnOk P w K mg base CX0 1 f_Nought fd ["self", "at"] (spIP C_Nought "at") := by
  obtain ⟨fd, F, hb⟩ := i_n.fn
  refine ⟨fd, .all hb, F.ok (k := 0) sci_Nought (fun vs H Q E h => by obtain ⟨e, n, rfl, _⟩ := h; rfl) (fun cdv A outer s H vs Q E hr h => ?_)⟩
  obtain ⟨e, n, rfl, hn, he, hq⟩ := h
  refine ⟨_, pss_cons (ps_expr (pe_binit (C := C_Nought) b (excAny_ofI i_n.xi.cl) m (pa_cons (pv 0) (pa_cons (pe_joined (pj_cons pe_str (pj_cons (pe_fmt (pv 1)) pj_nil))) pa_nil)))) (pss_one (ps_setx i_n.xi (pv 1) (pv 0))), ?_⟩
  refine ⟨.ref e, rfl, j2 (by decide +kernel) hn rfl fun t => ⟨e, none, _, rfl, he, .int n, rfl, e, rfl, he, hq⟩⟩
theorem init_Bare {C_Bare C_JoinError f_Bare : Addr} (i_n : InitN K C_Bare f_Bare "given" "Bare.__init__" si_Bare ["self", "given"]) (b : BaseI K C_JoinError) (B : BI mg) (m : mg "JoinError" = some (.ref C_JoinError)) :
    ∃ fd, Binds K fd ["self", "given"] [] ∧ FnOk P w K mg base CX0 1 f_Bare fd ["self", "given"] (spIP C_Bare "given") := by
  obtain ⟨fd, F, hb⟩ := i_n.fn
  refine ⟨fd, .all hb, F.ok (k := 0) sci_Bare (fun vs H Q E h => by obtain ⟨e, n, rfl, _⟩ := h; rfl) (fun cdv A outer s H vs Q E hr h => ?_)⟩
  obtain ⟨e, n, rfl, hn, he, hq⟩ := h
  refine ⟨_, pss_cons (ps_expr (pe_binit (C := C_Bare) b (excAny_ofI i_n.xi.cl) m (pa_cons (pv 0) (pa_cons (pe_joined (pj_cons pe_str (pj_cons (pe_fmt (pv 1)) (pj_cons pe_str pj_nil)))) pa_nil)))) (pss_one (ps_setx i_n.xi (pv 1) (pv 0))), ?_⟩
  refine ⟨.ref e, rfl, j3 (by decide +kernel) (by decide +kernel) hn rfl fun t => ⟨e, none, _, rfl, he, .int n, rfl, e, rfl, he, hq⟩⟩
theorem init_Loose {C_Loose C_JoinError f_Loose : Addr} (i_n : InitN K C_Loose f_Loose "thing" "Loose.__init__" si_Loose ["self", "thing"]) (b : BaseI K C_JoinError) (B : BI mg) (m : mg "JoinError" = some (.ref C_JoinError)) :
    ∃ fd, Binds K fd ["self", "thing"] [] ∧ FnOk P w K mg base CX0 1 f_Loose fd ["self", "thing"] (spIP C_Loose "thing") := by
  obtain ⟨fd, F, hb⟩ := i_n.fn
  refine ⟨fd, .all hb, F.ok (k := 0) sci_Loose (fun vs H Q E h => by obtain ⟨e, n, rfl, _⟩ := h; rfl) (fun cdv A outer s H vs Q E hr h => ?_)⟩
  obtain ⟨e, n, rfl, hn, he, hq⟩ := h
  refine ⟨_, pss_cons (ps_expr (pe_binit (C := C_Loose) b (excAny_ofI i_n.xi.cl) m (pa_cons (pv 0) (pa_cons (pe_joined (pj_cons pe_str (pj_cons (pe_fmt (pv 1)) (pj_cons pe_str pj_nil)))) pa_nil)))) (pss_one (ps_setx i_n.xi (pv 1) (pv 0))), ?_⟩
  refine ⟨.ref e, rfl, j3 (by decide +kernel) (by decide +kernel) hn rfl fun t => ⟨e, none, _, rfl, he, .int n, rfl, e, rfl, he, hq⟩⟩
theorem init_Leans {C_Leans C_JoinError f_Leans : Addr} (i_n : InitN K C_Leans f_Leans "place" "Leans.__init__" si_Leans ["self", "place"]) (b : BaseI K C_JoinError) (B : BI mg) (m : mg "JoinError" = some (.ref C_JoinError)) :
    ∃ fd, Binds K fd ["self", "place"] [] ∧ FnOk P w K mg base CX0 1 f_Leans fd ["self", "place"] (spIP C_Leans "place") := by
  obtain ⟨fd, F, hb⟩ := i_n.fn
  refine ⟨fd, .all hb, F.ok (k := 0) sci_Leans (fun vs H Q E h => by obtain ⟨e, n, rfl, _⟩ := h; rfl) (fun cdv A outer s H vs Q E hr h => ?_)⟩
  obtain ⟨e, n, rfl, hn, he, hq⟩ := h
  refine ⟨_, pss_cons (ps_expr (pe_binit (C := C_Leans) b (excAny_ofI i_n.xi.cl) m (pa_cons (pv 0) (pa_cons (pe_joined (pj_cons pe_str (pj_cons (pe_fmt (pv 1)) (pj_cons pe_str pj_nil)))) pa_nil)))) (pss_one (ps_setx i_n.xi (pv 1) (pv 0))), ?_⟩
  refine ⟨.ref e, rfl, j3 (by decide +kernel) (by decide +kernel) hn rfl fun t => ⟨e, none, _, rfl, he, .int n, rfl, e, rfl, he, hq⟩⟩
theorem init_NoText {C_NoText C_JoinError f_NoText : Addr} (i_n : InitN K C_NoText f_NoText "row" "NoText.__init__" si_NoText ["self", "row"]) (b : BaseI K C_JoinError) (B : BI mg) (m : mg "JoinError" = some (.ref C_JoinError)) :
    ∃ fd, Binds K fd ["self", "row"] [] ∧ FnOk P w K mg base CX0 1 f_NoText fd ["self", "row"] (spIP C_NoText "row") := by
  obtain ⟨fd, F, hb⟩ := i_n.fn
  refine ⟨fd, .all hb, F.ok (k := 0) sci_NoText (fun vs H Q E h => by obtain ⟨e, n, rfl, _⟩ := h; rfl) (fun cdv A outer s H vs Q E hr h => ?_)⟩
  obtain ⟨e, n, rfl, hn, he, hq⟩ := h
  refine ⟨_, pss_cons (ps_expr (pe_binit (C := C_NoText) b (excAny_ofI i_n.xi.cl) m (pa_cons (pv 0) (pa_cons (pe_joined (pj_cons pe_str (pj_cons (pe_fmt (pv 1)) (pj_cons pe_str pj_nil)))) pa_nil)))) (pss_one (ps_setx i_n.xi (pv 1) (pv 0))), ?_⟩
  refine ⟨.ref e, rfl, j3 (by decide +kernel) (by decide +kernel) hn rfl fun t => ⟨e, none, _, rfl, he, .int n, rfl, e, rfl, he, hq⟩⟩
theorem init_NoAnswer {C_NoAnswer C_JoinError f_NoAnswer : Addr} (i_n : InitN K C_NoAnswer f_NoAnswer "places" "NoAnswer.__init__" si_NoAnswer ["self", "places"]) (b : BaseI K C_JoinError) (B : BI mg) (m : mg "JoinError" = some (.ref C_JoinError)) :
    ∃ fd, Binds K fd ["self", "places"] [] ∧ FnOk P w K mg base CX0 1 f_NoAnswer fd ["self", "places"] (spIL K C_NoAnswer "places") := by
  obtain ⟨fd, F, hb⟩ := i_n.fn
  refine ⟨fd, .all hb, F.ok (k := 0) sci_NoAnswer (fun vs H Q E h => by obtain ⟨e, p, xs, rfl, _⟩ := h; rfl) (fun cdv A outer s H vs Q E hr h => ?_)⟩
  obtain ⟨e, p, xs, rfl, he, hs, hq⟩ := h
  refine ⟨_, pss_cons (ps_expr (pe_binit (C := C_NoAnswer) b (excAny_ofI i_n.xi.cl) m (pa_cons (pv 0) (pa_cons pe_str pa_nil)))) (pss_one (ps_setx i_n.xi (pe_callTy (call_listK K) rfl B.list_ bt_list (pa_cons (pv 1) pa_nil)) (pv 0))), ?_⟩
  refine ⟨.ref e, rfl, e, none, _, rfl, he, .ref p, rfl, p, xs, rfl, .inl hs, fun l hl => ?_⟩
  have le : l ≠ e := fun z => by rw [z, he] at hl; cases hl
  refine ⟨e, rfl, by rw [upd_ne (Ne.symm le)]; exact he, fun dx hd ne => ?_⟩
  have dl : dx ≠ l := fun z => by rw [z, upd_same] at hd; cases hd
  rw [upd_ne dl] at hd
  exact hq l dx hl hd dl ne le
theorem ok_law_made {C_NoFit C_TooMany C_NoWidth C_NoRow C_NoName C_Nought C_JoinError C_Bare C_Loose C_Leans C_NoText C_NoAnswer f_Nought f_Bare f_Loose f_Leans f_NoText f_NoAnswer : Addr} (m_NoFit : mg "NoFit" = some (.ref C_NoFit)) (e_NoFit : PySem.W.excIn K C_NoFit bmV "ValueError.__new__" = true) (m_TooMany : mg "TooMany" = some (.ref C_TooMany)) (e_TooMany : PySem.W.excIn K C_TooMany bmV "ValueError.__new__" = true) (m_NoWidth : mg "NoWidth" = some (.ref C_NoWidth)) (e_NoWidth : PySem.W.excIn K C_NoWidth bmV "ValueError.__new__" = true) (m_NoRow : mg "NoRow" = some (.ref C_NoRow)) (e_NoRow : PySem.W.excIn K C_NoRow bmV "ValueError.__new__" = true) (m_NoName : mg "NoName" = some (.ref C_NoName)) (e_NoName : PySem.W.excIn K C_NoName bmV "ValueError.__new__" = true) (m_Nought : mg "Nought" = some (.ref C_Nought)) (m_JoinError : mg "JoinError" = some (.ref C_JoinError)) (in_Nought : InitN K C_Nought f_Nought "at" "Nought.__init__" si_Nought ["self", "at"]) (bs_JoinError : BaseI K C_JoinError) (m_Bare : mg "Bare" = some (.ref C_Bare)) (in_Bare : InitN K C_Bare f_Bare "given" "Bare.__init__" si_Bare ["self", "given"]) (m_Loose : mg "Loose" = some (.ref C_Loose)) (in_Loose : InitN K C_Loose f_Loose "thing" "Loose.__init__" si_Loose ["self", "thing"]) (m_Leans : mg "Leans" = some (.ref C_Leans)) (in_Leans : InitN K C_Leans f_Leans "place" "Leans.__init__" si_Leans ["self", "place"]) (m_NoText : mg "NoText" = some (.ref C_NoText)) (in_NoText : InitN K C_NoText f_NoText "row" "NoText.__init__" si_NoText ["self", "row"]) (m_NoAnswer : mg "NoAnswer" = some (.ref C_NoAnswer)) (in_NoAnswer : InitN K C_NoAnswer f_NoAnswer "places" "NoAnswer.__init__" si_NoAnswer ["self", "places"]) (dn : DefN K mg "_law_made" s_law_made ["_law_number", "_law_text", "_law_places"]) (B : BI mg) : OkN P w K mg base 3 "_law_made" ["_law_number", "_law_text", "_law_places"] (spA K (SMade C_NoFit C_TooMany C_NoWidth C_NoRow C_NoName C_Nought C_Bare C_Loose C_Leans C_NoText C_NoAnswer)) := by
  obtain ⟨fd_Nought, bi_Nought, fi_Nought⟩ := init_Nought (P := P) (w := w) (base := base) in_Nought bs_JoinError B m_JoinError
  obtain ⟨fd_Bare, bi_Bare, fi_Bare⟩ := init_Bare (P := P) (w := w) (base := base) in_Bare bs_JoinError B m_JoinError
  obtain ⟨fd_Loose, bi_Loose, fi_Loose⟩ := init_Loose (P := P) (w := w) (base := base) in_Loose bs_JoinError B m_JoinError
  obtain ⟨fd_Leans, bi_Leans, fi_Leans⟩ := init_Leans (P := P) (w := w) (base := base) in_Leans bs_JoinError B m_JoinError
  obtain ⟨fd_NoText, bi_NoText, fi_NoText⟩ := init_NoText (P := P) (w := w) (base := base) in_NoText bs_JoinError B m_JoinError
  obtain ⟨fd_NoAnswer, bi_NoAnswer, fi_NoAnswer⟩ := init_NoAnswer (P := P) (w := w) (base := base) in_NoAnswer bs_JoinError B m_JoinError
  refine dn.aok2 (k := 2) sc_law_made (fun j => j == 0 || j == 1 || j == 2) [] (SMade C_NoFit C_TooMany C_NoWidth C_NoRow C_NoName C_Nought C_Bare C_Loose C_Leans C_NoText C_NoAnswer) rfl (fun f cdv A outer s H E hr => have hu := hu_of hr; ⟨_, (pss_one (ps_ret (pz_lst (za_cons ns_Call (pe_mk0 rfl m_NoFit e_NoFit (pv 1)) (za_cons ns_Call (pe_mk0 rfl m_TooMany e_TooMany (pv 1)) (za_cons ns_Call (pe_mk0 rfl m_NoWidth e_NoWidth (pv 1)) (za_cons ns_Call (pe_mk0 rfl m_NoRow e_NoRow (pv 1)) (za_cons ns_Call (pe_mk0 rfl m_NoName e_NoName (pv 1)) (za_cons ns_Call (pe_mkI rfl m_Nought in_Nought.xi fi_Nought (hr.mono (by decide)) bi_Nought (pv 0)) (za_cons ns_Call (pe_mkI rfl m_Bare in_Bare.xi fi_Bare (hr.mono (by decide)) bi_Bare (pv 0)) (za_cons ns_Call (pe_mkI rfl m_Loose in_Loose.xi fi_Loose (hr.mono (by decide)) bi_Loose (pv 0)) (za_cons ns_Call (pe_mkI rfl m_Leans in_Leans.xi fi_Leans (hr.mono (by decide)) bi_Leans (pv 0)) (za_cons ns_Call (pe_mkI rfl m_NoText in_NoText.xi fi_NoText (hr.mono (by decide)) bi_NoText (pv 0)) (za_cons ns_Call (pe_mkI rfl m_NoAnswer in_NoAnswer.xi fi_NoAnswer (hr.mono (by decide)) bi_NoAnswer (pv 2)) za_nil)))))))))))))), (sok_ret (tok_lstX (taok_cons (tok_mk0 tok_var) (taok_cons (tok_mk0 tok_var) (taok_cons (tok_mk0 tok_var) (taok_cons (tok_mk0 tok_var) (taok_cons (tok_mk0 tok_var) (taok_cons (tok_mkI tok_var) (taok_cons (tok_mkI tok_var) (taok_cons (tok_mkI tok_var) (taok_cons (tok_mkI tok_var) (taok_cons (tok_mkI tok_var) (taok_cons (tok_mkL tok_var) taok_nil)))))))))))))⟩) ?_
  rintro ss q ⟨n, t, ds, rfl, h0, h1, hq⟩
  refine ⟨rfl, rfl, ?_⟩
  exact ⟨⟨h0, h1⟩, ⟨h0, h1⟩, ⟨h0, h1⟩, ⟨h0, h1⟩, ⟨h0, h1⟩, _, rfl, by simp, hq⟩
theorem ok_law_kinds {C_NoFit C_TooMany C_NoWidth C_NoRow C_NoName C_Nought C_Bare C_Loose C_Leans C_NoText C_NoAnswer : Addr} (m_NoFit : mg "NoFit" = some (.ref C_NoFit)) (m_TooMany : mg "TooMany" = some (.ref C_TooMany)) (m_NoWidth : mg "NoWidth" = some (.ref C_NoWidth)) (m_NoRow : mg "NoRow" = some (.ref C_NoRow)) (m_NoName : mg "NoName" = some (.ref C_NoName)) (m_Nought : mg "Nought" = some (.ref C_Nought)) (m_Bare : mg "Bare" = some (.ref C_Bare)) (m_Loose : mg "Loose" = some (.ref C_Loose)) (m_Leans : mg "Leans" = some (.ref C_Leans)) (m_NoText : mg "NoText" = some (.ref C_NoText)) (m_NoAnswer : mg "NoAnswer" = some (.ref C_NoAnswer)) (i_NoFit : ExIs K C_NoFit) (k_NoFit_NoFit : PySem.W.kitOne K (.ref C_NoFit) (.ref C_NoFit) = some true) (k_NoFit_TooMany : PySem.W.kitOne K (.ref C_NoFit) (.ref C_TooMany) = some false) (k_NoFit_NoWidth : PySem.W.kitOne K (.ref C_NoFit) (.ref C_NoWidth) = some false) (k_NoFit_NoRow : PySem.W.kitOne K (.ref C_NoFit) (.ref C_NoRow) = some false) (k_NoFit_NoName : PySem.W.kitOne K (.ref C_NoFit) (.ref C_NoName) = some false) (k_NoFit_Nought : PySem.W.kitOne K (.ref C_NoFit) (.ref C_Nought) = some false) (k_NoFit_Bare : PySem.W.kitOne K (.ref C_NoFit) (.ref C_Bare) = some false) (k_NoFit_Loose : PySem.W.kitOne K (.ref C_NoFit) (.ref C_Loose) = some false) (k_NoFit_Leans : PySem.W.kitOne K (.ref C_NoFit) (.ref C_Leans) = some false) (k_NoFit_NoText : PySem.W.kitOne K (.ref C_NoFit) (.ref C_NoText) = some false) (k_NoFit_NoAnswer : PySem.W.kitOne K (.ref C_NoFit) (.ref C_NoAnswer) = some false) (i_TooMany : ExIs K C_TooMany) (k_TooMany_NoFit : PySem.W.kitOne K (.ref C_TooMany) (.ref C_NoFit) = some false) (k_TooMany_TooMany : PySem.W.kitOne K (.ref C_TooMany) (.ref C_TooMany) = some true) (k_TooMany_NoWidth : PySem.W.kitOne K (.ref C_TooMany) (.ref C_NoWidth) = some false) (k_TooMany_NoRow : PySem.W.kitOne K (.ref C_TooMany) (.ref C_NoRow) = some false) (k_TooMany_NoName : PySem.W.kitOne K (.ref C_TooMany) (.ref C_NoName) = some false) (k_TooMany_Nought : PySem.W.kitOne K (.ref C_TooMany) (.ref C_Nought) = some false) (k_TooMany_Bare : PySem.W.kitOne K (.ref C_TooMany) (.ref C_Bare) = some false) (k_TooMany_Loose : PySem.W.kitOne K (.ref C_TooMany) (.ref C_Loose) = some false) (k_TooMany_Leans : PySem.W.kitOne K (.ref C_TooMany) (.ref C_Leans) = some false) (k_TooMany_NoText : PySem.W.kitOne K (.ref C_TooMany) (.ref C_NoText) = some false) (k_TooMany_NoAnswer : PySem.W.kitOne K (.ref C_TooMany) (.ref C_NoAnswer) = some false) (i_NoWidth : ExIs K C_NoWidth) (k_NoWidth_NoFit : PySem.W.kitOne K (.ref C_NoWidth) (.ref C_NoFit) = some false) (k_NoWidth_TooMany : PySem.W.kitOne K (.ref C_NoWidth) (.ref C_TooMany) = some false) (k_NoWidth_NoWidth : PySem.W.kitOne K (.ref C_NoWidth) (.ref C_NoWidth) = some true) (k_NoWidth_NoRow : PySem.W.kitOne K (.ref C_NoWidth) (.ref C_NoRow) = some false) (k_NoWidth_NoName : PySem.W.kitOne K (.ref C_NoWidth) (.ref C_NoName) = some false) (k_NoWidth_Nought : PySem.W.kitOne K (.ref C_NoWidth) (.ref C_Nought) = some false) (k_NoWidth_Bare : PySem.W.kitOne K (.ref C_NoWidth) (.ref C_Bare) = some false) (k_NoWidth_Loose : PySem.W.kitOne K (.ref C_NoWidth) (.ref C_Loose) = some false) (k_NoWidth_Leans : PySem.W.kitOne K (.ref C_NoWidth) (.ref C_Leans) = some false) (k_NoWidth_NoText : PySem.W.kitOne K (.ref C_NoWidth) (.ref C_NoText) = some false) (k_NoWidth_NoAnswer : PySem.W.kitOne K (.ref C_NoWidth) (.ref C_NoAnswer) = some false) (i_NoRow : ExIs K C_NoRow) (k_NoRow_NoFit : PySem.W.kitOne K (.ref C_NoRow) (.ref C_NoFit) = some false) (k_NoRow_TooMany : PySem.W.kitOne K (.ref C_NoRow) (.ref C_TooMany) = some false) (k_NoRow_NoWidth : PySem.W.kitOne K (.ref C_NoRow) (.ref C_NoWidth) = some false) (k_NoRow_NoRow : PySem.W.kitOne K (.ref C_NoRow) (.ref C_NoRow) = some true) (k_NoRow_NoName : PySem.W.kitOne K (.ref C_NoRow) (.ref C_NoName) = some false) (k_NoRow_Nought : PySem.W.kitOne K (.ref C_NoRow) (.ref C_Nought) = some false) (k_NoRow_Bare : PySem.W.kitOne K (.ref C_NoRow) (.ref C_Bare) = some false) (k_NoRow_Loose : PySem.W.kitOne K (.ref C_NoRow) (.ref C_Loose) = some false) (k_NoRow_Leans : PySem.W.kitOne K (.ref C_NoRow) (.ref C_Leans) = some false) (k_NoRow_NoText : PySem.W.kitOne K (.ref C_NoRow) (.ref C_NoText) = some false) (k_NoRow_NoAnswer : PySem.W.kitOne K (.ref C_NoRow) (.ref C_NoAnswer) = some false) (i_NoName : ExIs K C_NoName) (k_NoName_NoFit : PySem.W.kitOne K (.ref C_NoName) (.ref C_NoFit) = some false) (k_NoName_TooMany : PySem.W.kitOne K (.ref C_NoName) (.ref C_TooMany) = some false) (k_NoName_NoWidth : PySem.W.kitOne K (.ref C_NoName) (.ref C_NoWidth) = some false) (k_NoName_NoRow : PySem.W.kitOne K (.ref C_NoName) (.ref C_NoRow) = some false) (k_NoName_NoName : PySem.W.kitOne K (.ref C_NoName) (.ref C_NoName) = some true) (k_NoName_Nought : PySem.W.kitOne K (.ref C_NoName) (.ref C_Nought) = some false) (k_NoName_Bare : PySem.W.kitOne K (.ref C_NoName) (.ref C_Bare) = some false) (k_NoName_Loose : PySem.W.kitOne K (.ref C_NoName) (.ref C_Loose) = some false) (k_NoName_Leans : PySem.W.kitOne K (.ref C_NoName) (.ref C_Leans) = some false) (k_NoName_NoText : PySem.W.kitOne K (.ref C_NoName) (.ref C_NoText) = some false) (k_NoName_NoAnswer : PySem.W.kitOne K (.ref C_NoName) (.ref C_NoAnswer) = some false) (i_Nought : ExIs K C_Nought) (k_Nought_NoFit : PySem.W.kitOne K (.ref C_Nought) (.ref C_NoFit) = some false) (k_Nought_TooMany : PySem.W.kitOne K (.ref C_Nought) (.ref C_TooMany) = some false) (k_Nought_NoWidth : PySem.W.kitOne K (.ref C_Nought) (.ref C_NoWidth) = some false) (k_Nought_NoRow : PySem.W.kitOne K (.ref C_Nought) (.ref C_NoRow) = some false) (k_Nought_NoName : PySem.W.kitOne K (.ref C_Nought) (.ref C_NoName) = some false) (k_Nought_Nought : PySem.W.kitOne K (.ref C_Nought) (.ref C_Nought) = some true) (k_Nought_Bare : PySem.W.kitOne K (.ref C_Nought) (.ref C_Bare) = some false) (k_Nought_Loose : PySem.W.kitOne K (.ref C_Nought) (.ref C_Loose) = some false) (k_Nought_Leans : PySem.W.kitOne K (.ref C_Nought) (.ref C_Leans) = some false) (k_Nought_NoText : PySem.W.kitOne K (.ref C_Nought) (.ref C_NoText) = some false) (k_Nought_NoAnswer : PySem.W.kitOne K (.ref C_Nought) (.ref C_NoAnswer) = some false) (i_Bare : ExIs K C_Bare) (k_Bare_NoFit : PySem.W.kitOne K (.ref C_Bare) (.ref C_NoFit) = some false) (k_Bare_TooMany : PySem.W.kitOne K (.ref C_Bare) (.ref C_TooMany) = some false) (k_Bare_NoWidth : PySem.W.kitOne K (.ref C_Bare) (.ref C_NoWidth) = some false) (k_Bare_NoRow : PySem.W.kitOne K (.ref C_Bare) (.ref C_NoRow) = some false) (k_Bare_NoName : PySem.W.kitOne K (.ref C_Bare) (.ref C_NoName) = some false) (k_Bare_Nought : PySem.W.kitOne K (.ref C_Bare) (.ref C_Nought) = some false) (k_Bare_Bare : PySem.W.kitOne K (.ref C_Bare) (.ref C_Bare) = some true) (k_Bare_Loose : PySem.W.kitOne K (.ref C_Bare) (.ref C_Loose) = some false) (k_Bare_Leans : PySem.W.kitOne K (.ref C_Bare) (.ref C_Leans) = some false) (k_Bare_NoText : PySem.W.kitOne K (.ref C_Bare) (.ref C_NoText) = some false) (k_Bare_NoAnswer : PySem.W.kitOne K (.ref C_Bare) (.ref C_NoAnswer) = some false) (i_Loose : ExIs K C_Loose) (k_Loose_NoFit : PySem.W.kitOne K (.ref C_Loose) (.ref C_NoFit) = some false) (k_Loose_TooMany : PySem.W.kitOne K (.ref C_Loose) (.ref C_TooMany) = some false) (k_Loose_NoWidth : PySem.W.kitOne K (.ref C_Loose) (.ref C_NoWidth) = some false) (k_Loose_NoRow : PySem.W.kitOne K (.ref C_Loose) (.ref C_NoRow) = some false) (k_Loose_NoName : PySem.W.kitOne K (.ref C_Loose) (.ref C_NoName) = some false) (k_Loose_Nought : PySem.W.kitOne K (.ref C_Loose) (.ref C_Nought) = some false) (k_Loose_Bare : PySem.W.kitOne K (.ref C_Loose) (.ref C_Bare) = some false) (k_Loose_Loose : PySem.W.kitOne K (.ref C_Loose) (.ref C_Loose) = some true) (k_Loose_Leans : PySem.W.kitOne K (.ref C_Loose) (.ref C_Leans) = some false) (k_Loose_NoText : PySem.W.kitOne K (.ref C_Loose) (.ref C_NoText) = some false) (k_Loose_NoAnswer : PySem.W.kitOne K (.ref C_Loose) (.ref C_NoAnswer) = some false) (i_Leans : ExIs K C_Leans) (k_Leans_NoFit : PySem.W.kitOne K (.ref C_Leans) (.ref C_NoFit) = some false) (k_Leans_TooMany : PySem.W.kitOne K (.ref C_Leans) (.ref C_TooMany) = some false) (k_Leans_NoWidth : PySem.W.kitOne K (.ref C_Leans) (.ref C_NoWidth) = some false) (k_Leans_NoRow : PySem.W.kitOne K (.ref C_Leans) (.ref C_NoRow) = some false) (k_Leans_NoName : PySem.W.kitOne K (.ref C_Leans) (.ref C_NoName) = some false) (k_Leans_Nought : PySem.W.kitOne K (.ref C_Leans) (.ref C_Nought) = some false) (k_Leans_Bare : PySem.W.kitOne K (.ref C_Leans) (.ref C_Bare) = some false) (k_Leans_Loose : PySem.W.kitOne K (.ref C_Leans) (.ref C_Loose) = some false) (k_Leans_Leans : PySem.W.kitOne K (.ref C_Leans) (.ref C_Leans) = some true) (k_Leans_NoText : PySem.W.kitOne K (.ref C_Leans) (.ref C_NoText) = some false) (k_Leans_NoAnswer : PySem.W.kitOne K (.ref C_Leans) (.ref C_NoAnswer) = some false) (i_NoText : ExIs K C_NoText) (k_NoText_NoFit : PySem.W.kitOne K (.ref C_NoText) (.ref C_NoFit) = some false) (k_NoText_TooMany : PySem.W.kitOne K (.ref C_NoText) (.ref C_TooMany) = some false) (k_NoText_NoWidth : PySem.W.kitOne K (.ref C_NoText) (.ref C_NoWidth) = some false) (k_NoText_NoRow : PySem.W.kitOne K (.ref C_NoText) (.ref C_NoRow) = some false) (k_NoText_NoName : PySem.W.kitOne K (.ref C_NoText) (.ref C_NoName) = some false) (k_NoText_Nought : PySem.W.kitOne K (.ref C_NoText) (.ref C_Nought) = some false) (k_NoText_Bare : PySem.W.kitOne K (.ref C_NoText) (.ref C_Bare) = some false) (k_NoText_Loose : PySem.W.kitOne K (.ref C_NoText) (.ref C_Loose) = some false) (k_NoText_Leans : PySem.W.kitOne K (.ref C_NoText) (.ref C_Leans) = some false) (k_NoText_NoText : PySem.W.kitOne K (.ref C_NoText) (.ref C_NoText) = some true) (k_NoText_NoAnswer : PySem.W.kitOne K (.ref C_NoText) (.ref C_NoAnswer) = some false) (i_NoAnswer : ExIs K C_NoAnswer) (k_NoAnswer_NoFit : PySem.W.kitOne K (.ref C_NoAnswer) (.ref C_NoFit) = some false) (k_NoAnswer_TooMany : PySem.W.kitOne K (.ref C_NoAnswer) (.ref C_TooMany) = some false) (k_NoAnswer_NoWidth : PySem.W.kitOne K (.ref C_NoAnswer) (.ref C_NoWidth) = some false) (k_NoAnswer_NoRow : PySem.W.kitOne K (.ref C_NoAnswer) (.ref C_NoRow) = some false) (k_NoAnswer_NoName : PySem.W.kitOne K (.ref C_NoAnswer) (.ref C_NoName) = some false) (k_NoAnswer_Nought : PySem.W.kitOne K (.ref C_NoAnswer) (.ref C_Nought) = some false) (k_NoAnswer_Bare : PySem.W.kitOne K (.ref C_NoAnswer) (.ref C_Bare) = some false) (k_NoAnswer_Loose : PySem.W.kitOne K (.ref C_NoAnswer) (.ref C_Loose) = some false) (k_NoAnswer_Leans : PySem.W.kitOne K (.ref C_NoAnswer) (.ref C_Leans) = some false) (k_NoAnswer_NoText : PySem.W.kitOne K (.ref C_NoAnswer) (.ref C_NoText) = some false) (k_NoAnswer_NoAnswer : PySem.W.kitOne K (.ref C_NoAnswer) (.ref C_NoAnswer) = some true) (dn : DefN K mg "_law_kinds" s_law_kinds ["_law_e"]) (B : BI mg) : OkN P w K mg base 1 "_law_kinds" ["_law_e"] (spA K (SKinds C_NoFit C_TooMany C_NoWidth C_NoRow C_NoName C_Nought C_Bare C_Loose C_Leans C_NoText C_NoAnswer)) := by
  refine dn.aok2 (k := 0) sc_law_kinds (fun j => j == 0) [.un] (SKinds C_NoFit C_TooMany C_NoWidth C_NoRow C_NoName C_Nought C_Bare C_Loose C_Leans C_NoText C_NoAnswer) rfl (fun f cdv A outer s H E hr => have hu := hu_of hr; ⟨_, (pss_cons (ps_set (i := 1) sc_law_kinds.nd rfl (by first | exact Or.inl rfl | exact Or.inr rfl) (pe_lst (pa_cons (pe_callB (call_isaX K (c := .ref C_NoFit) (u := .ref C_NoFit) (fun _ h => h)) rfl B.isinstance_ bt_isinstance (pa_cons (pv 0) (pa_cons (pe_glob (v := .ref C_NoFit) rfl m_NoFit rfl) pa_nil))) (pa_cons (pe_callB (call_isaX K (c := .ref C_TooMany) (u := .ref C_TooMany) (fun _ h => h)) rfl B.isinstance_ bt_isinstance (pa_cons (pv 0) (pa_cons (pe_glob (v := .ref C_TooMany) rfl m_TooMany rfl) pa_nil))) (pa_cons (pe_callB (call_isaX K (c := .ref C_NoWidth) (u := .ref C_NoWidth) (fun _ h => h)) rfl B.isinstance_ bt_isinstance (pa_cons (pv 0) (pa_cons (pe_glob (v := .ref C_NoWidth) rfl m_NoWidth rfl) pa_nil))) (pa_cons (pe_callB (call_isaX K (c := .ref C_NoRow) (u := .ref C_NoRow) (fun _ h => h)) rfl B.isinstance_ bt_isinstance (pa_cons (pv 0) (pa_cons (pe_glob (v := .ref C_NoRow) rfl m_NoRow rfl) pa_nil))) pa_nil))))))
    (pss_cons (ps_set (i := 1) sc_law_kinds.nd rfl (by first | exact Or.inl rfl | exact Or.inr rfl) (pe_op (op_catL K) (pv 1) (pe_lst (pa_cons (pe_callB (call_isaX K (c := .ref C_NoName) (u := .ref C_NoName) (fun _ h => h)) rfl B.isinstance_ bt_isinstance (pa_cons (pv 0) (pa_cons (pe_glob (v := .ref C_NoName) rfl m_NoName rfl) pa_nil))) (pa_cons (pe_callB (call_isaX K (c := .ref C_Nought) (u := .ref C_Nought) (fun _ h => h)) rfl B.isinstance_ bt_isinstance (pa_cons (pv 0) (pa_cons (pe_glob (v := .ref C_Nought) rfl m_Nought rfl) pa_nil))) (pa_cons (pe_callB (call_isaX K (c := .ref C_Bare) (u := .ref C_Bare) (fun _ h => h)) rfl B.isinstance_ bt_isinstance (pa_cons (pv 0) (pa_cons (pe_glob (v := .ref C_Bare) rfl m_Bare rfl) pa_nil))) (pa_cons (pe_callB (call_isaX K (c := .ref C_Loose) (u := .ref C_Loose) (fun _ h => h)) rfl B.isinstance_ bt_isinstance (pa_cons (pv 0) (pa_cons (pe_glob (v := .ref C_Loose) rfl m_Loose rfl) pa_nil))) pa_nil)))))))
    (pss_one (ps_ret (pe_op (op_catL K) (pv 1) (pe_lst (pa_cons (pe_callB (call_isaX K (c := .ref C_Leans) (u := .ref C_Leans) (fun _ h => h)) rfl B.isinstance_ bt_isinstance (pa_cons (pv 0) (pa_cons (pe_glob (v := .ref C_Leans) rfl m_Leans rfl) pa_nil))) (pa_cons (pe_callB (call_isaX K (c := .ref C_NoText) (u := .ref C_NoText) (fun _ h => h)) rfl B.isinstance_ bt_isinstance (pa_cons (pv 0) (pa_cons (pe_glob (v := .ref C_NoText) rfl m_NoText rfl) pa_nil))) (pa_cons (pe_callB (call_isaX K (c := .ref C_NoAnswer) (u := .ref C_NoAnswer) (fun _ h => h)) rfl B.isinstance_ bt_isinstance (pa_cons (pv 0) (pa_cons (pe_glob (v := .ref C_NoAnswer) rfl m_NoAnswer rfl) pa_nil))) pa_nil))))))))), (sok_seq (sok_set (tok_lst (taok_cons tok_isX (taok_cons tok_isX (taok_cons tok_isX (taok_cons tok_isX taok_nil))))) rfl)
    (sok_seq (sok_set (tok_op ook_cat tok_var (tok_lst (taok_cons tok_isX (taok_cons tok_isX (taok_cons tok_isX (taok_cons tok_isX taok_nil)))))) rfl)
    (sok_ret (tok_op ook_cat tok_var (tok_lst (taok_cons tok_isX (taok_cons tok_isX (taok_cons tok_isX taok_nil))))))))⟩) ?_
  rintro ss q ⟨j, C, fs, hj, rfl, hq⟩
  refine ⟨rfl, rfl, ?_⟩
  have hj' : j < 11 := (List.getElem?_eq_some_iff.mp hj).1
  rcases (show j = 0 ∨ j = 1 ∨ j = 2 ∨ j = 3 ∨ j = 4 ∨ j = 5 ∨ j = 6 ∨ j = 7 ∨ j = 8 ∨ j = 9 ∨ j = 10 by omega) with rfl | rfl | rfl | rfl | rfl | rfl | rfl | rfl | rfl | rfl | rfl
  · obtain rfl : C_NoFit = C := Option.some.inj hj
    refine cutS (fun ρ => ρ = [.ex C_NoFit fs, .ow [.bl true, .bl false, .bl false, .bl false]]) (fun M hM => ⟨_, i_NoFit, k_NoFit_NoFit, _, i_NoFit, k_NoFit_TooMany, _, i_NoFit, k_NoFit_NoWidth, _, i_NoFit, k_NoFit_NoRow, by simp, hM _ rfl⟩) ?_
    rintro _ rfl
    refine cutS (fun ρ => ρ = [.ex C_NoFit fs, .ow [.bl true, .bl false, .bl false, .bl false, .bl false, .bl false, .bl false, .bl false]]) (fun M hM => ⟨_, i_NoFit, k_NoFit_NoName, _, i_NoFit, k_NoFit_Nought, _, i_NoFit, k_NoFit_Bare, _, i_NoFit, k_NoFit_Loose, by simp, by simp, hM _ rfl⟩) ?_
    rintro _ rfl
    exact ⟨_, i_NoFit, k_NoFit_Leans, _, i_NoFit, k_NoFit_NoText, _, i_NoFit, k_NoFit_NoAnswer, by simp, by simp, hq⟩
  · obtain rfl : C_TooMany = C := Option.some.inj hj
    refine cutS (fun ρ => ρ = [.ex C_TooMany fs, .ow [.bl false, .bl true, .bl false, .bl false]]) (fun M hM => ⟨_, i_TooMany, k_TooMany_NoFit, _, i_TooMany, k_TooMany_TooMany, _, i_TooMany, k_TooMany_NoWidth, _, i_TooMany, k_TooMany_NoRow, by simp, hM _ rfl⟩) ?_
    rintro _ rfl
    refine cutS (fun ρ => ρ = [.ex C_TooMany fs, .ow [.bl false, .bl true, .bl false, .bl false, .bl false, .bl false, .bl false, .bl false]]) (fun M hM => ⟨_, i_TooMany, k_TooMany_NoName, _, i_TooMany, k_TooMany_Nought, _, i_TooMany, k_TooMany_Bare, _, i_TooMany, k_TooMany_Loose, by simp, by simp, hM _ rfl⟩) ?_
    rintro _ rfl
    exact ⟨_, i_TooMany, k_TooMany_Leans, _, i_TooMany, k_TooMany_NoText, _, i_TooMany, k_TooMany_NoAnswer, by simp, by simp, hq⟩
  · obtain rfl : C_NoWidth = C := Option.some.inj hj
    refine cutS (fun ρ => ρ = [.ex C_NoWidth fs, .ow [.bl false, .bl false, .bl true, .bl false]]) (fun M hM => ⟨_, i_NoWidth, k_NoWidth_NoFit, _, i_NoWidth, k_NoWidth_TooMany, _, i_NoWidth, k_NoWidth_NoWidth, _, i_NoWidth, k_NoWidth_NoRow, by simp, hM _ rfl⟩) ?_
    rintro _ rfl
    refine cutS (fun ρ => ρ = [.ex C_NoWidth fs, .ow [.bl false, .bl false, .bl true, .bl false, .bl false, .bl false, .bl false, .bl false]]) (fun M hM => ⟨_, i_NoWidth, k_NoWidth_NoName, _, i_NoWidth, k_NoWidth_Nought, _, i_NoWidth, k_NoWidth_Bare, _, i_NoWidth, k_NoWidth_Loose, by simp, by simp, hM _ rfl⟩) ?_
    rintro _ rfl
    exact ⟨_, i_NoWidth, k_NoWidth_Leans, _, i_NoWidth, k_NoWidth_NoText, _, i_NoWidth, k_NoWidth_NoAnswer, by simp, by simp, hq⟩
  · obtain rfl : C_NoRow = C := Option.some.inj hj
    refine cutS (fun ρ => ρ = [.ex C_NoRow fs, .ow [.bl false, .bl false, .bl false, .bl true]]) (fun M hM => ⟨_, i_NoRow, k_NoRow_NoFit, _, i_NoRow, k_NoRow_TooMany, _, i_NoRow, k_NoRow_NoWidth, _, i_NoRow, k_NoRow_NoRow, by simp, hM _ rfl⟩) ?_
    rintro _ rfl
    refine cutS (fun ρ => ρ = [.ex C_NoRow fs, .ow [.bl false, .bl false, .bl false, .bl true, .bl false, .bl false, .bl false, .bl false]]) (fun M hM => ⟨_, i_NoRow, k_NoRow_NoName, _, i_NoRow, k_NoRow_Nought, _, i_NoRow, k_NoRow_Bare, _, i_NoRow, k_NoRow_Loose, by simp, by simp, hM _ rfl⟩) ?_
    rintro _ rfl
    exact ⟨_, i_NoRow, k_NoRow_Leans, _, i_NoRow, k_NoRow_NoText, _, i_NoRow, k_NoRow_NoAnswer, by simp, by simp, hq⟩
  · obtain rfl : C_NoName = C := Option.some.inj hj
    refine cutS (fun ρ => ρ = [.ex C_NoName fs, .ow [.bl false, .bl false, .bl false, .bl false]]) (fun M hM => ⟨_, i_NoName, k_NoName_NoFit, _, i_NoName, k_NoName_TooMany, _, i_NoName, k_NoName_NoWidth, _, i_NoName, k_NoName_NoRow, by simp, hM _ rfl⟩) ?_
    rintro _ rfl
    refine cutS (fun ρ => ρ = [.ex C_NoName fs, .ow [.bl false, .bl false, .bl false, .bl false, .bl true, .bl false, .bl false, .bl false]]) (fun M hM => ⟨_, i_NoName, k_NoName_NoName, _, i_NoName, k_NoName_Nought, _, i_NoName, k_NoName_Bare, _, i_NoName, k_NoName_Loose, by simp, by simp, hM _ rfl⟩) ?_
    rintro _ rfl
    exact ⟨_, i_NoName, k_NoName_Leans, _, i_NoName, k_NoName_NoText, _, i_NoName, k_NoName_NoAnswer, by simp, by simp, hq⟩
  · obtain rfl : C_Nought = C := Option.some.inj hj
    refine cutS (fun ρ => ρ = [.ex C_Nought fs, .ow [.bl false, .bl false, .bl false, .bl false]]) (fun M hM => ⟨_, i_Nought, k_Nought_NoFit, _, i_Nought, k_Nought_TooMany, _, i_Nought, k_Nought_NoWidth, _, i_Nought, k_Nought_NoRow, by simp, hM _ rfl⟩) ?_
    rintro _ rfl
    refine cutS (fun ρ => ρ = [.ex C_Nought fs, .ow [.bl false, .bl false, .bl false, .bl false, .bl false, .bl true, .bl false, .bl false]]) (fun M hM => ⟨_, i_Nought, k_Nought_NoName, _, i_Nought, k_Nought_Nought, _, i_Nought, k_Nought_Bare, _, i_Nought, k_Nought_Loose, by simp, by simp, hM _ rfl⟩) ?_
    rintro _ rfl
    exact ⟨_, i_Nought, k_Nought_Leans, _, i_Nought, k_Nought_NoText, _, i_Nought, k_Nought_NoAnswer, by simp, by simp, hq⟩
  · obtain rfl : C_Bare = C := Option.some.inj hj
    refine cutS (fun ρ => ρ = [.ex C_Bare fs, .ow [.bl false, .bl false, .bl false, .bl false]]) (fun M hM => ⟨_, i_Bare, k_Bare_NoFit, _, i_Bare, k_Bare_TooMany, _, i_Bare, k_Bare_NoWidth, _, i_Bare, k_Bare_NoRow, by simp, hM _ rfl⟩) ?_
    rintro _ rfl
    refine cutS (fun ρ => ρ = [.ex C_Bare fs, .ow [.bl false, .bl false, .bl false, .bl false, .bl false, .bl false, .bl true, .bl false]]) (fun M hM => ⟨_, i_Bare, k_Bare_NoName, _, i_Bare, k_Bare_Nought, _, i_Bare, k_Bare_Bare, _, i_Bare, k_Bare_Loose, by simp, by simp, hM _ rfl⟩) ?_
    rintro _ rfl
    exact ⟨_, i_Bare, k_Bare_Leans, _, i_Bare, k_Bare_NoText, _, i_Bare, k_Bare_NoAnswer, by simp, by simp, hq⟩
  · obtain rfl : C_Loose = C := Option.some.inj hj
    refine cutS (fun ρ => ρ = [.ex C_Loose fs, .ow [.bl false, .bl false, .bl false, .bl false]]) (fun M hM => ⟨_, i_Loose, k_Loose_NoFit, _, i_Loose, k_Loose_TooMany, _, i_Loose, k_Loose_NoWidth, _, i_Loose, k_Loose_NoRow, by simp, hM _ rfl⟩) ?_
    rintro _ rfl
    refine cutS (fun ρ => ρ = [.ex C_Loose fs, .ow [.bl false, .bl false, .bl false, .bl false, .bl false, .bl false, .bl false, .bl true]]) (fun M hM => ⟨_, i_Loose, k_Loose_NoName, _, i_Loose, k_Loose_Nought, _, i_Loose, k_Loose_Bare, _, i_Loose, k_Loose_Loose, by simp, by simp, hM _ rfl⟩) ?_
    rintro _ rfl
    exact ⟨_, i_Loose, k_Loose_Leans, _, i_Loose, k_Loose_NoText, _, i_Loose, k_Loose_NoAnswer, by simp, by simp, hq⟩
  · obtain rfl : C_Leans = C := Option.some.inj hj
    refine cutS (fun ρ => ρ = [.ex C_Leans fs, .ow [.bl false, .bl false, .bl false, .bl false]]) (fun M hM => ⟨_, i_Leans, k_Leans_NoFit, _, i_Leans, k_Leans_TooMany, _, i_Leans, k_Leans_NoWidth, _, i_Leans, k_Leans_NoRow, by simp, hM _ rfl⟩) ?_
    rintro _ rfl
    refine cutS (fun ρ => ρ = [.ex C_Leans fs, .ow [.bl false, .bl false, .bl false, .bl false, .bl false, .bl false, .bl false, .bl false]]) (fun M hM => ⟨_, i_Leans, k_Leans_NoName, _, i_Leans, k_Leans_Nought, _, i_Leans, k_Leans_Bare, _, i_Leans, k_Leans_Loose, by simp, by simp, hM _ rfl⟩) ?_
    rintro _ rfl
    exact ⟨_, i_Leans, k_Leans_Leans, _, i_Leans, k_Leans_NoText, _, i_Leans, k_Leans_NoAnswer, by simp, by simp, hq⟩
  · obtain rfl : C_NoText = C := Option.some.inj hj
    refine cutS (fun ρ => ρ = [.ex C_NoText fs, .ow [.bl false, .bl false, .bl false, .bl false]]) (fun M hM => ⟨_, i_NoText, k_NoText_NoFit, _, i_NoText, k_NoText_TooMany, _, i_NoText, k_NoText_NoWidth, _, i_NoText, k_NoText_NoRow, by simp, hM _ rfl⟩) ?_
    rintro _ rfl
    refine cutS (fun ρ => ρ = [.ex C_NoText fs, .ow [.bl false, .bl false, .bl false, .bl false, .bl false, .bl false, .bl false, .bl false]]) (fun M hM => ⟨_, i_NoText, k_NoText_NoName, _, i_NoText, k_NoText_Nought, _, i_NoText, k_NoText_Bare, _, i_NoText, k_NoText_Loose, by simp, by simp, hM _ rfl⟩) ?_
    rintro _ rfl
    exact ⟨_, i_NoText, k_NoText_Leans, _, i_NoText, k_NoText_NoText, _, i_NoText, k_NoText_NoAnswer, by simp, by simp, hq⟩
  · obtain rfl : C_NoAnswer = C := Option.some.inj hj
    refine cutS (fun ρ => ρ = [.ex C_NoAnswer fs, .ow [.bl false, .bl false, .bl false, .bl false]]) (fun M hM => ⟨_, i_NoAnswer, k_NoAnswer_NoFit, _, i_NoAnswer, k_NoAnswer_TooMany, _, i_NoAnswer, k_NoAnswer_NoWidth, _, i_NoAnswer, k_NoAnswer_NoRow, by simp, hM _ rfl⟩) ?_
    rintro _ rfl
    refine cutS (fun ρ => ρ = [.ex C_NoAnswer fs, .ow [.bl false, .bl false, .bl false, .bl false, .bl false, .bl false, .bl false, .bl false]]) (fun M hM => ⟨_, i_NoAnswer, k_NoAnswer_NoName, _, i_NoAnswer, k_NoAnswer_Nought, _, i_NoAnswer, k_NoAnswer_Bare, _, i_NoAnswer, k_NoAnswer_Loose, by simp, by simp, hM _ rfl⟩) ?_
    rintro _ rfl
    exact ⟨_, i_NoAnswer, k_NoAnswer_Leans, _, i_NoAnswer, k_NoAnswer_NoText, _, i_NoAnswer, k_NoAnswer_NoAnswer, by simp, by simp, hq⟩
end
end K17
set_option Elab.async false
set_option linter.all false
set_option maxRecDepth 100000
set_option maxHeartbeats 1000000
namespace K17
open PySem PySem.Spec PyProof.Rows L2
theorem eqD_nn (a b : Nat) : eqD (nD a) (nD b) = decide (a = b) := by
  unfold eqD
  show decide ((a : Int) = (b : Int)) = _
  rw [decide_eq_decide]; omega
abbrev SG : Str := Str.ofString "abcXYZ 019.,:-"
theorem sg_size : SG.cps.size = 14 := by decide +kernel
theorem sg_len : SG.length = 14 := by decide +kernel
theorem sum_one : ∀ {ys : List Str}, (∀ y ∈ ys, y.length = 1) → (ys.map (·.length)).sum = ys.length
  | [], _ => rfl
  | y :: ys, h => by
    rw [List.map_cons, List.sum_cons, h y (.head _), sum_one fun z hz => h z (.tail _ hz), List.length_cons]; omega
theorem rise_from : ∀ {xs : List Int} {a : Int}, xs.Pairwise (· < ·) → (∀ x ∈ xs, a ≤ x ∧ x < 24) → a ≤ 24 → (xs.length : Int) ≤ 24 - a
  | [], a, _, _, h => by simp; omega
  | x :: xs, a, p, b, h => by
    obtain ⟨p1, p2⟩ := List.pairwise_cons.mp p
    have b1 := b x (.head _)
    have := rise_from (a := x + 1) p2 (fun y hy => ⟨by have := p1 y hy; omega, (b y (.tail _ hy)).2⟩) (by omega)
    rw [List.length_cons]; omega
theorem rise_len {xs : List Int} (p : xs.Pairwise (· < ·)) (b : ∀ x ∈ xs, 0 ≤ x ∧ x < 24) : xs.length ≤ 24 := by
  have := rise_from (a := 0) p b (by omega)
  omega
theorem depth_ints : ∀ xs : List Int, depths (xs.map D.int) = 0
  | [] => by simp [depths]
  | x :: xs => by
    rw [List.map_cons]
    unfold depths
    rw [depth_ints xs]; simp [D.depth]
section
variable {P : Program} {w : World} {K : PySem.W.Frag} {mg : Str → Option Value} {base : Heap}
structure XFs (K : PySem.W.Frag) (mg : Str → Option Value) (C_NoFit C_TooMany C_NoWidth C_NoRow C_NoName C_Nought C_JoinError C_Bare C_Loose C_Leans C_NoText C_NoAnswer f_Nought f_Bare f_Loose f_Leans f_NoText f_NoAnswer : Addr) : Prop where
  m_NoFit : mg "NoFit" = some (.ref C_NoFit)
  m_TooMany : mg "TooMany" = some (.ref C_TooMany)
  m_NoWidth : mg "NoWidth" = some (.ref C_NoWidth)
  m_NoRow : mg "NoRow" = some (.ref C_NoRow)
  m_NoName : mg "NoName" = some (.ref C_NoName)
  m_Nought : mg "Nought" = some (.ref C_Nought)
  m_JoinError : mg "JoinError" = some (.ref C_JoinError)
  m_Bare : mg "Bare" = some (.ref C_Bare)
  m_Loose : mg "Loose" = some (.ref C_Loose)
  m_Leans : mg "Leans" = some (.ref C_Leans)
  m_NoText : mg "NoText" = some (.ref C_NoText)
  m_NoAnswer : mg "NoAnswer" = some (.ref C_NoAnswer)
  n_ValueError : mg "ValueError" = none
  e_NoFit : PySem.W.excIn K C_NoFit bmV "ValueError.__new__" = true
  e_TooMany : PySem.W.excIn K C_TooMany bmV "ValueError.__new__" = true
  e_NoWidth : PySem.W.excIn K C_NoWidth bmV "ValueError.__new__" = true
  e_NoRow : PySem.W.excIn K C_NoRow bmV "ValueError.__new__" = true
  e_NoName : PySem.W.excIn K C_NoName bmV "ValueError.__new__" = true
  in_Nought : InitN K C_Nought f_Nought "at" "Nought.__init__" si_Nought ["self", "at"]
  bs_JoinError : BaseI K C_JoinError
  in_Bare : InitN K C_Bare f_Bare "given" "Bare.__init__" si_Bare ["self", "given"]
  in_Loose : InitN K C_Loose f_Loose "thing" "Loose.__init__" si_Loose ["self", "thing"]
  in_Leans : InitN K C_Leans f_Leans "place" "Leans.__init__" si_Leans ["self", "place"]
  in_NoText : InitN K C_NoText f_NoText "row" "NoText.__init__" si_NoText ["self", "row"]
  in_NoAnswer : InitN K C_NoAnswer f_NoAnswer "places" "NoAnswer.__init__" si_NoAnswer ["self", "places"]
  i_NoFit : ExIs K C_NoFit
  k_NoFit_NoFit : PySem.W.kitOne K (.ref C_NoFit) (.ref C_NoFit) = some true
  k_NoFit_TooMany : PySem.W.kitOne K (.ref C_NoFit) (.ref C_TooMany) = some false
  k_NoFit_NoWidth : PySem.W.kitOne K (.ref C_NoFit) (.ref C_NoWidth) = some false
  k_NoFit_NoRow : PySem.W.kitOne K (.ref C_NoFit) (.ref C_NoRow) = some false
  k_NoFit_NoName : PySem.W.kitOne K (.ref C_NoFit) (.ref C_NoName) = some false
  k_NoFit_Nought : PySem.W.kitOne K (.ref C_NoFit) (.ref C_Nought) = some false
  k_NoFit_Bare : PySem.W.kitOne K (.ref C_NoFit) (.ref C_Bare) = some false
  k_NoFit_Loose : PySem.W.kitOne K (.ref C_NoFit) (.ref C_Loose) = some false
  k_NoFit_Leans : PySem.W.kitOne K (.ref C_NoFit) (.ref C_Leans) = some false
  k_NoFit_NoText : PySem.W.kitOne K (.ref C_NoFit) (.ref C_NoText) = some false
  k_NoFit_NoAnswer : PySem.W.kitOne K (.ref C_NoFit) (.ref C_NoAnswer) = some false
  i_TooMany : ExIs K C_TooMany
  k_TooMany_NoFit : PySem.W.kitOne K (.ref C_TooMany) (.ref C_NoFit) = some false
  k_TooMany_TooMany : PySem.W.kitOne K (.ref C_TooMany) (.ref C_TooMany) = some true
  k_TooMany_NoWidth : PySem.W.kitOne K (.ref C_TooMany) (.ref C_NoWidth) = some false
  k_TooMany_NoRow : PySem.W.kitOne K (.ref C_TooMany) (.ref C_NoRow) = some false
  k_TooMany_NoName : PySem.W.kitOne K (.ref C_TooMany) (.ref C_NoName) = some false
  k_TooMany_Nought : PySem.W.kitOne K (.ref C_TooMany) (.ref C_Nought) = some false
  k_TooMany_Bare : PySem.W.kitOne K (.ref C_TooMany) (.ref C_Bare) = some false
  k_TooMany_Loose : PySem.W.kitOne K (.ref C_TooMany) (.ref C_Loose) = some false
  k_TooMany_Leans : PySem.W.kitOne K (.ref C_TooMany) (.ref C_Leans) = some false
  k_TooMany_NoText : PySem.W.kitOne K (.ref C_TooMany) (.ref C_NoText) = some false
  k_TooMany_NoAnswer : PySem.W.kitOne K (.ref C_TooMany) (.ref C_NoAnswer) = some false
  i_NoWidth : ExIs K C_NoWidth
  k_NoWidth_NoFit : PySem.W.kitOne K (.ref C_NoWidth) (.ref C_NoFit) = some false
  k_NoWidth_TooMany : PySem.W.kitOne K (.ref C_NoWidth) (.ref C_TooMany) = some false
  k_NoWidth_NoWidth : PySem.W.kitOne K (.ref C_NoWidth) (.ref C_NoWidth) = some true
  k_NoWidth_NoRow : PySem.W.kitOne K (.ref C_NoWidth) (.ref C_NoRow) = some false
  k_NoWidth_NoName : PySem.W.kitOne K (.ref C_NoWidth) (.ref C_NoName) = some false
  k_NoWidth_Nought : PySem.W.kitOne K (.ref C_NoWidth) (.ref C_Nought) = some false
  k_NoWidth_Bare : PySem.W.kitOne K (.ref C_NoWidth) (.ref C_Bare) = some false
  k_NoWidth_Loose : PySem.W.kitOne K (.ref C_NoWidth) (.ref C_Loose) = some false
  k_NoWidth_Leans : PySem.W.kitOne K (.ref C_NoWidth) (.ref C_Leans) = some false
  k_NoWidth_NoText : PySem.W.kitOne K (.ref C_NoWidth) (.ref C_NoText) = some false
  k_NoWidth_NoAnswer : PySem.W.kitOne K (.ref C_NoWidth) (.ref C_NoAnswer) = some false
  i_NoRow : ExIs K C_NoRow
  k_NoRow_NoFit : PySem.W.kitOne K (.ref C_NoRow) (.ref C_NoFit) = some false
  k_NoRow_TooMany : PySem.W.kitOne K (.ref C_NoRow) (.ref C_TooMany) = some false
  k_NoRow_NoWidth : PySem.W.kitOne K (.ref C_NoRow) (.ref C_NoWidth) = some false
  k_NoRow_NoRow : PySem.W.kitOne K (.ref C_NoRow) (.ref C_NoRow) = some true
  k_NoRow_NoName : PySem.W.kitOne K (.ref C_NoRow) (.ref C_NoName) = some false
  k_NoRow_Nought : PySem.W.kitOne K (.ref C_NoRow) (.ref C_Nought) = some false
  k_NoRow_Bare : PySem.W.kitOne K (.ref C_NoRow) (.ref C_Bare) = some false
  k_NoRow_Loose : PySem.W.kitOne K (.ref C_NoRow) (.ref C_Loose) = some false
  k_NoRow_Leans : PySem.W.kitOne K (.ref C_NoRow) (.ref C_Leans) = some false
  k_NoRow_NoText : PySem.W.kitOne K (.ref C_NoRow) (.ref C_NoText) = some false
  k_NoRow_NoAnswer : PySem.W.kitOne K (.ref C_NoRow) (.ref C_NoAnswer) = some false
  i_NoName : ExIs K C_NoName
  k_NoName_NoFit : PySem.W.kitOne K (.ref C_NoName) (.ref C_NoFit) = some false
  k_NoName_TooMany : PySem.W.kitOne K (.ref C_NoName) (.ref C_TooMany) = some false
  k_NoName_NoWidth : PySem.W.kitOne K (.ref C_NoName) (.ref C_NoWidth) = some false
  k_NoName_NoRow : PySem.W.kitOne K (.ref C_NoName) (.ref C_NoRow) = some false
  k_NoName_NoName : PySem.W.kitOne K (.ref C_NoName) (.ref C_NoName) = some true
  k_NoName_Nought : PySem.W.kitOne K (.ref C_NoName) (.ref C_Nought) = some false
  k_NoName_Bare : PySem.W.kitOne K (.ref C_NoName) (.ref C_Bare) = some false
  k_NoName_Loose : PySem.W.kitOne K (.ref C_NoName) (.ref C_Loose) = some false
  k_NoName_Leans : PySem.W.kitOne K (.ref C_NoName) (.ref C_Leans) = some false
  k_NoName_NoText : PySem.W.kitOne K (.ref C_NoName) (.ref C_NoText) = some false
  k_NoName_NoAnswer : PySem.W.kitOne K (.ref C_NoName) (.ref C_NoAnswer) = some false
  i_Nought : ExIs K C_Nought
  k_Nought_NoFit : PySem.W.kitOne K (.ref C_Nought) (.ref C_NoFit) = some false
  k_Nought_TooMany : PySem.W.kitOne K (.ref C_Nought) (.ref C_TooMany) = some false
  k_Nought_NoWidth : PySem.W.kitOne K (.ref C_Nought) (.ref C_NoWidth) = some false
  k_Nought_NoRow : PySem.W.kitOne K (.ref C_Nought) (.ref C_NoRow) = some false
  k_Nought_NoName : PySem.W.kitOne K (.ref C_Nought) (.ref C_NoName) = some false
  k_Nought_Nought : PySem.W.kitOne K (.ref C_Nought) (.ref C_Nought) = some true
  k_Nought_Bare : PySem.W.kitOne K (.ref C_Nought) (.ref C_Bare) = some false
  k_Nought_Loose : PySem.W.kitOne K (.ref C_Nought) (.ref C_Loose) = some false
  k_Nought_Leans : PySem.W.kitOne K (.ref C_Nought) (.ref C_Leans) = some false
  k_Nought_NoText : PySem.W.kitOne K (.ref C_Nought) (.ref C_NoText) = some false
  k_Nought_NoAnswer : PySem.W.kitOne K (.ref C_Nought) (.ref C_NoAnswer) = some false
  i_Bare : ExIs K C_Bare
  k_Bare_NoFit : PySem.W.kitOne K (.ref C_Bare) (.ref C_NoFit) = some false
  k_Bare_TooMany : PySem.W.kitOne K (.ref C_Bare) (.ref C_TooMany) = some false
  k_Bare_NoWidth : PySem.W.kitOne K (.ref C_Bare) (.ref C_NoWidth) = some false
  k_Bare_NoRow : PySem.W.kitOne K (.ref C_Bare) (.ref C_NoRow) = some false
  k_Bare_NoName : PySem.W.kitOne K (.ref C_Bare) (.ref C_NoName) = some false
  k_Bare_Nought : PySem.W.kitOne K (.ref C_Bare) (.ref C_Nought) = some false
  k_Bare_Bare : PySem.W.kitOne K (.ref C_Bare) (.ref C_Bare) = some true
  k_Bare_Loose : PySem.W.kitOne K (.ref C_Bare) (.ref C_Loose) = some false
  k_Bare_Leans : PySem.W.kitOne K (.ref C_Bare) (.ref C_Leans) = some false
  k_Bare_NoText : PySem.W.kitOne K (.ref C_Bare) (.ref C_NoText) = some false
  k_Bare_NoAnswer : PySem.W.kitOne K (.ref C_Bare) (.ref C_NoAnswer) = some false
  i_Loose : ExIs K C_Loose
  k_Loose_NoFit : PySem.W.kitOne K (.ref C_Loose) (.ref C_NoFit) = some false
  k_Loose_TooMany : PySem.W.kitOne K (.ref C_Loose) (.ref C_TooMany) = some false
  k_Loose_NoWidth : PySem.W.kitOne K (.ref C_Loose) (.ref C_NoWidth) = some false
  k_Loose_NoRow : PySem.W.kitOne K (.ref C_Loose) (.ref C_NoRow) = some false
  k_Loose_NoName : PySem.W.kitOne K (.ref C_Loose) (.ref C_NoName) = some false
  k_Loose_Nought : PySem.W.kitOne K (.ref C_Loose) (.ref C_Nought) = some false
  k_Loose_Bare : PySem.W.kitOne K (.ref C_Loose) (.ref C_Bare) = some false
  k_Loose_Loose : PySem.W.kitOne K (.ref C_Loose) (.ref C_Loose) = some true
  k_Loose_Leans : PySem.W.kitOne K (.ref C_Loose) (.ref C_Leans) = some false
  k_Loose_NoText : PySem.W.kitOne K (.ref C_Loose) (.ref C_NoText) = some false
  k_Loose_NoAnswer : PySem.W.kitOne K (.ref C_Loose) (.ref C_NoAnswer) = some false
  i_Leans : ExIs K C_Leans
  k_Leans_NoFit : PySem.W.kitOne K (.ref C_Leans) (.ref C_NoFit) = some false
  k_Leans_TooMany : PySem.W.kitOne K (.ref C_Leans) (.ref C_TooMany) = some false
  k_Leans_NoWidth : PySem.W.kitOne K (.ref C_Leans) (.ref C_NoWidth) = some false
  k_Leans_NoRow : PySem.W.kitOne K (.ref C_Leans) (.ref C_NoRow) = some false
  k_Leans_NoName : PySem.W.kitOne K (.ref C_Leans) (.ref C_NoName) = some false
  k_Leans_Nought : PySem.W.kitOne K (.ref C_Leans) (.ref C_Nought) = some false
  k_Leans_Bare : PySem.W.kitOne K (.ref C_Leans) (.ref C_Bare) = some false
  k_Leans_Loose : PySem.W.kitOne K (.ref C_Leans) (.ref C_Loose) = some false
  k_Leans_Leans : PySem.W.kitOne K (.ref C_Leans) (.ref C_Leans) = some true
  k_Leans_NoText : PySem.W.kitOne K (.ref C_Leans) (.ref C_NoText) = some false
  k_Leans_NoAnswer : PySem.W.kitOne K (.ref C_Leans) (.ref C_NoAnswer) = some false
  i_NoText : ExIs K C_NoText
  k_NoText_NoFit : PySem.W.kitOne K (.ref C_NoText) (.ref C_NoFit) = some false
  k_NoText_TooMany : PySem.W.kitOne K (.ref C_NoText) (.ref C_TooMany) = some false
  k_NoText_NoWidth : PySem.W.kitOne K (.ref C_NoText) (.ref C_NoWidth) = some false
  k_NoText_NoRow : PySem.W.kitOne K (.ref C_NoText) (.ref C_NoRow) = some false
  k_NoText_NoName : PySem.W.kitOne K (.ref C_NoText) (.ref C_NoName) = some false
  k_NoText_Nought : PySem.W.kitOne K (.ref C_NoText) (.ref C_Nought) = some false
  k_NoText_Bare : PySem.W.kitOne K (.ref C_NoText) (.ref C_Bare) = some false
  k_NoText_Loose : PySem.W.kitOne K (.ref C_NoText) (.ref C_Loose) = some false
  k_NoText_Leans : PySem.W.kitOne K (.ref C_NoText) (.ref C_Leans) = some false
  k_NoText_NoText : PySem.W.kitOne K (.ref C_NoText) (.ref C_NoText) = some true
  k_NoText_NoAnswer : PySem.W.kitOne K (.ref C_NoText) (.ref C_NoAnswer) = some false
  i_NoAnswer : ExIs K C_NoAnswer
  k_NoAnswer_NoFit : PySem.W.kitOne K (.ref C_NoAnswer) (.ref C_NoFit) = some false
  k_NoAnswer_TooMany : PySem.W.kitOne K (.ref C_NoAnswer) (.ref C_TooMany) = some false
  k_NoAnswer_NoWidth : PySem.W.kitOne K (.ref C_NoAnswer) (.ref C_NoWidth) = some false
  k_NoAnswer_NoRow : PySem.W.kitOne K (.ref C_NoAnswer) (.ref C_NoRow) = some false
  k_NoAnswer_NoName : PySem.W.kitOne K (.ref C_NoAnswer) (.ref C_NoName) = some false
  k_NoAnswer_Nought : PySem.W.kitOne K (.ref C_NoAnswer) (.ref C_Nought) = some false
  k_NoAnswer_Bare : PySem.W.kitOne K (.ref C_NoAnswer) (.ref C_Bare) = some false
  k_NoAnswer_Loose : PySem.W.kitOne K (.ref C_NoAnswer) (.ref C_Loose) = some false
  k_NoAnswer_Leans : PySem.W.kitOne K (.ref C_NoAnswer) (.ref C_Leans) = some false
  k_NoAnswer_NoText : PySem.W.kitOne K (.ref C_NoAnswer) (.ref C_NoText) = some false
  k_NoAnswer_NoAnswer : PySem.W.kitOne K (.ref C_NoAnswer) (.ref C_NoAnswer) = some true
  g_NoAnswer : ExG K C_NoAnswer "places"
  g_Nought : ExG K C_Nought "at"
  g_Bare : ExG K C_Bare "given"
  g_Loose : ExG K C_Loose "thing"
  g_Leans : ExG K C_Leans "place"
  g_NoText : ExG K C_NoText "row"
  k_NoFit_JoinError : PySem.W.kitOne K (.ref C_NoFit) (.ref C_JoinError) = some true
  k_NoFit_ValueError : PySem.W.kitOne K (.ref C_NoFit) (.type "ValueError") = some true
  k_TooMany_JoinError : PySem.W.kitOne K (.ref C_TooMany) (.ref C_JoinError) = some true
  k_TooMany_ValueError : PySem.W.kitOne K (.ref C_TooMany) (.type "ValueError") = some true
  k_NoWidth_JoinError : PySem.W.kitOne K (.ref C_NoWidth) (.ref C_JoinError) = some true
  k_NoWidth_ValueError : PySem.W.kitOne K (.ref C_NoWidth) (.type "ValueError") = some true
  k_NoRow_JoinError : PySem.W.kitOne K (.ref C_NoRow) (.ref C_JoinError) = some true
  k_NoRow_ValueError : PySem.W.kitOne K (.ref C_NoRow) (.type "ValueError") = some true
  k_NoName_JoinError : PySem.W.kitOne K (.ref C_NoName) (.ref C_JoinError) = some true
  k_NoName_ValueError : PySem.W.kitOne K (.ref C_NoName) (.type "ValueError") = some true
  k_Nought_JoinError : PySem.W.kitOne K (.ref C_Nought) (.ref C_JoinError) = some true
  k_Nought_ValueError : PySem.W.kitOne K (.ref C_Nought) (.type "ValueError") = some true
  k_Bare_JoinError : PySem.W.kitOne K (.ref C_Bare) (.ref C_JoinError) = some true
  k_Bare_ValueError : PySem.W.kitOne K (.ref C_Bare) (.type "ValueError") = some true
  k_Loose_JoinError : PySem.W.kitOne K (.ref C_Loose) (.ref C_JoinError) = some true
  k_Loose_ValueError : PySem.W.kitOne K (.ref C_Loose) (.type "ValueError") = some true
  k_Leans_JoinError : PySem.W.kitOne K (.ref C_Leans) (.ref C_JoinError) = some true
  k_Leans_ValueError : PySem.W.kitOne K (.ref C_Leans) (.type "ValueError") = some true
  k_NoText_JoinError : PySem.W.kitOne K (.ref C_NoText) (.ref C_JoinError) = some true
  k_NoText_ValueError : PySem.W.kitOne K (.ref C_NoText) (.type "ValueError") = some true
  k_NoAnswer_JoinError : PySem.W.kitOne K (.ref C_NoAnswer) (.ref C_JoinError) = some true
  k_NoAnswer_ValueError : PySem.W.kitOne K (.ref C_NoAnswer) (.type "ValueError") = some true
def XF (K : PySem.W.Frag) (mg : Str → Option Value) : Prop := ∃ C_NoFit C_TooMany C_NoWidth C_NoRow C_NoName C_Nought C_JoinError C_Bare C_Loose C_Leans C_NoText C_NoAnswer f_Nought f_Bare f_Loose f_Leans f_NoText f_NoAnswer : Addr, XFs K mg C_NoFit C_TooMany C_NoWidth C_NoRow C_NoName C_Nought C_JoinError C_Bare C_Loose C_Leans C_NoText C_NoAnswer f_Nought f_Bare f_Loose f_Leans f_NoText f_NoAnswer
theorem XF.mk {K : PySem.W.Frag} {mg : Str → Option Value} {h : Heap} {C_NoFit C_TooMany C_NoWidth C_NoRow C_NoName C_Nought C_JoinError C_Bare C_Loose C_Leans C_NoText C_NoAnswer f_Nought f_Bare f_Loose f_Leans f_NoText f_NoAnswer : Addr} {oc_Nought kV_Nought doc_Nought pm_Nought cdv_Nought ct_Nought : Value} {od_Nought an_Nought : Option Addr} {osl_Nought : Array (Option Value)} {oc_Bare kV_Bare doc_Bare pm_Bare cdv_Bare ct_Bare : Value} {od_Bare an_Bare : Option Addr} {osl_Bare : Array (Option Value)} {oc_Loose kV_Loose doc_Loose pm_Loose cdv_Loose ct_Loose : Value} {od_Loose an_Loose : Option Addr} {osl_Loose : Array (Option Value)} {oc_Leans kV_Leans doc_Leans pm_Leans cdv_Leans ct_Leans : Value} {od_Leans an_Leans : Option Addr} {osl_Leans : Array (Option Value)} {oc_NoText kV_NoText doc_NoText pm_NoText cdv_NoText ct_NoText : Value} {od_NoText an_NoText : Option Addr} {osl_NoText : Array (Option Value)} {oc_NoAnswer kV_NoAnswer doc_NoAnswer pm_NoAnswer cdv_NoAnswer ct_NoAnswer : Value} {od_NoAnswer an_NoAnswer : Option Addr} {osl_NoAnswer : Array (Option Value)} (KX : K.In h) (G : h.Ns mainGlobals mg) (f0 : PySem.W.nsIn K mainGlobals "NoFit" = some (some (.ref C_NoFit))) (f1 : PySem.W.nsIn K mainGlobals "TooMany" = some (some (.ref C_TooMany))) (f2 : PySem.W.nsIn K mainGlobals "NoWidth" = some (some (.ref C_NoWidth))) (f3 : PySem.W.nsIn K mainGlobals "NoRow" = some (some (.ref C_NoRow))) (f4 : PySem.W.nsIn K mainGlobals "NoName" = some (some (.ref C_NoName))) (f5 : PySem.W.nsIn K mainGlobals "Nought" = some (some (.ref C_Nought))) (f6 : PySem.W.nsIn K mainGlobals "JoinError" = some (some (.ref C_JoinError))) (f7 : PySem.W.nsIn K mainGlobals "Bare" = some (some (.ref C_Bare))) (f8 : PySem.W.nsIn K mainGlobals "Loose" = some (some (.ref C_Loose))) (f9 : PySem.W.nsIn K mainGlobals "Leans" = some (some (.ref C_Leans))) (f10 : PySem.W.nsIn K mainGlobals "NoText" = some (some (.ref C_NoText))) (f11 : PySem.W.nsIn K mainGlobals "NoAnswer" = some (some (.ref C_NoAnswer))) (f12 : PySem.W.nsIn K mainGlobals "ValueError" = some none) (f13 : PySem.W.excIn K C_NoFit bmV "ValueError.__new__" = true) (f14 : PySem.W.excIn K C_TooMany bmV "ValueError.__new__" = true) (f15 : PySem.W.excIn K C_NoWidth bmV "ValueError.__new__" = true) (f16 : PySem.W.excIn K C_NoRow bmV "ValueError.__new__" = true) (f17 : PySem.W.excIn K C_NoName bmV "ValueError.__new__" = true) (f18_0 : PySem.W.findIn K (.ref C_Nought) "__init__" = some (some (.ref f_Nought))) (f18_1 : K.lookup f_Nought = some ⟨oc_Nought, od_Nought, .func (PySem.W.fnOf "__init__" "Nought.__init__" (defArgs si_Nought) (defBody si_Nought) (defScope si_Nought) .none kV_Nought doc_Nought pm_Nought an_Nought cdv_Nought ct_Nought), osl_Nought⟩) (f18_2 : PySem.W.codeIn K cdv_Nought "Nought.__init__" = true) (f18_3 : PySem.W.keepIn K (.ref f_Nought) = true) (f18_4 : excInI K C_Nought f_Nought = true) (f18_5 : PySem.W.typeIn K (.ref f_Nought) = some (.type "function")) (f18_6 : PySem.W.findIn K (.ref C_Nought) "__setattr__" = some (some (.builtin "object.__setattr__"))) (f18_7 : PySem.W.findIn K (.ref C_Nought) "at" = some none) (f19_0 : PySem.W.specialIn K (.ref C_JoinError) "__getattribute__" = some (some (.builtin "type.__getattribute__"))) (f19_1 : PySem.W.readsIn K C_JoinError (.type "type") = true) (f19_2 : PySem.W.findCls K (.ref C_JoinError) (.type "type") "__init__" = some (.val (.builtin "ValueError.__init__"))) (f20_0 : PySem.W.findIn K (.ref C_Bare) "__init__" = some (some (.ref f_Bare))) (f20_1 : K.lookup f_Bare = some ⟨oc_Bare, od_Bare, .func (PySem.W.fnOf "__init__" "Bare.__init__" (defArgs si_Bare) (defBody si_Bare) (defScope si_Bare) .none kV_Bare doc_Bare pm_Bare an_Bare cdv_Bare ct_Bare), osl_Bare⟩) (f20_2 : PySem.W.codeIn K cdv_Bare "Bare.__init__" = true) (f20_3 : PySem.W.keepIn K (.ref f_Bare) = true) (f20_4 : excInI K C_Bare f_Bare = true) (f20_5 : PySem.W.typeIn K (.ref f_Bare) = some (.type "function")) (f20_6 : PySem.W.findIn K (.ref C_Bare) "__setattr__" = some (some (.builtin "object.__setattr__"))) (f20_7 : PySem.W.findIn K (.ref C_Bare) "given" = some none) (f21_0 : PySem.W.findIn K (.ref C_Loose) "__init__" = some (some (.ref f_Loose))) (f21_1 : K.lookup f_Loose = some ⟨oc_Loose, od_Loose, .func (PySem.W.fnOf "__init__" "Loose.__init__" (defArgs si_Loose) (defBody si_Loose) (defScope si_Loose) .none kV_Loose doc_Loose pm_Loose an_Loose cdv_Loose ct_Loose), osl_Loose⟩) (f21_2 : PySem.W.codeIn K cdv_Loose "Loose.__init__" = true) (f21_3 : PySem.W.keepIn K (.ref f_Loose) = true) (f21_4 : excInI K C_Loose f_Loose = true) (f21_5 : PySem.W.typeIn K (.ref f_Loose) = some (.type "function")) (f21_6 : PySem.W.findIn K (.ref C_Loose) "__setattr__" = some (some (.builtin "object.__setattr__"))) (f21_7 : PySem.W.findIn K (.ref C_Loose) "thing" = some none) (f22_0 : PySem.W.findIn K (.ref C_Leans) "__init__" = some (some (.ref f_Leans))) (f22_1 : K.lookup f_Leans = some ⟨oc_Leans, od_Leans, .func (PySem.W.fnOf "__init__" "Leans.__init__" (defArgs si_Leans) (defBody si_Leans) (defScope si_Leans) .none kV_Leans doc_Leans pm_Leans an_Leans cdv_Leans ct_Leans), osl_Leans⟩) (f22_2 : PySem.W.codeIn K cdv_Leans "Leans.__init__" = true) (f22_3 : PySem.W.keepIn K (.ref f_Leans) = true) (f22_4 : excInI K C_Leans f_Leans = true) (f22_5 : PySem.W.typeIn K (.ref f_Leans) = some (.type "function")) (f22_6 : PySem.W.findIn K (.ref C_Leans) "__setattr__" = some (some (.builtin "object.__setattr__"))) (f22_7 : PySem.W.findIn K (.ref C_Leans) "place" = some none) (f23_0 : PySem.W.findIn K (.ref C_NoText) "__init__" = some (some (.ref f_NoText))) (f23_1 : K.lookup f_NoText = some ⟨oc_NoText, od_NoText, .func (PySem.W.fnOf "__init__" "NoText.__init__" (defArgs si_NoText) (defBody si_NoText) (defScope si_NoText) .none kV_NoText doc_NoText pm_NoText an_NoText cdv_NoText ct_NoText), osl_NoText⟩) (f23_2 : PySem.W.codeIn K cdv_NoText "NoText.__init__" = true) (f23_3 : PySem.W.keepIn K (.ref f_NoText) = true) (f23_4 : excInI K C_NoText f_NoText = true) (f23_5 : PySem.W.typeIn K (.ref f_NoText) = some (.type "function")) (f23_6 : PySem.W.findIn K (.ref C_NoText) "__setattr__" = some (some (.builtin "object.__setattr__"))) (f23_7 : PySem.W.findIn K (.ref C_NoText) "row" = some none) (f24_0 : PySem.W.findIn K (.ref C_NoAnswer) "__init__" = some (some (.ref f_NoAnswer))) (f24_1 : K.lookup f_NoAnswer = some ⟨oc_NoAnswer, od_NoAnswer, .func (PySem.W.fnOf "__init__" "NoAnswer.__init__" (defArgs si_NoAnswer) (defBody si_NoAnswer) (defScope si_NoAnswer) .none kV_NoAnswer doc_NoAnswer pm_NoAnswer an_NoAnswer cdv_NoAnswer ct_NoAnswer), osl_NoAnswer⟩) (f24_2 : PySem.W.codeIn K cdv_NoAnswer "NoAnswer.__init__" = true) (f24_3 : PySem.W.keepIn K (.ref f_NoAnswer) = true) (f24_4 : excInI K C_NoAnswer f_NoAnswer = true) (f24_5 : PySem.W.typeIn K (.ref f_NoAnswer) = some (.type "function")) (f24_6 : PySem.W.findIn K (.ref C_NoAnswer) "__setattr__" = some (some (.builtin "object.__setattr__"))) (f24_7 : PySem.W.findIn K (.ref C_NoAnswer) "places" = some none) (f25_0 : PySem.W.findIn K (.ref C_NoFit) "__getattribute__" = some (some (.builtin "BaseException.__getattribute__"))) (f25_1 : PySem.W.findIn K (.ref C_NoFit) "__getattr__" = some none) (f25_2 : PySem.W.hasDictIn K C_NoFit = true) (f25_3 : PySem.W.findIn K (.ref C_NoFit) "__class__" = some (some (.builtin "object.__class__"))) (f25_4 : PySem.W.specialIn K (.builtin "object.__class__") "__get__" = some (some (.builtin "getset_descriptor.__get__"))) (f25_5 : PySem.W.takesIn K (.builtin "object.__class__") = some true) (f25_6 : PySem.W.mroIn K C_NoFit (.type "object") = some true) (f25_7 : PySem.W.subIn K (.ref C_NoFit) (.type "BaseException") = some true) (f26 : PySem.W.kitOne K (.ref C_NoFit) (.ref C_NoFit) = some true) (f27 : PySem.W.kitOne K (.ref C_NoFit) (.ref C_TooMany) = some false) (f28 : PySem.W.kitOne K (.ref C_NoFit) (.ref C_NoWidth) = some false) (f29 : PySem.W.kitOne K (.ref C_NoFit) (.ref C_NoRow) = some false) (f30 : PySem.W.kitOne K (.ref C_NoFit) (.ref C_NoName) = some false) (f31 : PySem.W.kitOne K (.ref C_NoFit) (.ref C_Nought) = some false) (f32 : PySem.W.kitOne K (.ref C_NoFit) (.ref C_Bare) = some false) (f33 : PySem.W.kitOne K (.ref C_NoFit) (.ref C_Loose) = some false) (f34 : PySem.W.kitOne K (.ref C_NoFit) (.ref C_Leans) = some false) (f35 : PySem.W.kitOne K (.ref C_NoFit) (.ref C_NoText) = some false) (f36 : PySem.W.kitOne K (.ref C_NoFit) (.ref C_NoAnswer) = some false) (f37_0 : PySem.W.findIn K (.ref C_TooMany) "__getattribute__" = some (some (.builtin "BaseException.__getattribute__"))) (f37_1 : PySem.W.findIn K (.ref C_TooMany) "__getattr__" = some none) (f37_2 : PySem.W.hasDictIn K C_TooMany = true) (f37_3 : PySem.W.findIn K (.ref C_TooMany) "__class__" = some (some (.builtin "object.__class__"))) (f37_4 : PySem.W.specialIn K (.builtin "object.__class__") "__get__" = some (some (.builtin "getset_descriptor.__get__"))) (f37_5 : PySem.W.takesIn K (.builtin "object.__class__") = some true) (f37_6 : PySem.W.mroIn K C_TooMany (.type "object") = some true) (f37_7 : PySem.W.subIn K (.ref C_TooMany) (.type "BaseException") = some true) (f38 : PySem.W.kitOne K (.ref C_TooMany) (.ref C_NoFit) = some false) (f39 : PySem.W.kitOne K (.ref C_TooMany) (.ref C_TooMany) = some true) (f40 : PySem.W.kitOne K (.ref C_TooMany) (.ref C_NoWidth) = some false) (f41 : PySem.W.kitOne K (.ref C_TooMany) (.ref C_NoRow) = some false) (f42 : PySem.W.kitOne K (.ref C_TooMany) (.ref C_NoName) = some false) (f43 : PySem.W.kitOne K (.ref C_TooMany) (.ref C_Nought) = some false) (f44 : PySem.W.kitOne K (.ref C_TooMany) (.ref C_Bare) = some false) (f45 : PySem.W.kitOne K (.ref C_TooMany) (.ref C_Loose) = some false) (f46 : PySem.W.kitOne K (.ref C_TooMany) (.ref C_Leans) = some false) (f47 : PySem.W.kitOne K (.ref C_TooMany) (.ref C_NoText) = some false) (f48 : PySem.W.kitOne K (.ref C_TooMany) (.ref C_NoAnswer) = some false) (f49_0 : PySem.W.findIn K (.ref C_NoWidth) "__getattribute__" = some (some (.builtin "BaseException.__getattribute__"))) (f49_1 : PySem.W.findIn K (.ref C_NoWidth) "__getattr__" = some none) (f49_2 : PySem.W.hasDictIn K C_NoWidth = true) (f49_3 : PySem.W.findIn K (.ref C_NoWidth) "__class__" = some (some (.builtin "object.__class__"))) (f49_4 : PySem.W.specialIn K (.builtin "object.__class__") "__get__" = some (some (.builtin "getset_descriptor.__get__"))) (f49_5 : PySem.W.takesIn K (.builtin "object.__class__") = some true) (f49_6 : PySem.W.mroIn K C_NoWidth (.type "object") = some true) (f49_7 : PySem.W.subIn K (.ref C_NoWidth) (.type "BaseException") = some true) (f50 : PySem.W.kitOne K (.ref C_NoWidth) (.ref C_NoFit) = some false) (f51 : PySem.W.kitOne K (.ref C_NoWidth) (.ref C_TooMany) = some false) (f52 : PySem.W.kitOne K (.ref C_NoWidth) (.ref C_NoWidth) = some true) (f53 : PySem.W.kitOne K (.ref C_NoWidth) (.ref C_NoRow) = some false) (f54 : PySem.W.kitOne K (.ref C_NoWidth) (.ref C_NoName) = some false) (f55 : PySem.W.kitOne K (.ref C_NoWidth) (.ref C_Nought) = some false) (f56 : PySem.W.kitOne K (.ref C_NoWidth) (.ref C_Bare) = some false) (f57 : PySem.W.kitOne K (.ref C_NoWidth) (.ref C_Loose) = some false) (f58 : PySem.W.kitOne K (.ref C_NoWidth) (.ref C_Leans) = some false) (f59 : PySem.W.kitOne K (.ref C_NoWidth) (.ref C_NoText) = some false) (f60 : PySem.W.kitOne K (.ref C_NoWidth) (.ref C_NoAnswer) = some false) (f61_0 : PySem.W.findIn K (.ref C_NoRow) "__getattribute__" = some (some (.builtin "BaseException.__getattribute__"))) (f61_1 : PySem.W.findIn K (.ref C_NoRow) "__getattr__" = some none) (f61_2 : PySem.W.hasDictIn K C_NoRow = true) (f61_3 : PySem.W.findIn K (.ref C_NoRow) "__class__" = some (some (.builtin "object.__class__"))) (f61_4 : PySem.W.specialIn K (.builtin "object.__class__") "__get__" = some (some (.builtin "getset_descriptor.__get__"))) (f61_5 : PySem.W.takesIn K (.builtin "object.__class__") = some true) (f61_6 : PySem.W.mroIn K C_NoRow (.type "object") = some true) (f61_7 : PySem.W.subIn K (.ref C_NoRow) (.type "BaseException") = some true) (f62 : PySem.W.kitOne K (.ref C_NoRow) (.ref C_NoFit) = some false) (f63 : PySem.W.kitOne K (.ref C_NoRow) (.ref C_TooMany) = some false) (f64 : PySem.W.kitOne K (.ref C_NoRow) (.ref C_NoWidth) = some false) (f65 : PySem.W.kitOne K (.ref C_NoRow) (.ref C_NoRow) = some true) (f66 : PySem.W.kitOne K (.ref C_NoRow) (.ref C_NoName) = some false) (f67 : PySem.W.kitOne K (.ref C_NoRow) (.ref C_Nought) = some false) (f68 : PySem.W.kitOne K (.ref C_NoRow) (.ref C_Bare) = some false) (f69 : PySem.W.kitOne K (.ref C_NoRow) (.ref C_Loose) = some false) (f70 : PySem.W.kitOne K (.ref C_NoRow) (.ref C_Leans) = some false) (f71 : PySem.W.kitOne K (.ref C_NoRow) (.ref C_NoText) = some false) (f72 : PySem.W.kitOne K (.ref C_NoRow) (.ref C_NoAnswer) = some false) (f73_0 : PySem.W.findIn K (.ref C_NoName) "__getattribute__" = some (some (.builtin "BaseException.__getattribute__"))) (f73_1 : PySem.W.findIn K (.ref C_NoName) "__getattr__" = some none) (f73_2 : PySem.W.hasDictIn K C_NoName = true) (f73_3 : PySem.W.findIn K (.ref C_NoName) "__class__" = some (some (.builtin "object.__class__"))) (f73_4 : PySem.W.specialIn K (.builtin "object.__class__") "__get__" = some (some (.builtin "getset_descriptor.__get__"))) (f73_5 : PySem.W.takesIn K (.builtin "object.__class__") = some true) (f73_6 : PySem.W.mroIn K C_NoName (.type "object") = some true) (f73_7 : PySem.W.subIn K (.ref C_NoName) (.type "BaseException") = some true) (f74 : PySem.W.kitOne K (.ref C_NoName) (.ref C_NoFit) = some false) (f75 : PySem.W.kitOne K (.ref C_NoName) (.ref C_TooMany) = some false) (f76 : PySem.W.kitOne K (.ref C_NoName) (.ref C_NoWidth) = some false) (f77 : PySem.W.kitOne K (.ref C_NoName) (.ref C_NoRow) = some false) (f78 : PySem.W.kitOne K (.ref C_NoName) (.ref C_NoName) = some true) (f79 : PySem.W.kitOne K (.ref C_NoName) (.ref C_Nought) = some false) (f80 : PySem.W.kitOne K (.ref C_NoName) (.ref C_Bare) = some false) (f81 : PySem.W.kitOne K (.ref C_NoName) (.ref C_Loose) = some false) (f82 : PySem.W.kitOne K (.ref C_NoName) (.ref C_Leans) = some false) (f83 : PySem.W.kitOne K (.ref C_NoName) (.ref C_NoText) = some false) (f84 : PySem.W.kitOne K (.ref C_NoName) (.ref C_NoAnswer) = some false) (f85_0 : PySem.W.findIn K (.ref C_Nought) "__getattribute__" = some (some (.builtin "BaseException.__getattribute__"))) (f85_1 : PySem.W.findIn K (.ref C_Nought) "__getattr__" = some none) (f85_2 : PySem.W.hasDictIn K C_Nought = true) (f85_3 : PySem.W.findIn K (.ref C_Nought) "__class__" = some (some (.builtin "object.__class__"))) (f85_4 : PySem.W.specialIn K (.builtin "object.__class__") "__get__" = some (some (.builtin "getset_descriptor.__get__"))) (f85_5 : PySem.W.takesIn K (.builtin "object.__class__") = some true) (f85_6 : PySem.W.mroIn K C_Nought (.type "object") = some true) (f85_7 : PySem.W.subIn K (.ref C_Nought) (.type "BaseException") = some true) (f86 : PySem.W.kitOne K (.ref C_Nought) (.ref C_NoFit) = some false) (f87 : PySem.W.kitOne K (.ref C_Nought) (.ref C_TooMany) = some false) (f88 : PySem.W.kitOne K (.ref C_Nought) (.ref C_NoWidth) = some false) (f89 : PySem.W.kitOne K (.ref C_Nought) (.ref C_NoRow) = some false) (f90 : PySem.W.kitOne K (.ref C_Nought) (.ref C_NoName) = some false) (f91 : PySem.W.kitOne K (.ref C_Nought) (.ref C_Nought) = some true) (f92 : PySem.W.kitOne K (.ref C_Nought) (.ref C_Bare) = some false) (f93 : PySem.W.kitOne K (.ref C_Nought) (.ref C_Loose) = some false) (f94 : PySem.W.kitOne K (.ref C_Nought) (.ref C_Leans) = some false) (f95 : PySem.W.kitOne K (.ref C_Nought) (.ref C_NoText) = some false) (f96 : PySem.W.kitOne K (.ref C_Nought) (.ref C_NoAnswer) = some false) (f97_0 : PySem.W.findIn K (.ref C_Bare) "__getattribute__" = some (some (.builtin "BaseException.__getattribute__"))) (f97_1 : PySem.W.findIn K (.ref C_Bare) "__getattr__" = some none) (f97_2 : PySem.W.hasDictIn K C_Bare = true) (f97_3 : PySem.W.findIn K (.ref C_Bare) "__class__" = some (some (.builtin "object.__class__"))) (f97_4 : PySem.W.specialIn K (.builtin "object.__class__") "__get__" = some (some (.builtin "getset_descriptor.__get__"))) (f97_5 : PySem.W.takesIn K (.builtin "object.__class__") = some true) (f97_6 : PySem.W.mroIn K C_Bare (.type "object") = some true) (f97_7 : PySem.W.subIn K (.ref C_Bare) (.type "BaseException") = some true) (f98 : PySem.W.kitOne K (.ref C_Bare) (.ref C_NoFit) = some false) (f99 : PySem.W.kitOne K (.ref C_Bare) (.ref C_TooMany) = some false) (f100 : PySem.W.kitOne K (.ref C_Bare) (.ref C_NoWidth) = some false) (f101 : PySem.W.kitOne K (.ref C_Bare) (.ref C_NoRow) = some false) (f102 : PySem.W.kitOne K (.ref C_Bare) (.ref C_NoName) = some false) (f103 : PySem.W.kitOne K (.ref C_Bare) (.ref C_Nought) = some false) (f104 : PySem.W.kitOne K (.ref C_Bare) (.ref C_Bare) = some true) (f105 : PySem.W.kitOne K (.ref C_Bare) (.ref C_Loose) = some false) (f106 : PySem.W.kitOne K (.ref C_Bare) (.ref C_Leans) = some false) (f107 : PySem.W.kitOne K (.ref C_Bare) (.ref C_NoText) = some false) (f108 : PySem.W.kitOne K (.ref C_Bare) (.ref C_NoAnswer) = some false) (f109_0 : PySem.W.findIn K (.ref C_Loose) "__getattribute__" = some (some (.builtin "BaseException.__getattribute__"))) (f109_1 : PySem.W.findIn K (.ref C_Loose) "__getattr__" = some none) (f109_2 : PySem.W.hasDictIn K C_Loose = true) (f109_3 : PySem.W.findIn K (.ref C_Loose) "__class__" = some (some (.builtin "object.__class__"))) (f109_4 : PySem.W.specialIn K (.builtin "object.__class__") "__get__" = some (some (.builtin "getset_descriptor.__get__"))) (f109_5 : PySem.W.takesIn K (.builtin "object.__class__") = some true) (f109_6 : PySem.W.mroIn K C_Loose (.type "object") = some true) (f109_7 : PySem.W.subIn K (.ref C_Loose) (.type "BaseException") = some true) (f110 : PySem.W.kitOne K (.ref C_Loose) (.ref C_NoFit) = some false) (f111 : PySem.W.kitOne K (.ref C_Loose) (.ref C_TooMany) = some false) (f112 : PySem.W.kitOne K (.ref C_Loose) (.ref C_NoWidth) = some false) (f113 : PySem.W.kitOne K (.ref C_Loose) (.ref C_NoRow) = some false) (f114 : PySem.W.kitOne K (.ref C_Loose) (.ref C_NoName) = some false) (f115 : PySem.W.kitOne K (.ref C_Loose) (.ref C_Nought) = some false) (f116 : PySem.W.kitOne K (.ref C_Loose) (.ref C_Bare) = some false) (f117 : PySem.W.kitOne K (.ref C_Loose) (.ref C_Loose) = some true) (f118 : PySem.W.kitOne K (.ref C_Loose) (.ref C_Leans) = some false) (f119 : PySem.W.kitOne K (.ref C_Loose) (.ref C_NoText) = some false) (f120 : PySem.W.kitOne K (.ref C_Loose) (.ref C_NoAnswer) = some false) (f121_0 : PySem.W.findIn K (.ref C_Leans) "__getattribute__" = some (some (.builtin "BaseException.__getattribute__"))) (f121_1 : PySem.W.findIn K (.ref C_Leans) "__getattr__" = some none) (f121_2 : PySem.W.hasDictIn K C_Leans = true) (f121_3 : PySem.W.findIn K (.ref C_Leans) "__class__" = some (some (.builtin "object.__class__"))) (f121_4 : PySem.W.specialIn K (.builtin "object.__class__") "__get__" = some (some (.builtin "getset_descriptor.__get__"))) (f121_5 : PySem.W.takesIn K (.builtin "object.__class__") = some true) (f121_6 : PySem.W.mroIn K C_Leans (.type "object") = some true) (f121_7 : PySem.W.subIn K (.ref C_Leans) (.type "BaseException") = some true) (f122 : PySem.W.kitOne K (.ref C_Leans) (.ref C_NoFit) = some false) (f123 : PySem.W.kitOne K (.ref C_Leans) (.ref C_TooMany) = some false) (f124 : PySem.W.kitOne K (.ref C_Leans) (.ref C_NoWidth) = some false) (f125 : PySem.W.kitOne K (.ref C_Leans) (.ref C_NoRow) = some false) (f126 : PySem.W.kitOne K (.ref C_Leans) (.ref C_NoName) = some false) (f127 : PySem.W.kitOne K (.ref C_Leans) (.ref C_Nought) = some false) (f128 : PySem.W.kitOne K (.ref C_Leans) (.ref C_Bare) = some false) (f129 : PySem.W.kitOne K (.ref C_Leans) (.ref C_Loose) = some false) (f130 : PySem.W.kitOne K (.ref C_Leans) (.ref C_Leans) = some true) (f131 : PySem.W.kitOne K (.ref C_Leans) (.ref C_NoText) = some false) (f132 : PySem.W.kitOne K (.ref C_Leans) (.ref C_NoAnswer) = some false) (f133_0 : PySem.W.findIn K (.ref C_NoText) "__getattribute__" = some (some (.builtin "BaseException.__getattribute__"))) (f133_1 : PySem.W.findIn K (.ref C_NoText) "__getattr__" = some none) (f133_2 : PySem.W.hasDictIn K C_NoText = true) (f133_3 : PySem.W.findIn K (.ref C_NoText) "__class__" = some (some (.builtin "object.__class__"))) (f133_4 : PySem.W.specialIn K (.builtin "object.__class__") "__get__" = some (some (.builtin "getset_descriptor.__get__"))) (f133_5 : PySem.W.takesIn K (.builtin "object.__class__") = some true) (f133_6 : PySem.W.mroIn K C_NoText (.type "object") = some true) (f133_7 : PySem.W.subIn K (.ref C_NoText) (.type "BaseException") = some true) (f134 : PySem.W.kitOne K (.ref C_NoText) (.ref C_NoFit) = some false) (f135 : PySem.W.kitOne K (.ref C_NoText) (.ref C_TooMany) = some false) (f136 : PySem.W.kitOne K (.ref C_NoText) (.ref C_NoWidth) = some false) (f137 : PySem.W.kitOne K (.ref C_NoText) (.ref C_NoRow) = some false) (f138 : PySem.W.kitOne K (.ref C_NoText) (.ref C_NoName) = some false) (f139 : PySem.W.kitOne K (.ref C_NoText) (.ref C_Nought) = some false) (f140 : PySem.W.kitOne K (.ref C_NoText) (.ref C_Bare) = some false) (f141 : PySem.W.kitOne K (.ref C_NoText) (.ref C_Loose) = some false) (f142 : PySem.W.kitOne K (.ref C_NoText) (.ref C_Leans) = some false) (f143 : PySem.W.kitOne K (.ref C_NoText) (.ref C_NoText) = some true) (f144 : PySem.W.kitOne K (.ref C_NoText) (.ref C_NoAnswer) = some false) (f145_0 : PySem.W.findIn K (.ref C_NoAnswer) "__getattribute__" = some (some (.builtin "BaseException.__getattribute__"))) (f145_1 : PySem.W.findIn K (.ref C_NoAnswer) "__getattr__" = some none) (f145_2 : PySem.W.hasDictIn K C_NoAnswer = true) (f145_3 : PySem.W.findIn K (.ref C_NoAnswer) "__class__" = some (some (.builtin "object.__class__"))) (f145_4 : PySem.W.specialIn K (.builtin "object.__class__") "__get__" = some (some (.builtin "getset_descriptor.__get__"))) (f145_5 : PySem.W.takesIn K (.builtin "object.__class__") = some true) (f145_6 : PySem.W.mroIn K C_NoAnswer (.type "object") = some true) (f145_7 : PySem.W.subIn K (.ref C_NoAnswer) (.type "BaseException") = some true) (f146 : PySem.W.kitOne K (.ref C_NoAnswer) (.ref C_NoFit) = some false) (f147 : PySem.W.kitOne K (.ref C_NoAnswer) (.ref C_TooMany) = some false) (f148 : PySem.W.kitOne K (.ref C_NoAnswer) (.ref C_NoWidth) = some false) (f149 : PySem.W.kitOne K (.ref C_NoAnswer) (.ref C_NoRow) = some false) (f150 : PySem.W.kitOne K (.ref C_NoAnswer) (.ref C_NoName) = some false) (f151 : PySem.W.kitOne K (.ref C_NoAnswer) (.ref C_Nought) = some false) (f152 : PySem.W.kitOne K (.ref C_NoAnswer) (.ref C_Bare) = some false) (f153 : PySem.W.kitOne K (.ref C_NoAnswer) (.ref C_Loose) = some false) (f154 : PySem.W.kitOne K (.ref C_NoAnswer) (.ref C_Leans) = some false) (f155 : PySem.W.kitOne K (.ref C_NoAnswer) (.ref C_NoText) = some false) (f156 : PySem.W.kitOne K (.ref C_NoAnswer) (.ref C_NoAnswer) = some true) (f157_0 : PySem.W.findIn K (.ref C_NoAnswer) "__getattribute__" = some (some (.builtin "BaseException.__getattribute__"))) (f157_1 : PySem.W.findIn K (.ref C_NoAnswer) "__getattr__" = some none) (f157_2 : PySem.W.hasDictIn K C_NoAnswer = true) (f157_3 : PySem.W.findIn K (.ref C_NoAnswer) "__class__" = some (some (.builtin "object.__class__"))) (f157_4 : PySem.W.specialIn K (.builtin "object.__class__") "__get__" = some (some (.builtin "getset_descriptor.__get__"))) (f157_5 : PySem.W.takesIn K (.builtin "object.__class__") = some true) (f157_6 : PySem.W.mroIn K C_NoAnswer (.type "object") = some true) (f157_7 : PySem.W.subIn K (.ref C_NoAnswer) (.type "BaseException") = some true) (f157_8 : PySem.W.findIn K (.ref C_NoAnswer) "places" = some none) (f157_9 : PySem.W.hasDictIn K C_NoAnswer = true) (f158_0 : PySem.W.findIn K (.ref C_Nought) "__getattribute__" = some (some (.builtin "BaseException.__getattribute__"))) (f158_1 : PySem.W.findIn K (.ref C_Nought) "__getattr__" = some none) (f158_2 : PySem.W.hasDictIn K C_Nought = true) (f158_3 : PySem.W.findIn K (.ref C_Nought) "__class__" = some (some (.builtin "object.__class__"))) (f158_4 : PySem.W.specialIn K (.builtin "object.__class__") "__get__" = some (some (.builtin "getset_descriptor.__get__"))) (f158_5 : PySem.W.takesIn K (.builtin "object.__class__") = some true) (f158_6 : PySem.W.mroIn K C_Nought (.type "object") = some true) (f158_7 : PySem.W.subIn K (.ref C_Nought) (.type "BaseException") = some true) (f158_8 : PySem.W.findIn K (.ref C_Nought) "at" = some none) (f158_9 : PySem.W.hasDictIn K C_Nought = true) (f159_0 : PySem.W.findIn K (.ref C_Bare) "__getattribute__" = some (some (.builtin "BaseException.__getattribute__"))) (f159_1 : PySem.W.findIn K (.ref C_Bare) "__getattr__" = some none) (f159_2 : PySem.W.hasDictIn K C_Bare = true) (f159_3 : PySem.W.findIn K (.ref C_Bare) "__class__" = some (some (.builtin "object.__class__"))) (f159_4 : PySem.W.specialIn K (.builtin "object.__class__") "__get__" = some (some (.builtin "getset_descriptor.__get__"))) (f159_5 : PySem.W.takesIn K (.builtin "object.__class__") = some true) (f159_6 : PySem.W.mroIn K C_Bare (.type "object") = some true) (f159_7 : PySem.W.subIn K (.ref C_Bare) (.type "BaseException") = some true) (f159_8 : PySem.W.findIn K (.ref C_Bare) "given" = some none) (f159_9 : PySem.W.hasDictIn K C_Bare = true) (f160_0 : PySem.W.findIn K (.ref C_Loose) "__getattribute__" = some (some (.builtin "BaseException.__getattribute__"))) (f160_1 : PySem.W.findIn K (.ref C_Loose) "__getattr__" = some none) (f160_2 : PySem.W.hasDictIn K C_Loose = true) (f160_3 : PySem.W.findIn K (.ref C_Loose) "__class__" = some (some (.builtin "object.__class__"))) (f160_4 : PySem.W.specialIn K (.builtin "object.__class__") "__get__" = some (some (.builtin "getset_descriptor.__get__"))) (f160_5 : PySem.W.takesIn K (.builtin "object.__class__") = some true) (f160_6 : PySem.W.mroIn K C_Loose (.type "object") = some true) (f160_7 : PySem.W.subIn K (.ref C_Loose) (.type "BaseException") = some true) (f160_8 : PySem.W.findIn K (.ref C_Loose) "thing" = some none) (f160_9 : PySem.W.hasDictIn K C_Loose = true) (f161_0 : PySem.W.findIn K (.ref C_Leans) "__getattribute__" = some (some (.builtin "BaseException.__getattribute__"))) (f161_1 : PySem.W.findIn K (.ref C_Leans) "__getattr__" = some none) (f161_2 : PySem.W.hasDictIn K C_Leans = true) (f161_3 : PySem.W.findIn K (.ref C_Leans) "__class__" = some (some (.builtin "object.__class__"))) (f161_4 : PySem.W.specialIn K (.builtin "object.__class__") "__get__" = some (some (.builtin "getset_descriptor.__get__"))) (f161_5 : PySem.W.takesIn K (.builtin "object.__class__") = some true) (f161_6 : PySem.W.mroIn K C_Leans (.type "object") = some true) (f161_7 : PySem.W.subIn K (.ref C_Leans) (.type "BaseException") = some true) (f161_8 : PySem.W.findIn K (.ref C_Leans) "place" = some none) (f161_9 : PySem.W.hasDictIn K C_Leans = true) (f162_0 : PySem.W.findIn K (.ref C_NoText) "__getattribute__" = some (some (.builtin "BaseException.__getattribute__"))) (f162_1 : PySem.W.findIn K (.ref C_NoText) "__getattr__" = some none) (f162_2 : PySem.W.hasDictIn K C_NoText = true) (f162_3 : PySem.W.findIn K (.ref C_NoText) "__class__" = some (some (.builtin "object.__class__"))) (f162_4 : PySem.W.specialIn K (.builtin "object.__class__") "__get__" = some (some (.builtin "getset_descriptor.__get__"))) (f162_5 : PySem.W.takesIn K (.builtin "object.__class__") = some true) (f162_6 : PySem.W.mroIn K C_NoText (.type "object") = some true) (f162_7 : PySem.W.subIn K (.ref C_NoText) (.type "BaseException") = some true) (f162_8 : PySem.W.findIn K (.ref C_NoText) "row" = some none) (f162_9 : PySem.W.hasDictIn K C_NoText = true) (f163 : PySem.W.kitOne K (.ref C_NoFit) (.ref C_JoinError) = some true) (f164 : PySem.W.kitOne K (.ref C_NoFit) (.type "ValueError") = some true) (f165 : PySem.W.kitOne K (.ref C_TooMany) (.ref C_JoinError) = some true) (f166 : PySem.W.kitOne K (.ref C_TooMany) (.type "ValueError") = some true) (f167 : PySem.W.kitOne K (.ref C_NoWidth) (.ref C_JoinError) = some true) (f168 : PySem.W.kitOne K (.ref C_NoWidth) (.type "ValueError") = some true) (f169 : PySem.W.kitOne K (.ref C_NoRow) (.ref C_JoinError) = some true) (f170 : PySem.W.kitOne K (.ref C_NoRow) (.type "ValueError") = some true) (f171 : PySem.W.kitOne K (.ref C_NoName) (.ref C_JoinError) = some true) (f172 : PySem.W.kitOne K (.ref C_NoName) (.type "ValueError") = some true) (f173 : PySem.W.kitOne K (.ref C_Nought) (.ref C_JoinError) = some true) (f174 : PySem.W.kitOne K (.ref C_Nought) (.type "ValueError") = some true) (f175 : PySem.W.kitOne K (.ref C_Bare) (.ref C_JoinError) = some true) (f176 : PySem.W.kitOne K (.ref C_Bare) (.type "ValueError") = some true) (f177 : PySem.W.kitOne K (.ref C_Loose) (.ref C_JoinError) = some true) (f178 : PySem.W.kitOne K (.ref C_Loose) (.type "ValueError") = some true) (f179 : PySem.W.kitOne K (.ref C_Leans) (.ref C_JoinError) = some true) (f180 : PySem.W.kitOne K (.ref C_Leans) (.type "ValueError") = some true) (f181 : PySem.W.kitOne K (.ref C_NoText) (.ref C_JoinError) = some true) (f182 : PySem.W.kitOne K (.ref C_NoText) (.type "ValueError") = some true) (f183 : PySem.W.kitOne K (.ref C_NoAnswer) (.ref C_JoinError) = some true) (f184 : PySem.W.kitOne K (.ref C_NoAnswer) (.type "ValueError") = some true) : XF K mg := ⟨C_NoFit, C_TooMany, C_NoWidth, C_NoRow, C_NoName, C_Nought, C_JoinError, C_Bare, C_Loose, C_Leans, C_NoText, C_NoAnswer, f_Nought, f_Bare, f_Loose, f_Leans, f_NoText, f_NoAnswer, ⟨PySem.W.mg_of KX G f0, PySem.W.mg_of KX G f1, PySem.W.mg_of KX G f2, PySem.W.mg_of KX G f3, PySem.W.mg_of KX G f4, PySem.W.mg_of KX G f5, PySem.W.mg_of KX G f6, PySem.W.mg_of KX G f7, PySem.W.mg_of KX G f8, PySem.W.mg_of KX G f9, PySem.W.mg_of KX G f10, PySem.W.mg_of KX G f11, PySem.W.mg_none_of KX G f12, f13, f14, f15, f16, f17, initN_mk f18_0 f18_1 f18_2 f18_3 f18_4 f18_5 f18_6 f18_7 (fun _ _ _ _ _ _ us hl => match us, hl with | [_, _], _ => rfl), ⟨f19_0, f19_1, f19_2⟩, initN_mk f20_0 f20_1 f20_2 f20_3 f20_4 f20_5 f20_6 f20_7 (fun _ _ _ _ _ _ us hl => match us, hl with | [_, _], _ => rfl), initN_mk f21_0 f21_1 f21_2 f21_3 f21_4 f21_5 f21_6 f21_7 (fun _ _ _ _ _ _ us hl => match us, hl with | [_, _], _ => rfl), initN_mk f22_0 f22_1 f22_2 f22_3 f22_4 f22_5 f22_6 f22_7 (fun _ _ _ _ _ _ us hl => match us, hl with | [_, _], _ => rfl), initN_mk f23_0 f23_1 f23_2 f23_3 f23_4 f23_5 f23_6 f23_7 (fun _ _ _ _ _ _ us hl => match us, hl with | [_, _], _ => rfl), initN_mk f24_0 f24_1 f24_2 f24_3 f24_4 f24_5 f24_6 f24_7 (fun _ _ _ _ _ _ us hl => match us, hl with | [_, _], _ => rfl), ExIs.of f25_0 f25_1 f25_2 f25_3 f25_4 f25_5 f25_6 f25_7, f26, f27, f28, f29, f30, f31, f32, f33, f34, f35, f36, ExIs.of f37_0 f37_1 f37_2 f37_3 f37_4 f37_5 f37_6 f37_7, f38, f39, f40, f41, f42, f43, f44, f45, f46, f47, f48, ExIs.of f49_0 f49_1 f49_2 f49_3 f49_4 f49_5 f49_6 f49_7, f50, f51, f52, f53, f54, f55, f56, f57, f58, f59, f60, ExIs.of f61_0 f61_1 f61_2 f61_3 f61_4 f61_5 f61_6 f61_7, f62, f63, f64, f65, f66, f67, f68, f69, f70, f71, f72, ExIs.of f73_0 f73_1 f73_2 f73_3 f73_4 f73_5 f73_6 f73_7, f74, f75, f76, f77, f78, f79, f80, f81, f82, f83, f84, ExIs.of f85_0 f85_1 f85_2 f85_3 f85_4 f85_5 f85_6 f85_7, f86, f87, f88, f89, f90, f91, f92, f93, f94, f95, f96, ExIs.of f97_0 f97_1 f97_2 f97_3 f97_4 f97_5 f97_6 f97_7, f98, f99, f100, f101, f102, f103, f104, f105, f106, f107, f108, ExIs.of f109_0 f109_1 f109_2 f109_3 f109_4 f109_5 f109_6 f109_7, f110, f111, f112, f113, f114, f115, f116, f117, f118, f119, f120, ExIs.of f121_0 f121_1 f121_2 f121_3 f121_4 f121_5 f121_6 f121_7, f122, f123, f124, f125, f126, f127, f128, f129, f130, f131, f132, ExIs.of f133_0 f133_1 f133_2 f133_3 f133_4 f133_5 f133_6 f133_7, f134, f135, f136, f137, f138, f139, f140, f141, f142, f143, f144, ExIs.of f145_0 f145_1 f145_2 f145_3 f145_4 f145_5 f145_6 f145_7, f146, f147, f148, f149, f150, f151, f152, f153, f154, f155, f156, { toExIs := ExIs.of f157_0 f157_1 f157_2 f157_3 f157_4 f157_5 f157_6 f157_7, na := f157_8, hd := f157_9 }, { toExIs := ExIs.of f158_0 f158_1 f158_2 f158_3 f158_4 f158_5 f158_6 f158_7, na := f158_8, hd := f158_9 }, { toExIs := ExIs.of f159_0 f159_1 f159_2 f159_3 f159_4 f159_5 f159_6 f159_7, na := f159_8, hd := f159_9 }, { toExIs := ExIs.of f160_0 f160_1 f160_2 f160_3 f160_4 f160_5 f160_6 f160_7, na := f160_8, hd := f160_9 }, { toExIs := ExIs.of f161_0 f161_1 f161_2 f161_3 f161_4 f161_5 f161_6 f161_7, na := f161_8, hd := f161_9 }, { toExIs := ExIs.of f162_0 f162_1 f162_2 f162_3 f162_4 f162_5 f162_6 f162_7, na := f162_8, hd := f162_9 }, f163, f164, f165, f166, f167, f168, f169, f170, f171, f172, f173, f174, f175, f176, f177, f178, f179, f180, f181, f182, f183, f184⟩⟩
theorem ok_law {C_NoFit C_TooMany C_NoWidth C_NoRow C_NoName C_Nought C_JoinError C_Bare C_Loose C_Leans C_NoText C_NoAnswer : Addr} (m_JoinError : mg "JoinError" = some (.ref C_JoinError)) (n_ValueError : mg "ValueError" = none) (g_NoAnswer : ExG K C_NoAnswer "places") (g_Nought : ExG K C_Nought "at") (g_Bare : ExG K C_Bare "given") (g_Loose : ExG K C_Loose "thing") (g_Leans : ExG K C_Leans "place") (g_NoText : ExG K C_NoText "row") (i_NoFit : ExIs K C_NoFit) (k_NoFit_JoinError : PySem.W.kitOne K (.ref C_NoFit) (.ref C_JoinError) = some true) (k_NoFit_ValueError : PySem.W.kitOne K (.ref C_NoFit) (.type "ValueError") = some true) (i_TooMany : ExIs K C_TooMany) (k_TooMany_JoinError : PySem.W.kitOne K (.ref C_TooMany) (.ref C_JoinError) = some true) (k_TooMany_ValueError : PySem.W.kitOne K (.ref C_TooMany) (.type "ValueError") = some true) (i_NoWidth : ExIs K C_NoWidth) (k_NoWidth_JoinError : PySem.W.kitOne K (.ref C_NoWidth) (.ref C_JoinError) = some true) (k_NoWidth_ValueError : PySem.W.kitOne K (.ref C_NoWidth) (.type "ValueError") = some true) (i_NoRow : ExIs K C_NoRow) (k_NoRow_JoinError : PySem.W.kitOne K (.ref C_NoRow) (.ref C_JoinError) = some true) (k_NoRow_ValueError : PySem.W.kitOne K (.ref C_NoRow) (.type "ValueError") = some true) (i_NoName : ExIs K C_NoName) (k_NoName_JoinError : PySem.W.kitOne K (.ref C_NoName) (.ref C_JoinError) = some true) (k_NoName_ValueError : PySem.W.kitOne K (.ref C_NoName) (.type "ValueError") = some true) (i_Nought : ExIs K C_Nought) (k_Nought_JoinError : PySem.W.kitOne K (.ref C_Nought) (.ref C_JoinError) = some true) (k_Nought_ValueError : PySem.W.kitOne K (.ref C_Nought) (.type "ValueError") = some true) (i_Bare : ExIs K C_Bare) (k_Bare_JoinError : PySem.W.kitOne K (.ref C_Bare) (.ref C_JoinError) = some true) (k_Bare_ValueError : PySem.W.kitOne K (.ref C_Bare) (.type "ValueError") = some true) (i_Loose : ExIs K C_Loose) (k_Loose_JoinError : PySem.W.kitOne K (.ref C_Loose) (.ref C_JoinError) = some true) (k_Loose_ValueError : PySem.W.kitOne K (.ref C_Loose) (.type "ValueError") = some true) (i_Leans : ExIs K C_Leans) (k_Leans_JoinError : PySem.W.kitOne K (.ref C_Leans) (.ref C_JoinError) = some true) (k_Leans_ValueError : PySem.W.kitOne K (.ref C_Leans) (.type "ValueError") = some true) (i_NoText : ExIs K C_NoText) (k_NoText_JoinError : PySem.W.kitOne K (.ref C_NoText) (.ref C_JoinError) = some true) (k_NoText_ValueError : PySem.W.kitOne K (.ref C_NoText) (.type "ValueError") = some true) (i_NoAnswer : ExIs K C_NoAnswer) (k_NoAnswer_JoinError : PySem.W.kitOne K (.ref C_NoAnswer) (.ref C_JoinError) = some true) (k_NoAnswer_ValueError : PySem.W.kitOne K (.ref C_NoAnswer) (.type "ValueError") = some true) (dn : DefN K mg "law" s_law ["_law_script"]) (B : BI mg) (g_law_tape : OkN P w K mg base 1 "_law_tape" ["_law_script"] (spA K STape)) (g_law_draw : OkN P w K mg base 1 "_law_draw" ["_law_tape_here", "_law_many"] (spA K SDraw)) (g_law_made : OkN P w K mg base 3 "_law_made" ["_law_number", "_law_text", "_law_places"] (spA K (SMade C_NoFit C_TooMany C_NoWidth C_NoRow C_NoName C_Nought C_Bare C_Loose C_Leans C_NoText C_NoAnswer))) (g_law_kinds : OkN P w K mg base 1 "_law_kinds" ["_law_e"] (spA K (SKinds C_NoFit C_TooMany C_NoWidth C_NoRow C_NoName C_Nought C_Bare C_Loose C_Leans C_NoText C_NoAnswer))) : OkN P w K mg base 4 "law" ["_law_script"] (spA K SLaw) := by
  refine dn.aok2 (k := 3) sc_law (fun j => j == 0) [.un, .un, .un, .un, .un, .un, .un, .un] SLaw rfl (fun f cdv A outer s H E hr => have hu := hu_of hr; ⟨_, (pss_cons (ps_set (i := 1) sc_law.nd rfl (by first | exact Or.inl rfl | exact Or.inr rfl) (pe_fn g_law_tape (hr.mono (by decide)) (pa_cons (pv 0) pa_nil)))
    (pss_cons (ps_set (i := 2) sc_law.nd rfl (by first | exact Or.inl rfl | exact Or.inr rfl) (pe_fn g_law_draw (hr.mono (by decide)) (pa_cons (pv 1) (pa_cons (pe_op op_pow pe_int pe_int) pa_nil))))
    (pss_cons (ps_set (i := 3) sc_law.nd rfl (by first | exact Or.inl rfl | exact Or.inr rfl) pe_str)
    (pss_cons (ps_set (i := 4) sc_law.nd rfl (by first | exact Or.inl rfl | exact Or.inr rfl) (pe_bmK K PySem.F.plainAttrs_str PySem.F.slot_str_join PySem.F.type_str_join (mt_join K) pe_str (pa_cons (pe_comp ["_law_turn"] [3, 1] rfl (Blk.of (defScope s_law) nm_law) (pi_range1 rfl B.range_ (pa_cons (pe_fn g_law_draw (hr.mono (by decide)) (pa_cons (pv 1) (pa_cons pe_int pa_nil))) pa_nil)) (fun _ _ _ _ nd => (pg_name (i := 0) nd rfl (by first | exact Or.inl rfl | exact Or.inr rfl))) (fun _ _ _ _ => pts_nil) (fun _ _ _ _ => (pe_item_str (pv 1) (pe_fn g_law_draw (hr.mono (by decide)) (pa_cons (pv 2) (pa_cons pe_int pa_nil))) (fun _ _ => rfl)))) pa_nil)))
    (pss_cons (ps_set (i := 5) sc_law.nd rfl (by first | exact Or.inl rfl | exact Or.inr rfl) (pe_sortSet K rfl rfl B.sorted_ rfl B.set_ (pa_cons (pe_comp ["_law_turn"] [1] rfl (Blk.of (defScope s_law) nm_law) (pi_range1 rfl B.range_ (pa_cons (pe_op op_add pe_int (pe_fn g_law_draw (hr.mono (by decide)) (pa_cons (pv 1) (pa_cons pe_int pa_nil)))) pa_nil)) (fun _ _ _ _ nd => (pg_name (i := 0) nd rfl (by first | exact Or.inl rfl | exact Or.inr rfl))) (fun _ _ _ _ => pts_nil) (fun _ _ _ _ => (pe_fn g_law_draw (hr.mono (by decide)) (pa_cons (pv 1) (pa_cons pe_int pa_nil))))) pa_nil)))
    (pss_cons (ps_set (i := 6) sc_law.nd rfl (by first | exact Or.inl rfl | exact Or.inr rfl) (pe_callTy (call_listK K) rfl B.list_ bt_list (pa_cons (pv 5) pa_nil)))
    (pss_cons (ps_set (i := 7) sc_law.nd rfl (by first | exact Or.inl rfl | exact Or.inr rfl) (pe_fn g_law_made (hr.mono (by decide)) (pa_cons (pv 2) (pa_cons (pv 4) (pa_cons (pv 6) pa_nil)))))
    (pss_cons (ps_expr (pe_bmK K PySem.F.plainAttrs_list PySem.F.slot_list_append PySem.F.type_list_append mt_append (pv 6) (pa_cons pe_int pa_nil)))
    (pss_cons (ps_for PassesOwn.never rfl (pi_range1 rfl B.range_ (pa_cons (pe_callB (call_lenK K) rfl B.len_ bt_len (pa_cons (pv 7) pa_nil)) pa_nil)) (pg_name (i := 8) sc_law.nd rfl (by first | exact Or.inl rfl | exact Or.inr rfl))
    (pss_cons (ps_if (PW.pt (pw_or (pt_not (pt_val (pe_callB (call_isaX K (c := .ref C_JoinError) (u := .ref C_JoinError) (fun _ h => h)) rfl B.isinstance_ bt_isinstance (pa_cons (pe_ix (ix_seqK K) (pv 7) (pv 8) (fun _ _ => rfl)) (pa_cons (pe_glob (v := .ref C_JoinError) rfl m_JoinError rfl) pa_nil))))) (pw_or1 (pt_not (pt_val (pe_callB (call_isaX K (c := .ty "ValueError") (u := .type "ValueError") (fun _ h => h)) rfl B.isinstance_ bt_isinstance (pa_cons (pe_ix (ix_seqK K) (pv 7) (pv 8) (fun _ _ => rfl)) (pa_cons (pe_ty (T := "ValueError") rfl n_ValueError (by decide +kernel)) pa_nil))))))))
    (pss_one (ps_ret pe_bl))
    pss_nil)
    (pss_one (ps_if (pt_cmpR (op_neD K hr.units) (pe_fn g_law_kinds (hr.mono (by decide)) (pa_cons (pe_ix (ix_seqK K) (pv 7) (pv 8) (fun _ _ => rfl)) pa_nil)) (pe_comp ["_law_k"] [8] rfl (Blk.of (defScope s_law) nm_law) (pi_range1 rfl B.range_ (pa_cons pe_int pa_nil)) (fun _ _ _ _ nd => (pg_name (i := 0) nd rfl (by first | exact Or.inl rfl | exact Or.inr rfl))) (fun _ _ _ _ => pts_nil) (fun _ _ _ _ => (pe_cmpR (op_eqD K hr.units) (pv 1) (pv 0) (nomark _)))) (nomark _))
    (pss_one (ps_ret pe_bl))
    pss_nil))))
    (pss_cons (ps_if (pt_cmpR (op_neD K hr.units) (pe_lst (pa_cons (pe_xfld (pe_ix (ix_seqK K) (pv 7) pe_int (fun _ _ => rfl))) (pa_cons (pe_xfld (pe_ix (ix_seqK K) (pv 7) pe_int (fun _ _ => rfl))) (pa_cons (pe_xfld (pe_ix (ix_seqK K) (pv 7) pe_int (fun _ _ => rfl))) (pa_cons (pe_xfld (pe_ix (ix_seqK K) (pv 7) pe_int (fun _ _ => rfl))) (pa_cons (pe_xfld (pe_ix (ix_seqK K) (pv 7) pe_int (fun _ _ => rfl))) pa_nil)))))) (pe_op (op_repL K) (pe_lst (pa_cons (pv 2) pa_nil)) pe_int) (nomark _))
    (pss_one (ps_ret pe_bl))
    pss_nil)
    (pss_one (ps_ret (pe_cmpR (op_eqD K hr.units) (pe_xfld (pe_ix (ix_seqK K) (pv 7) pe_int (fun _ _ => rfl))) (pv 5) (nomark _)))))))))))))), (sok_seq (sok_set (tok_call (taok_cons tok_var taok_nil)) rfl)
    (sok_seq (sok_set (tok_call (taok_cons tok_var (taok_cons (tok_op ook_int tok_int tok_int) taok_nil))) rfl)
    (sok_seq (sok_set tok_str rfl)
    (sok_seq (sok_set (tok_join tok_str (taok_cons (tok_comp (tiok_rng1 (taok_cons (tok_call (taok_cons tok_var (taok_cons tok_int taok_nil))) taok_nil)) (tgok_name rfl) ttok_all (tok_op ook_ixS tok_var (tok_call (taok_cons tok_var (taok_cons tok_int taok_nil))))) taok_nil)) rfl)
    (sok_seq (sok_set (tok_sortSet (taok_cons (tok_comp (tiok_rng1 (taok_cons (tok_op ook_int0 tok_int (tok_call (taok_cons tok_var (taok_cons tok_int taok_nil)))) taok_nil)) (tgok_name rfl) ttok_all (tok_call (taok_cons tok_var (taok_cons tok_int taok_nil)))) taok_nil)) rfl)
    (sok_seq (sok_set (tok_cb cbok_list (taok_cons tok_var taok_nil)) rfl)
    (sok_seq (sok_set (tok_call (taok_cons tok_var (taok_cons tok_var (taok_cons tok_var taok_nil)))) rfl)
    (sok_seq (sok_drop (tok_app tok_var (taok_cons tok_int taok_nil)))
    (sok_seq (sok_for (pin := (fun _ => false)) (tiok_rng1 (taok_cons (tok_cb cbok_lenX (taok_cons tok_var taok_nil)) taok_nil)) (tgok_name rfl)
    (sok_seq (sok_if (ttok_or (ttok_not (ttok_B (tok_isXe (tok_op ook_ixX tok_var tok_var)))) (ttok_not (ttok_B (tok_isXe (tok_op ook_ixX tok_var tok_var)))))
    (sok_ret tok_bl)
    sok_next)
    (sok_if (ttok_test (tok_op ook_ne (tok_call (taok_cons (tok_op ook_ixX tok_var tok_var) taok_nil)) (tok_comp (tiok_rng1 (taok_cons tok_int taok_nil)) (tgok_name rfl) ttok_all (tok_op ook_eq tok_var tok_var))))
    (sok_ret tok_bl)
    sok_next)))
    (sok_seq (sok_if (ttok_test (tok_op ook_ne (tok_lst (taok_cons (tok_xfldE (tok_op ook_ixX tok_var tok_int)) (taok_cons (tok_xfldE (tok_op ook_ixX tok_var tok_int)) (taok_cons (tok_xfldE (tok_op ook_ixX tok_var tok_int)) (taok_cons (tok_xfldE (tok_op ook_ixX tok_var tok_int)) (taok_cons (tok_xfldE (tok_op ook_ixX tok_var tok_int)) taok_nil)))))) (tok_op ook_rep (tok_lst (taok_cons tok_var taok_nil)) tok_int)))
    (sok_ret tok_bl)
    sok_next)
    (sok_ret (tok_op ook_eq (tok_xfldE (tok_op ook_ixX tok_var tok_int)) tok_var))))))))))))⟩) ?_
  rintro ss q ⟨ns, hl, rfl, hq⟩
  refine ⟨rfl, rfl, rfl, ns, rfl, ?_⟩
  dsimp only [stS, pt, back, R.frz]
  refine cutS (fun ρ => ∃ n : Nat, n < 10 ^ 60 ∧ ρ = [.sc ns, .tp 1, .vl (.int n), .un, .un, .un, .un, .un, .un]) (fun M hM => ⟨⟨by decide, by decide, by decide⟩, rfl, 0, 10 ^ 60, rfl, by omega, ⟨by decide, by decide +kernel⟩, fun r hr => hM _ ⟨r, by exact_mod_cast hr, rfl⟩⟩) ?_
  rintro _ ⟨n, hn, rfl⟩
  refine cutS (fun ρ => ρ = [.sc ns, .tp 1, .vl (.int n), .vl (.str SG), .un, .un, .un, .un, .un]) (fun M hM => hM _ rfl) ?_
  rintro _ rfl
  refine cutS (fun ρ => ∃ (t : Str) (n1 : Nat), n1 ≤ 20 ∧ ρ = [.sc ns, .tp n1, .vl (.int n), .vl (.str SG), .vl (.str t), .un, .un, .un, .un]) (fun M hM => ?_) ?_
  · refine ⟨rfl, 1, 13, rfl, by omega, Dv.small (by decide) (by decide), fun r hr => ⟨⟨by omega, by omega⟩, by rw [rngD_len]; omega, ?_⟩⟩
    refine compA_inv (fun k acc ρ => ∃ ys : List Str, acc = ys.map D.str ∧ (∀ y ∈ ys, y.length = 1) ∧ ys.length = k ∧ ρ = [.sc ns, .tp (2 + k), .vl (.int n), .vl (.str SG), .un, .un, .un, .un, .un]) (fun _ _ _ _ _ => trivial) ?_ ?_ _ ⟨[], rfl, fun _ h => (nomatch h), rfl, rfl⟩
    · rintro k d acc _ N hk ⟨ys, rfl, hy, hk2, rfl⟩ hN
      obtain ⟨lt, rfl⟩ := rngD_get hk
      refine ⟨rfl, 2 + k, 14, rfl, by omega, Dv.small (by decide) (by decide), fun o ho => ?_⟩
      have ho' : o < SG.cps.size := by rw [sg_size]; omega
      refine ⟨SG.cps[o], by omega, by omega, ?_, ?_, hN _ _ ⟨ys ++ [⟨#[SG.cps[o]]⟩], by rw [List.map_append]; rfl, fun y hy' => ?_, by rw [List.length_append, hk2]; rfl, rfl⟩⟩
      · rw [sg_len]; omega
      · rw [Int.toNat_natCast]; exact Array.getElem?_eq_getElem ho'
      · rcases List.mem_append.mp hy' with h | h
        · exact hy y h
        · rw [List.mem_singleton.mp h]; rfl
    · rintro acc _ ⟨ys, rfl, hy, hk2, rfl⟩
      rw [rngD_len] at hk2
      refine gJoin_ok (ys := ys) rfl ?_ (hM _ ⟨_, 2 + _, ?_, rfl⟩)
      · rw [sum_one hy]
        have : (Str.ofString "").length = 0 := by decide +kernel
        rw [this]; omega
      · rw [rngD_len]; omega
  rintro _ ⟨t, n1, hn1, rfl⟩
  refine cutS (fun ρ => ∃ (ns' : List Int) (n2 : Nat), n2 ≤ 60 ∧ ns'.length ≤ 1000 ∧ ρ = [.sc ns, .tp n2, .vl (.int n), .vl (.str SG), .vl (.str t), .ow (ns'.map D.int), .un, .un, .un]) (fun M hM => ?_) ?_
  · refine ⟨rfl, n1, 12, rfl, by omega, Dv.small (by decide) (by decide), fun r hr => ⟨⟨by omega, by omega⟩, by rw [rngD_len]; omega, ?_⟩⟩
    refine compA_inv (fun k acc ρ => ∃ os : List Nat, acc = natsD os ∧ os.length = k ∧ (∀ o ∈ os, o < 24) ∧ ρ = [.sc ns, .tp (n1 + 1 + k), .vl (.int n), .vl (.str SG), .vl (.str t), .un, .un, .un, .un]) (fun _ _ _ _ _ => trivial) ?_ ?_ _ ⟨[], rfl, rfl, fun _ h => (nomatch h), rfl⟩
    · rintro k d acc _ N hk ⟨os, rfl, ho, hos, rfl⟩ hN
      obtain ⟨lt, rfl⟩ := rngD_get hk
      refine ⟨rfl, n1 + 1 + k, 24, rfl, by omega, Dv.small (by decide) (by decide), fun o ho' => ?_⟩
      refine hN _ _ ⟨os ++ [o], by rw [natsD_snoc], by rw [List.length_append, ho]; rfl, fun x hx => ?_, rfl⟩
      rcases List.mem_append.mp hx with h | h
      · exact hos x h
      · rw [List.mem_singleton.mp h]; omega
    · rintro acc _ ⟨os, rfl, ho, hos, rfl⟩
      rw [rngD_len] at ho
      refine gSortSet_ok (ns := os.map fun y => ((y : Nat) : Int)) ?_ (by rw [List.length_map]; omega) fun ns' hp hm => hM _ ⟨ns', n1 + 1 + _, ?_, ?_, rfl⟩
      · show some (D.lst (natsD os)) = _
        rw [List.map_map]; rfl
      · rw [rngD_len]; omega
      · refine Nat.le_trans (rise_len hp fun x hx => ?_) (show 24 ≤ 1000 by decide)
        obtain ⟨y, hy, rfl⟩ := List.mem_map.mp ((hm x).mp hx)
        have := hos y hy
        omega
  rintro _ ⟨ns', n2, hn2, hl2, rfl⟩
  refine cutS (fun ρ => ρ = [.sc ns, .tp n2, .vl (.int n), .vl (.str SG), .vl (.str t), .ow (ns'.map D.int), .ow (ns'.map D.int), .un, .un]) (fun M hM => hM _ rfl) ?_
  rintro _ rfl
  have h70 : (n : Int) < 10000000000000000000000000000000000000000000000000000000000000000000000 := by
    have : (10 : Nat) ^ 60 = 1000000000000000000000000000000000000000000000000000000000000 := by decide
    omega
  refine cutS (fun ρ => ρ = [.sc ns, .tp n2, .vl (.int n), .vl (.str SG), .vl (.str t), .ow (ns'.map D.int), .ow (ns'.map D.int), .xl (esD C_NoFit C_TooMany C_NoWidth C_NoRow C_NoName C_Nought C_Bare C_Loose C_Leans C_NoText C_NoAnswer n (ns'.map D.int)), .un]) (fun M hM => ⟨rfl, n, t, _, rfl, by omega, h70, hM _ rfl⟩) ?_
  rintro _ rfl
  refine cutS (fun ρ => ρ = [.sc ns, .tp n2, .vl (.int n), .vl (.str SG), .vl (.str t), .ow (ns'.map D.int), .ow (ns'.map D.int ++ [.int 99]), .xl (esD C_NoFit C_TooMany C_NoWidth C_NoRow C_NoName C_Nought C_Bare C_Loose C_Leans C_NoText C_NoAnswer n (ns'.map D.int)), .un]) (fun M hM => ⟨by rw [List.length_map]; omega, hM _ rfl⟩) ?_
  rintro _ rfl
  refine cutS (fun ρ => ∃ s8 : Sv, ρ = [.sc ns, .tp n2, .vl (.int n), .vl (.str SG), .vl (.str t), .ow (ns'.map D.int), .ow (ns'.map D.int ++ [.int 99]), .xl (esD C_NoFit C_TooMany C_NoWidth C_NoRow C_NoName C_Nought C_Bare C_Loose C_Leans C_NoText C_NoAnswer n (ns'.map D.int)), s8]) (fun M hM => ⟨⟨by simp [esD], by simp [esD]⟩, forA_rng (fun k ρ => ∃ s8 : Sv, ρ = [.sc ns, .tp n2, .vl (.int n), .vl (.str SG), .vl (.str t), .ow (ns'.map D.int), .ow (ns'.map D.int ++ [.int 99]), .xl (esD C_NoFit C_TooMany C_NoWidth C_NoRow C_NoName C_Nought C_Bare C_Loose C_Leans C_NoText C_NoAnswer n (ns'.map D.int)), s8]) (fun _ _ _ => trivial) ?_ (fun ρ h => hM ρ h) ⟨.un, rfl⟩⟩) ?_
  · rintro k ρ0 M1 hk ⟨s8, e0⟩ hM1
    rw [e0]; clear e0
    rw [Int.zero_add]
    have hk3 : k < 11 := hk
    rcases (show k = 0 ∨ k = 1 ∨ k = 2 ∨ k = 3 ∨ k = 4 ∨ k = 5 ∨ k = 6 ∨ k = 7 ∨ k = 8 ∨ k = 9 ∨ k = 10 by omega) with rfl | rfl | rfl | rfl | rfl | rfl | rfl | rfl | rfl | rfl | rfl
    · refine ⟨_, i_NoFit, k_NoFit_JoinError, _, i_NoFit, k_NoFit_ValueError, ?_⟩
      refine ⟨rfl, 0, C_NoFit, _, rfl, rfl, ?_⟩
      refine ⟨⟨by decide, by decide⟩, by rw [rngD_len]; decide, ?_⟩
      refine compA_rng (fun j => .bl (decide (0 = j))) trivial (fun j acc M3 hj hM3 => ?_) ?_
      · rw [Int.zero_add]; exact gEq_ok rfl rfl (by simp [D.depth]) (eqD_nn 0 j) hM3
      · exact gEq_ok rfl rfl (by decide +kernel) (eqD_refl _) (hM1 _ ⟨_, rfl⟩)
    · refine ⟨_, i_TooMany, k_TooMany_JoinError, _, i_TooMany, k_TooMany_ValueError, ?_⟩
      refine ⟨rfl, 1, C_TooMany, _, rfl, rfl, ?_⟩
      refine ⟨⟨by decide, by decide⟩, by rw [rngD_len]; decide, ?_⟩
      refine compA_rng (fun j => .bl (decide (1 = j))) trivial (fun j acc M3 hj hM3 => ?_) ?_
      · rw [Int.zero_add]; exact gEq_ok rfl rfl (by simp [D.depth]) (eqD_nn 1 j) hM3
      · exact gEq_ok rfl rfl (by decide +kernel) (eqD_refl _) (hM1 _ ⟨_, rfl⟩)
    · refine ⟨_, i_NoWidth, k_NoWidth_JoinError, _, i_NoWidth, k_NoWidth_ValueError, ?_⟩
      refine ⟨rfl, 2, C_NoWidth, _, rfl, rfl, ?_⟩
      refine ⟨⟨by decide, by decide⟩, by rw [rngD_len]; decide, ?_⟩
      refine compA_rng (fun j => .bl (decide (2 = j))) trivial (fun j acc M3 hj hM3 => ?_) ?_
      · rw [Int.zero_add]; exact gEq_ok rfl rfl (by simp [D.depth]) (eqD_nn 2 j) hM3
      · exact gEq_ok rfl rfl (by decide +kernel) (eqD_refl _) (hM1 _ ⟨_, rfl⟩)
    · refine ⟨_, i_NoRow, k_NoRow_JoinError, _, i_NoRow, k_NoRow_ValueError, ?_⟩
      refine ⟨rfl, 3, C_NoRow, _, rfl, rfl, ?_⟩
      refine ⟨⟨by decide, by decide⟩, by rw [rngD_len]; decide, ?_⟩
      refine compA_rng (fun j => .bl (decide (3 = j))) trivial (fun j acc M3 hj hM3 => ?_) ?_
      · rw [Int.zero_add]; exact gEq_ok rfl rfl (by simp [D.depth]) (eqD_nn 3 j) hM3
      · exact gEq_ok rfl rfl (by decide +kernel) (eqD_refl _) (hM1 _ ⟨_, rfl⟩)
    · refine ⟨_, i_NoName, k_NoName_JoinError, _, i_NoName, k_NoName_ValueError, ?_⟩
      refine ⟨rfl, 4, C_NoName, _, rfl, rfl, ?_⟩
      refine ⟨⟨by decide, by decide⟩, by rw [rngD_len]; decide, ?_⟩
      refine compA_rng (fun j => .bl (decide (4 = j))) trivial (fun j acc M3 hj hM3 => ?_) ?_
      · rw [Int.zero_add]; exact gEq_ok rfl rfl (by simp [D.depth]) (eqD_nn 4 j) hM3
      · exact gEq_ok rfl rfl (by decide +kernel) (eqD_refl _) (hM1 _ ⟨_, rfl⟩)
    · refine ⟨_, i_Nought, k_Nought_JoinError, _, i_Nought, k_Nought_ValueError, ?_⟩
      refine ⟨rfl, 5, C_Nought, _, rfl, rfl, ?_⟩
      refine ⟨⟨by decide, by decide⟩, by rw [rngD_len]; decide, ?_⟩
      refine compA_rng (fun j => .bl (decide (5 = j))) trivial (fun j acc M3 hj hM3 => ?_) ?_
      · rw [Int.zero_add]; exact gEq_ok rfl rfl (by simp [D.depth]) (eqD_nn 5 j) hM3
      · exact gEq_ok rfl rfl (by decide +kernel) (eqD_refl _) (hM1 _ ⟨_, rfl⟩)
    · refine ⟨_, i_Bare, k_Bare_JoinError, _, i_Bare, k_Bare_ValueError, ?_⟩
      refine ⟨rfl, 6, C_Bare, _, rfl, rfl, ?_⟩
      refine ⟨⟨by decide, by decide⟩, by rw [rngD_len]; decide, ?_⟩
      refine compA_rng (fun j => .bl (decide (6 = j))) trivial (fun j acc M3 hj hM3 => ?_) ?_
      · rw [Int.zero_add]; exact gEq_ok rfl rfl (by simp [D.depth]) (eqD_nn 6 j) hM3
      · exact gEq_ok rfl rfl (by decide +kernel) (eqD_refl _) (hM1 _ ⟨_, rfl⟩)
    · refine ⟨_, i_Loose, k_Loose_JoinError, _, i_Loose, k_Loose_ValueError, ?_⟩
      refine ⟨rfl, 7, C_Loose, _, rfl, rfl, ?_⟩
      refine ⟨⟨by decide, by decide⟩, by rw [rngD_len]; decide, ?_⟩
      refine compA_rng (fun j => .bl (decide (7 = j))) trivial (fun j acc M3 hj hM3 => ?_) ?_
      · rw [Int.zero_add]; exact gEq_ok rfl rfl (by simp [D.depth]) (eqD_nn 7 j) hM3
      · exact gEq_ok rfl rfl (by decide +kernel) (eqD_refl _) (hM1 _ ⟨_, rfl⟩)
    · refine ⟨_, i_Leans, k_Leans_JoinError, _, i_Leans, k_Leans_ValueError, ?_⟩
      refine ⟨rfl, 8, C_Leans, _, rfl, rfl, ?_⟩
      refine ⟨⟨by decide, by decide⟩, by rw [rngD_len]; decide, ?_⟩
      refine compA_rng (fun j => .bl (decide (8 = j))) trivial (fun j acc M3 hj hM3 => ?_) ?_
      · rw [Int.zero_add]; exact gEq_ok rfl rfl (by simp [D.depth]) (eqD_nn 8 j) hM3
      · exact gEq_ok rfl rfl (by decide +kernel) (eqD_refl _) (hM1 _ ⟨_, rfl⟩)
    · refine ⟨_, i_NoText, k_NoText_JoinError, _, i_NoText, k_NoText_ValueError, ?_⟩
      refine ⟨rfl, 9, C_NoText, _, rfl, rfl, ?_⟩
      refine ⟨⟨by decide, by decide⟩, by rw [rngD_len]; decide, ?_⟩
      refine compA_rng (fun j => .bl (decide (9 = j))) trivial (fun j acc M3 hj hM3 => ?_) ?_
      · rw [Int.zero_add]; exact gEq_ok rfl rfl (by simp [D.depth]) (eqD_nn 9 j) hM3
      · exact gEq_ok rfl rfl (by decide +kernel) (eqD_refl _) (hM1 _ ⟨_, rfl⟩)
    · refine ⟨_, i_NoAnswer, k_NoAnswer_JoinError, _, i_NoAnswer, k_NoAnswer_ValueError, ?_⟩
      refine ⟨rfl, 10, C_NoAnswer, _, rfl, rfl, ?_⟩
      refine ⟨⟨by decide, by decide⟩, by rw [rngD_len]; decide, ?_⟩
      refine compA_rng (fun j => .bl (decide (10 = j))) trivial (fun j acc M3 hj hM3 => ?_) ?_
      · rw [Int.zero_add]; exact gEq_ok rfl rfl (by simp [D.depth]) (eqD_nn 10 j) hM3
      · exact gEq_ok rfl rfl (by decide +kernel) (eqD_refl _) (hM1 _ ⟨_, rfl⟩)
  rintro _ ⟨s8, rfl⟩
  refine cutS (fun ρ => ρ = [.sc ns, .tp n2, .vl (.int n), .vl (.str SG), .vl (.str t), .ow (ns'.map D.int), .ow (ns'.map D.int ++ [.int 99]), .xl (esD C_NoFit C_TooMany C_NoWidth C_NoRow C_NoName C_Nought C_Bare C_Loose C_Leans C_NoText C_NoAnswer n (ns'.map D.int)), s8]) (fun M hM => ?_) ?_
  · refine ⟨_, rfl, g_Nought, _, rfl, g_Bare, _, rfl, g_Loose, _, rfl, g_Leans, _, rfl, g_NoText, by simp, by simp, ⟨by decide, by decide, by simp⟩, ?_⟩
    exact gEq_ok rfl rfl (by simp [D.depth, depths]) (eqD_refl _) (hM _ rfl)
  rintro _ rfl
  refine ⟨_, rfl, g_NoAnswer, ?_⟩
  exact gEq_ok rfl rfl (by simp only [D.depth]; rw [depth_ints]; omega) (eqD_refl _) (hq _)
theorem fin (d_law_tape : DefN K mg "_law_tape" s_law_tape ["_law_script"]) (d_law_draw : DefN K mg "_law_draw" s_law_draw ["_law_tape_here", "_law_many"]) (d_law_made : DefN K mg "_law_made" s_law_made ["_law_number", "_law_text", "_law_places"]) (d_law_kinds : DefN K mg "_law_kinds" s_law_kinds ["_law_e"]) (d_law : DefN K mg "law" s_law ["_law_script"]) (xf : XF K mg) (B : BI mg) : OkN P w K mg base 4 "law" ["_law_script"] (spLaw K) := by
  obtain ⟨C_NoFit, C_TooMany, C_NoWidth, C_NoRow, C_NoName, C_Nought, C_JoinError, C_Bare, C_Loose, C_Leans, C_NoText, C_NoAnswer, f_Nought, f_Bare, f_Loose, f_Leans, f_NoText, f_NoAnswer, xfs⟩ := xf
  have m_NoFit := xfs.m_NoFit
  have m_TooMany := xfs.m_TooMany
  have m_NoWidth := xfs.m_NoWidth
  have m_NoRow := xfs.m_NoRow
  have m_NoName := xfs.m_NoName
  have m_Nought := xfs.m_Nought
  have m_JoinError := xfs.m_JoinError
  have m_Bare := xfs.m_Bare
  have m_Loose := xfs.m_Loose
  have m_Leans := xfs.m_Leans
  have m_NoText := xfs.m_NoText
  have m_NoAnswer := xfs.m_NoAnswer
  have n_ValueError := xfs.n_ValueError
  have e_NoFit := xfs.e_NoFit
  have e_TooMany := xfs.e_TooMany
  have e_NoWidth := xfs.e_NoWidth
  have e_NoRow := xfs.e_NoRow
  have e_NoName := xfs.e_NoName
  have in_Nought := xfs.in_Nought
  have bs_JoinError := xfs.bs_JoinError
  have in_Bare := xfs.in_Bare
  have in_Loose := xfs.in_Loose
  have in_Leans := xfs.in_Leans
  have in_NoText := xfs.in_NoText
  have in_NoAnswer := xfs.in_NoAnswer
  have i_NoFit := xfs.i_NoFit
  have k_NoFit_NoFit := xfs.k_NoFit_NoFit
  have k_NoFit_TooMany := xfs.k_NoFit_TooMany
  have k_NoFit_NoWidth := xfs.k_NoFit_NoWidth
  have k_NoFit_NoRow := xfs.k_NoFit_NoRow
  have k_NoFit_NoName := xfs.k_NoFit_NoName
  have k_NoFit_Nought := xfs.k_NoFit_Nought
  have k_NoFit_Bare := xfs.k_NoFit_Bare
  have k_NoFit_Loose := xfs.k_NoFit_Loose
  have k_NoFit_Leans := xfs.k_NoFit_Leans
  have k_NoFit_NoText := xfs.k_NoFit_NoText
  have k_NoFit_NoAnswer := xfs.k_NoFit_NoAnswer
  have i_TooMany := xfs.i_TooMany
  have k_TooMany_NoFit := xfs.k_TooMany_NoFit
  have k_TooMany_TooMany := xfs.k_TooMany_TooMany
  have k_TooMany_NoWidth := xfs.k_TooMany_NoWidth
  have k_TooMany_NoRow := xfs.k_TooMany_NoRow
  have k_TooMany_NoName := xfs.k_TooMany_NoName
  have k_TooMany_Nought := xfs.k_TooMany_Nought
  have k_TooMany_Bare := xfs.k_TooMany_Bare
  have k_TooMany_Loose := xfs.k_TooMany_Loose
  have k_TooMany_Leans := xfs.k_TooMany_Leans
  have k_TooMany_NoText := xfs.k_TooMany_NoText
  have k_TooMany_NoAnswer := xfs.k_TooMany_NoAnswer
  have i_NoWidth := xfs.i_NoWidth
  have k_NoWidth_NoFit := xfs.k_NoWidth_NoFit
  have k_NoWidth_TooMany := xfs.k_NoWidth_TooMany
  have k_NoWidth_NoWidth := xfs.k_NoWidth_NoWidth
  have k_NoWidth_NoRow := xfs.k_NoWidth_NoRow
  have k_NoWidth_NoName := xfs.k_NoWidth_NoName
  have k_NoWidth_Nought := xfs.k_NoWidth_Nought
  have k_NoWidth_Bare := xfs.k_NoWidth_Bare
  have k_NoWidth_Loose := xfs.k_NoWidth_Loose
  have k_NoWidth_Leans := xfs.k_NoWidth_Leans
  have k_NoWidth_NoText := xfs.k_NoWidth_NoText
  have k_NoWidth_NoAnswer := xfs.k_NoWidth_NoAnswer
  have i_NoRow := xfs.i_NoRow
  have k_NoRow_NoFit := xfs.k_NoRow_NoFit
  have k_NoRow_TooMany := xfs.k_NoRow_TooMany
  have k_NoRow_NoWidth := xfs.k_NoRow_NoWidth
  have k_NoRow_NoRow := xfs.k_NoRow_NoRow
  have k_NoRow_NoName := xfs.k_NoRow_NoName
  have k_NoRow_Nought := xfs.k_NoRow_Nought
  have k_NoRow_Bare := xfs.k_NoRow_Bare
  have k_NoRow_Loose := xfs.k_NoRow_Loose
  have k_NoRow_Leans := xfs.k_NoRow_Leans
  have k_NoRow_NoText := xfs.k_NoRow_NoText
  have k_NoRow_NoAnswer := xfs.k_NoRow_NoAnswer
  have i_NoName := xfs.i_NoName
  have k_NoName_NoFit := xfs.k_NoName_NoFit
  have k_NoName_TooMany := xfs.k_NoName_TooMany
  have k_NoName_NoWidth := xfs.k_NoName_NoWidth
  have k_NoName_NoRow := xfs.k_NoName_NoRow
  have k_NoName_NoName := xfs.k_NoName_NoName
  have k_NoName_Nought := xfs.k_NoName_Nought
  have k_NoName_Bare := xfs.k_NoName_Bare
  have k_NoName_Loose := xfs.k_NoName_Loose
  have k_NoName_Leans := xfs.k_NoName_Leans
  have k_NoName_NoText := xfs.k_NoName_NoText
  have k_NoName_NoAnswer := xfs.k_NoName_NoAnswer
  have i_Nought := xfs.i_Nought
  have k_Nought_NoFit := xfs.k_Nought_NoFit
  have k_Nought_TooMany := xfs.k_Nought_TooMany
  have k_Nought_NoWidth := xfs.k_Nought_NoWidth
  have k_Nought_NoRow := xfs.k_Nought_NoRow
  have k_Nought_NoName := xfs.k_Nought_NoName
  have k_Nought_Nought := xfs.k_Nought_Nought
  have k_Nought_Bare := xfs.k_Nought_Bare
  have k_Nought_Loose := xfs.k_Nought_Loose
  have k_Nought_Leans := xfs.k_Nought_Leans
  have k_Nought_NoText := xfs.k_Nought_NoText
  have k_Nought_NoAnswer := xfs.k_Nought_NoAnswer
  have i_Bare := xfs.i_Bare
  have k_Bare_NoFit := xfs.k_Bare_NoFit
  have k_Bare_TooMany := xfs.k_Bare_TooMany
  have k_Bare_NoWidth := xfs.k_Bare_NoWidth
  have k_Bare_NoRow := xfs.k_Bare_NoRow
  have k_Bare_NoName := xfs.k_Bare_NoName
  have k_Bare_Nought := xfs.k_Bare_Nought
  have k_Bare_Bare := xfs.k_Bare_Bare
  have k_Bare_Loose := xfs.k_Bare_Loose
  have k_Bare_Leans := xfs.k_Bare_Leans
  have k_Bare_NoText := xfs.k_Bare_NoText
  have k_Bare_NoAnswer := xfs.k_Bare_NoAnswer
  have i_Loose := xfs.i_Loose
  have k_Loose_NoFit := xfs.k_Loose_NoFit
  have k_Loose_TooMany := xfs.k_Loose_TooMany
  have k_Loose_NoWidth := xfs.k_Loose_NoWidth
  have k_Loose_NoRow := xfs.k_Loose_NoRow
  have k_Loose_NoName := xfs.k_Loose_NoName
  have k_Loose_Nought := xfs.k_Loose_Nought
  have k_Loose_Bare := xfs.k_Loose_Bare
  have k_Loose_Loose := xfs.k_Loose_Loose
  have k_Loose_Leans := xfs.k_Loose_Leans
  have k_Loose_NoText := xfs.k_Loose_NoText
  have k_Loose_NoAnswer := xfs.k_Loose_NoAnswer
  have i_Leans := xfs.i_Leans
  have k_Leans_NoFit := xfs.k_Leans_NoFit
  have k_Leans_TooMany := xfs.k_Leans_TooMany
  have k_Leans_NoWidth := xfs.k_Leans_NoWidth
  have k_Leans_NoRow := xfs.k_Leans_NoRow
  have k_Leans_NoName := xfs.k_Leans_NoName
  have k_Leans_Nought := xfs.k_Leans_Nought
  have k_Leans_Bare := xfs.k_Leans_Bare
  have k_Leans_Loose := xfs.k_Leans_Loose
  have k_Leans_Leans := xfs.k_Leans_Leans
  have k_Leans_NoText := xfs.k_Leans_NoText
  have k_Leans_NoAnswer := xfs.k_Leans_NoAnswer
  have i_NoText := xfs.i_NoText
  have k_NoText_NoFit := xfs.k_NoText_NoFit
  have k_NoText_TooMany := xfs.k_NoText_TooMany
  have k_NoText_NoWidth := xfs.k_NoText_NoWidth
  have k_NoText_NoRow := xfs.k_NoText_NoRow
  have k_NoText_NoName := xfs.k_NoText_NoName
  have k_NoText_Nought := xfs.k_NoText_Nought
  have k_NoText_Bare := xfs.k_NoText_Bare
  have k_NoText_Loose := xfs.k_NoText_Loose
  have k_NoText_Leans := xfs.k_NoText_Leans
  have k_NoText_NoText := xfs.k_NoText_NoText
  have k_NoText_NoAnswer := xfs.k_NoText_NoAnswer
  have i_NoAnswer := xfs.i_NoAnswer
  have k_NoAnswer_NoFit := xfs.k_NoAnswer_NoFit
  have k_NoAnswer_TooMany := xfs.k_NoAnswer_TooMany
  have k_NoAnswer_NoWidth := xfs.k_NoAnswer_NoWidth
  have k_NoAnswer_NoRow := xfs.k_NoAnswer_NoRow
  have k_NoAnswer_NoName := xfs.k_NoAnswer_NoName
  have k_NoAnswer_Nought := xfs.k_NoAnswer_Nought
  have k_NoAnswer_Bare := xfs.k_NoAnswer_Bare
  have k_NoAnswer_Loose := xfs.k_NoAnswer_Loose
  have k_NoAnswer_Leans := xfs.k_NoAnswer_Leans
  have k_NoAnswer_NoText := xfs.k_NoAnswer_NoText
  have k_NoAnswer_NoAnswer := xfs.k_NoAnswer_NoAnswer
  have g_NoAnswer := xfs.g_NoAnswer
  have g_Nought := xfs.g_Nought
  have g_Bare := xfs.g_Bare
  have g_Loose := xfs.g_Loose
  have g_Leans := xfs.g_Leans
  have g_NoText := xfs.g_NoText
  have k_NoFit_JoinError := xfs.k_NoFit_JoinError
  have k_NoFit_ValueError := xfs.k_NoFit_ValueError
  have k_TooMany_JoinError := xfs.k_TooMany_JoinError
  have k_TooMany_ValueError := xfs.k_TooMany_ValueError
  have k_NoWidth_JoinError := xfs.k_NoWidth_JoinError
  have k_NoWidth_ValueError := xfs.k_NoWidth_ValueError
  have k_NoRow_JoinError := xfs.k_NoRow_JoinError
  have k_NoRow_ValueError := xfs.k_NoRow_ValueError
  have k_NoName_JoinError := xfs.k_NoName_JoinError
  have k_NoName_ValueError := xfs.k_NoName_ValueError
  have k_Nought_JoinError := xfs.k_Nought_JoinError
  have k_Nought_ValueError := xfs.k_Nought_ValueError
  have k_Bare_JoinError := xfs.k_Bare_JoinError
  have k_Bare_ValueError := xfs.k_Bare_ValueError
  have k_Loose_JoinError := xfs.k_Loose_JoinError
  have k_Loose_ValueError := xfs.k_Loose_ValueError
  have k_Leans_JoinError := xfs.k_Leans_JoinError
  have k_Leans_ValueError := xfs.k_Leans_ValueError
  have k_NoText_JoinError := xfs.k_NoText_JoinError
  have k_NoText_ValueError := xfs.k_NoText_ValueError
  have k_NoAnswer_JoinError := xfs.k_NoAnswer_JoinError
  have k_NoAnswer_ValueError := xfs.k_NoAnswer_ValueError
  exact
  have g_law_tape := ok_law_tape d_law_tape B
  have g_law_draw := ok_law_draw d_law_draw B
  have g_law_made := ok_law_made m_NoFit e_NoFit m_TooMany e_TooMany m_NoWidth e_NoWidth m_NoRow e_NoRow m_NoName e_NoName m_Nought m_JoinError in_Nought bs_JoinError m_Bare in_Bare m_Loose in_Loose m_Leans in_Leans m_NoText in_NoText m_NoAnswer in_NoAnswer d_law_made B
  have g_law_kinds := ok_law_kinds m_NoFit m_TooMany m_NoWidth m_NoRow m_NoName m_Nought m_Bare m_Loose m_Leans m_NoText m_NoAnswer i_NoFit k_NoFit_NoFit k_NoFit_TooMany k_NoFit_NoWidth k_NoFit_NoRow k_NoFit_NoName k_NoFit_Nought k_NoFit_Bare k_NoFit_Loose k_NoFit_Leans k_NoFit_NoText k_NoFit_NoAnswer i_TooMany k_TooMany_NoFit k_TooMany_TooMany k_TooMany_NoWidth k_TooMany_NoRow k_TooMany_NoName k_TooMany_Nought k_TooMany_Bare k_TooMany_Loose k_TooMany_Leans k_TooMany_NoText k_TooMany_NoAnswer i_NoWidth k_NoWidth_NoFit k_NoWidth_TooMany k_NoWidth_NoWidth k_NoWidth_NoRow k_NoWidth_NoName k_NoWidth_Nought k_NoWidth_Bare k_NoWidth_Loose k_NoWidth_Leans k_NoWidth_NoText k_NoWidth_NoAnswer i_NoRow k_NoRow_NoFit k_NoRow_TooMany k_NoRow_NoWidth k_NoRow_NoRow k_NoRow_NoName k_NoRow_Nought k_NoRow_Bare k_NoRow_Loose k_NoRow_Leans k_NoRow_NoText k_NoRow_NoAnswer i_NoName k_NoName_NoFit k_NoName_TooMany k_NoName_NoWidth k_NoName_NoRow k_NoName_NoName k_NoName_Nought k_NoName_Bare k_NoName_Loose k_NoName_Leans k_NoName_NoText k_NoName_NoAnswer i_Nought k_Nought_NoFit k_Nought_TooMany k_Nought_NoWidth k_Nought_NoRow k_Nought_NoName k_Nought_Nought k_Nought_Bare k_Nought_Loose k_Nought_Leans k_Nought_NoText k_Nought_NoAnswer i_Bare k_Bare_NoFit k_Bare_TooMany k_Bare_NoWidth k_Bare_NoRow k_Bare_NoName k_Bare_Nought k_Bare_Bare k_Bare_Loose k_Bare_Leans k_Bare_NoText k_Bare_NoAnswer i_Loose k_Loose_NoFit k_Loose_TooMany k_Loose_NoWidth k_Loose_NoRow k_Loose_NoName k_Loose_Nought k_Loose_Bare k_Loose_Loose k_Loose_Leans k_Loose_NoText k_Loose_NoAnswer i_Leans k_Leans_NoFit k_Leans_TooMany k_Leans_NoWidth k_Leans_NoRow k_Leans_NoName k_Leans_Nought k_Leans_Bare k_Leans_Loose k_Leans_Leans k_Leans_NoText k_Leans_NoAnswer i_NoText k_NoText_NoFit k_NoText_TooMany k_NoText_NoWidth k_NoText_NoRow k_NoText_NoName k_NoText_Nought k_NoText_Bare k_NoText_Loose k_NoText_Leans k_NoText_NoText k_NoText_NoAnswer i_NoAnswer k_NoAnswer_NoFit k_NoAnswer_TooMany k_NoAnswer_NoWidth k_NoAnswer_NoRow k_NoAnswer_NoName k_NoAnswer_Nought k_NoAnswer_Bare k_NoAnswer_Loose k_NoAnswer_Leans k_NoAnswer_NoText k_NoAnswer_NoAnswer d_law_kinds B
  have g_law := ok_law m_JoinError n_ValueError g_NoAnswer g_Nought g_Bare g_Loose g_Leans g_NoText i_NoFit k_NoFit_JoinError k_NoFit_ValueError i_TooMany k_TooMany_JoinError k_TooMany_ValueError i_NoWidth k_NoWidth_JoinError k_NoWidth_ValueError i_NoRow k_NoRow_JoinError k_NoRow_ValueError i_NoName k_NoName_JoinError k_NoName_ValueError i_Nought k_Nought_JoinError k_Nought_ValueError i_Bare k_Bare_JoinError k_Bare_ValueError i_Loose k_Loose_JoinError k_Loose_ValueError i_Leans k_Leans_JoinError k_Leans_ValueError i_NoText k_NoText_JoinError k_NoText_ValueError i_NoAnswer k_NoAnswer_JoinError k_NoAnswer_ValueError d_law B g_law_tape g_law_draw g_law_made g_law_kinds
  law_of g_law
end
end K17
def PySem.W.Fast.tw15963397590494305072 : Unit := ()
def PySem.W.Fast.tw7593430647629336950 : Unit := ()
def PySem.W.Fast.tw1559929647292084227 : Unit := ()
def PySem.W.Fast.tw6708023725335684762 : Unit := ()
def PySem.W.Fast.tw17080437630852137507 : Unit := ()
def PySem.W.Fast.tw9333572222906165336 : Unit := ()
def PySem.W.Fast.tw549044967190594706 : Unit := ()
def PySem.W.Fast.tw1297271013719811023 : Unit := ()
def PySem.W.Fast.tw13053992789035896912 : Unit := ()
def PySem.W.Fast.tw4827306969742228209 : Unit := ()
def PySem.W.Fast.tw2231749467057983598 : Unit := ()
def PySem.W.Fast.tw606805736346575580 : Unit := ()
def PySem.W.Fast.tw8137610058339495028 : Unit := ()
def PySem.W.Fast.tw1127851353866217324 : Unit := ()
def PySem.W.Fast.tw9986520563335833265 : Unit := ()
def PySem.W.Fast.tw2885929278360515029 : Unit := ()
def PySem.W.Fast.tw14585465128108897826 : Unit := ()
def PySem.W.Fast.tw5897246538823573040 : Unit := ()
def PySem.W.Fast.tw4494671289090579056 : Unit := ()
def PySem.W.Fast.tw4674594848201950812 : Unit := ()
def PySem.W.Fast.tw17662192496711994261 : Unit := ()
def PySem.W.Fast.tw523332820992689820 : Unit := ()
def PySem.W.Fast.tw11395702388582408966 : Unit := ()
def PySem.W.Fast.tw4347813749256204745 : Unit := ()
def PySem.W.Fast.tw8560933892052305603 : Unit := ()
def PySem.W.Fast.tw3523588955118961330 : Unit := ()
def PySem.W.Fast.tw13162831951990533299 : Unit := ()
def PySem.W.Fast.tw16065553236937843110 : Unit := ()
def PySem.W.Fast.tw744555048719949936 : Unit := ()
def PySem.W.Fast.tw6071543021416796606 : Unit := ()
def PySem.W.Fast.tw10561618675186485452 : Unit := ()
def PySem.W.Fast.tw6282867910188436485 : Unit := ()
def PySem.W.Fast.tw3620946155614607643 : Unit := ()
def PySem.W.Fast.tw5987881526587888734 : Unit := ()
def PySem.W.Fast.tw14744617154656225973 : Unit := ()
def PySem.W.Fast.tw663171217773169327 : Unit := ()
def PySem.W.Fast.tw4928953554684408367 : Unit := ()
def PySem.W.Fast.tw8378256937623185699 : Unit := ()
def PySem.W.Fast.tw5019794559922710355 : Unit := ()
def PySem.W.Fast.tw11607784416333102405 : Unit := ()
def PySem.W.Fast.tw11366975795466347301 : Unit := ()
def PySem.W.Fast.tw4311932204386244493 : Unit := ()
def PySem.W.Fast.tw11917880684331794205 : Unit := ()
def PySem.W.Fast.tw4639582989755544515 : Unit := ()
def PySem.W.Fast.tw17850260690281070370 : Unit := ()
def PySem.W.Fast.tw8599233682912394623 : Unit := ()
def PySem.W.Fast.tw921176378359977699 : Unit := ()
def PySem.W.Fast.tw2507736867742653799 : Unit := ()
def PySem.W.Fast.tw453549453349838866 : Unit := ()
def PySem.W.Fast.tw2087448522391564145 : Unit := ()
def PySem.W.Fast.tw5900298749375473775 : Unit := ()
def PySem.W.Fast.tw15515208645622492144 : Unit := ()
def PySem.W.Fast.tw509096381741750488 : Unit := ()
def PySem.W.Fast.tw4097212849740507294 : Unit := ()
def PySem.W.Fast.tw11247949635469926718 : Unit := ()
def PySem.W.Fast.tw8269402238419448418 : Unit := ()
def PySem.W.Fast.tw9270526000904528078 : Unit := ()
def PySem.W.Fast.tw88379858135009423 : Unit := ()
def PySem.W.Fast.tw17968212371910372455 : Unit := ()
def PySem.W.Fast.tw16372143995772083317 : Unit := ()
def PySem.W.Fast.tw1588724509951654149 : Unit := ()
def PySem.W.Fast.tw7409469767434653817 : Unit := ()
def PySem.W.Fast.tw12784501966362572891 : Unit := ()
def PySem.W.Fast.tw6216841371944104022 : Unit := ()
def PySem.W.Fast.tw11637746086901223426 : Unit := ()
def PySem.W.Fast.tw10316829059752519774 : Unit := ()
def PySem.W.Fast.tw10194780903328087866 : Unit := ()
def PySem.W.Fast.tw13102486216395376342 : Unit := ()
def PySem.W.Fast.tw6657430067346046095 : Unit := ()
def PySem.W.Fast.tw1669826950925095850 : Unit := ()
def PySem.W.Fast.tw13353475720008680056 : Unit := ()
def PySem.W.Fast.tw7407337762834606191 : Unit := ()
def PySem.W.Fast.tw5467317840499435520 : Unit := ()
def PySem.W.Fast.tw10573351213387693246 : Unit := ()
def PySem.W.Fast.tw5462744873230022819 : Unit := ()
def PySem.W.Fast.tw7883486798554882985 : Unit := ()
def PySem.W.Fast.tw10971374204192167368 : Unit := ()
def PySem.W.Fast.tw2635333918337358747 : Unit := ()
def PySem.W.Fast.tw7031991058332695467 : Unit := ()
def PySem.W.Fast.tw11945197636722215633 : Unit := ()
def PySem.W.Fast.tw15765902610117340194 : Unit := ()
def PySem.W.Fast.tw2759463073033554529 : Unit := ()
def PySem.W.Fast.tw3150530875194495503 : Unit := ()
def PySem.W.Fast.tw11830798273867180427 : Unit := ()
def PySem.W.Fast.tw10788084517796003727 : Unit := ()
def PySem.W.Fast.tw11146121238602263163 : Unit := ()
def PySem.W.Fast.tw15628408679984411519 : Unit := ()
def PySem.W.Fast.tw3095594146327468582 : Unit := ()
def PySem.W.Fast.tw5074032090077123072 : Unit := ()
def PySem.W.Fast.tw8897768802629553758 : Unit := ()
def PySem.W.Fast.tw7526534199273055552 : Unit := ()
def PySem.W.Fast.tw9575145028501565717 : Unit := ()
def PySem.W.Fast.tw9711457458866373141 : Unit := ()
def PySem.W.Fast.tw14129316592454965973 : Unit := ()
def PySem.W.Fast.tw5745552657202851877 : Unit := ()
def PySem.W.Fast.tw5841819558638295565 : Unit := ()
def PySem.W.Fast.tw8655914275215075385 : Unit := ()
def PySem.W.Fast.tw5107744930070664760 : Unit := ()
def PySem.W.Fast.tw15092818195141796290 : Unit := ()
def PySem.W.Fast.tw1453673568275538219 : Unit := ()
def PySem.W.Fast.tw9413201365744562718 : Unit := ()
def PySem.W.Fast.tw15746061585308811936 : Unit := ()
def PySem.W.Fast.tw17612334744860278549 : Unit := ()
def PySem.W.Fast.tw16268339747519411224 : Unit := ()
def PySem.W.Fast.tw8118864721770053298 : Unit := ()
def PySem.W.Fast.tw2839828328449624484 : Unit := ()
def PySem.W.Fast.tw13493222886399332274 : Unit := ()
def PySem.W.Fast.tw11543715075838419259 : Unit := ()
def PySem.W.Fast.tw4879205989065839236 : Unit := ()
def PySem.W.Fast.tw2792645067607007380 : Unit := ()
def PySem.W.Fast.tw15795299254351324859 : Unit := ()
def PySem.W.Fast.tw14843740786136812035 : Unit := ()
def PySem.W.Fast.tw3190463696044121906 : Unit := ()
def PySem.W.Fast.tw17551262756851811946 : Unit := ()
def PySem.W.Fast.tw12263517037372531282 : Unit := ()
def PySem.W.Fast.tw10648892106815730094 : Unit := ()
def PySem.W.Fast.tw2593406412083181659 : Unit := ()
def PySem.W.Fast.tw5655316620762135994 : Unit := ()
def PySem.W.Fast.tw11024915893813756010 : Unit := ()
def PySem.W.Fast.tw17332959930585412862 : Unit := ()
def PySem.W.Fast.tw12183642946019551220 : Unit := ()
def PySem.W.Fast.tw15461388658544012155 : Unit := ()
def PySem.W.Fast.tw17328930489067655732 : Unit := ()
def PySem.W.Fast.tw8634716964886655886 : Unit := ()
def PySem.W.Fast.tw14715131831011380149 : Unit := ()
def PySem.W.Fast.tw14893937968220129603 : Unit := ()
def PySem.W.Fast.tw1478252998903090306 : Unit := ()
def PySem.W.Fast.tw17459359060428726703 : Unit := ()
def PySem.W.Fast.tw15736015149007230880 : Unit := ()
def PySem.W.Fast.tw2143838174373217769 : Unit := ()
def PySem.W.Fast.tw11322331995727800395 : Unit := ()
def PySem.W.Fast.tw18274515365860973260 : Unit := ()
def PySem.W.Fast.tw14808519570052023679 : Unit := ()
def PySem.W.Fast.tw13516155301455307098 : Unit := ()
def PySem.W.Fast.tw1463234980444436851 : Unit := ()
def PySem.W.Fast.tw12090609919774898644 : Unit := ()
def PySem.W.Fast.tw16015301388260475034 : Unit := ()
def PySem.W.Fast.tw4759923273030406043 : Unit := ()
def PySem.W.Fast.tw10440220112726332264 : Unit := ()
def PySem.W.Fast.tw1765319871321954333 : Unit := ()
def PySem.W.Fast.tw7229026953918120605 : Unit := ()
def PySem.W.Fast.tw9377209825727922851 : Unit := ()
def PySem.W.Fast.tw16686181816921875191 : Unit := ()
def PySem.W.Fast.tw8861377784090916329 : Unit := ()
def PySem.W.Fast.tw12265896006084683025 : Unit := ()
def PySem.W.Fast.tw2182895595447847555 : Unit := ()
def PySem.W.Fast.tw5626562166355051614 : Unit := ()
def PySem.W.Fast.tw6665251731614372939 : Unit := ()
def PySem.W.Fast.tw16592473886257037554 : Unit := ()
def PySem.W.Fast.tw13543247938149852427 : Unit := ()
def PySem.W.Fast.tw18426527748056092368 : Unit := ()
def PySem.W.Fast.tw11542017759239940073 : Unit := ()
def PySem.W.Fast.tw7115847118321953743 : Unit := ()
def PySem.W.Fast.tw2931981430320635058 : Unit := ()
def PySem.W.Fast.tw5020340749713767585 : Unit := ()
def PySem.W.Fast.tw3494801477064772442 : Unit := ()
def PySem.W.Fast.tw9051345564007467116 : Unit := ()
def PySem.W.Fast.tw11843424655957164092 : Unit := ()
def PySem.W.Fast.tw994004150459131606 : Unit := ()
def PySem.W.Fast.tw1095714802143261264 : Unit := ()
def PySem.W.Fast.tw7629622942864500238 : Unit := ()
def PySem.W.Fast.tw729431816222126961 : Unit := ()
def PySem.W.Fast.tw8648085850273137038 : Unit := ()
def PySem.W.Fast.tw9940353201168344930 : Unit := ()
def PySem.W.Fast.tw11391348775251348890 : Unit := ()
def PySem.W.Fast.tw4519266583244847386 : Unit := ()
def PySem.W.Fast.tw6198778607477609411 : Unit := ()
def PySem.W.Fast.tw1823333013289070849 : Unit := ()
def PySem.W.Fast.tw17260969463836856573 : Unit := ()
def PySem.W.Fast.tw12291774756981195159 : Unit := ()
def PySem.W.Fast.tw10652828314741814750 : Unit := ()
def PySem.W.Fast.tw135617607794952533 : Unit := ()
def PySem.W.Fast.tw10372851081346074053 : Unit := ()
def PySem.W.Fast.tw12069664626276494572 : Unit := ()
def PySem.W.Fast.tw8395395652102575079 : Unit := ()
def PySem.W.Fast.tw1848999360241507139 : Unit := ()
def PySem.W.Fast.tw7623731930273150323 : Unit := ()
def PySem.W.Fast.tw9791762379683626389 : Unit := ()
def PySem.W.Fast.tw16002644532181721341 : Unit := ()
def PySem.W.Fast.tw14764906356279639953 : Unit := ()
def PySem.W.Fast.tw17348960550653512445 : Unit := ()
def PySem.W.Fast.tw18287261480460974544 : Unit := ()
def PySem.W.Fast.tw748530747843666387 : Unit := ()
def PySem.W.Fast.tw14381401860393945233 : Unit := ()
def PySem.W.Fast.tw6170355684127124506 : Unit := ()
def PySem.W.Fast.tw18311914663417308449 : Unit := ()
def PySem.W.Fast.tw4750857581630095504 : Unit := ()
def PySem.W.Fast.tw6006084626183654180 : Unit := ()
def PySem.W.Fast.tw15170017997075420810 : Unit := ()
def PySem.W.Fast.tw12699753128147002724 : Unit := ()
def PySem.W.Fast.tw14821117840676204308 : Unit := ()
def PySem.W.Fast.tw286856125037518858 : Unit := ()
def PySem.W.Fast.tw10014070779531551369 : Unit := ()
def PySem.W.Fast.tw1713410851434808616 : Unit := ()
def PySem.W.Fast.tw5276184498080445764 : Unit := ()
def PySem.W.Fast.tw4945112172837691099 : Unit := ()
def PySem.W.Fast.tw8952767172401790779 : Unit := ()
def PySem.W.Fast.tw10945999391589788986 : Unit := ()
def PySem.W.Fast.tw8114456792484668469 : Unit := ()
def PySem.W.Fast.tw2190344927421622660 : Unit := ()
def PySem.W.Fast.tw8498917290157153550 : Unit := ()
def PySem.W.Fast.tw3620725849739481219 : Unit := ()
def PySem.W.Fast.tw7122025664938358961 : Unit := ()
def PySem.W.Fast.tw17128206272997134438 : Unit := ()
def PySem.W.Fast.tw1386025699725858437 : Unit := ()
def PySem.W.Fast.tw4676447346722334277 : Unit := ()
def PySem.W.Fast.tw4910119942030353473 : Unit := ()
def PySem.W.Fast.tw7761514520664559414 : Unit := ()
def PySem.W.Fast.tw6711748409469913196 : Unit := ()
def PySem.W.Fast.tw10761947528116243069 : Unit := ()
def PySem.W.Fast.tw8492768983770269030 : Unit := ()
def PySem.W.Fast.tw1574307048355562140 : Unit := ()
def PySem.W.Fast.tw6674659058040157152 : Unit := ()
def PySem.W.Fast.tw5215494332902060121 : Unit := ()
def PySem.W.Fast.tw9934471755958152962 : Unit := ()
def PySem.W.Fast.tw10716512020431298917 : Unit := ()
def PySem.W.Fast.tw18197840626067229378 : Unit := ()
def PySem.W.Fast.tw3870289792252109240 : Unit := ()
def PySem.W.Fast.tw2394977633509307511 : Unit := ()
def PySem.W.Fast.tw16842187904599861596 : Unit := ()
def PySem.W.Fast.tw12390450670132897404 : Unit := ()
def PySem.W.Fast.tw10403113502978086155 : Unit := ()
def PySem.W.Fast.tw15641879856206385784 : Unit := ()
def PySem.W.Fast.tw4755490066977365081 : Unit := ()
def PySem.W.Fast.tw12855110072336662566 : Unit := ()
def PySem.W.Fast.tw5857904869355434347 : Unit := ()
def PySem.W.Fast.tw15173099226367944713 : Unit := ()
def PySem.W.Fast.tw14625135859544123828 : Unit := ()
def PySem.W.Fast.tw7201916043009722761 : Unit := ()
def PySem.W.Fast.tw2888341759877213261 : Unit := ()
def PySem.W.Fast.tw17512599353664651649 : Unit := ()
def PySem.W.Fast.tw12941002152227016992 : Unit := ()
def PySem.W.Fast.tw16280899741491322218 : Unit := ()
def PySem.W.Fast.tw916646855304886108 : Unit := ()
def PySem.W.Fast.tw16260477651448914701 : Unit := ()
def PySem.W.Fast.tw1483798650799784017 : Unit := ()
def PySem.W.Fast.tw15661729738484010815 : Unit := ()
def PySem.W.Fast.tw15765136856402924471 : Unit := ()
def PySem.W.Fast.tw9969388940826669183 : Unit := ()
def PySem.W.Fast.tw17061224851579044239 : Unit := ()
def PySem.W.Fast.tw8158944455971233620 : Unit := ()
def PySem.W.Fast.tw4741602001771657808 : Unit := ()
def PySem.W.Fast.tw10324434379203890799 : Unit := ()
def PySem.W.Fast.tw17582806025246986002 : Unit := ()
def PySem.W.Fast.tw2375696503518832144 : Unit := ()
def PySem.W.Fast.tw16789376773988326556 : Unit := ()
def PySem.W.Fast.tw5118788448069585362 : Unit := ()
def PySem.W.Fast.tw3111613903194074287 : Unit := ()
def PySem.W.Fast.tw16527583396846004888 : Unit := ()
def PySem.W.Fast.tw12857778224849447859 : Unit := ()
def PySem.W.Fast.tw17253806168766234915 : Unit := ()
def PySem.W.Fast.tw14721668379462054275 : Unit := ()
def PySem.W.Fast.tw3260334907112587821 : Unit := ()
def PySem.W.Fast.tw13341717631938371213 : Unit := ()
def PySem.W.Fast.tw6970614385827958815 : Unit := ()
def PySem.W.Fast.tw10359346108611164310 : Unit := ()
def PySem.W.Fast.tw14371951736049195054 : Unit := ()
def PySem.W.Fast.tw12009129198961875446 : Unit := ()
open PySem PySem.W PyProof.Rows
set_option maxRecDepth 100000 in
set_option maxHeartbeats 0 in
theorem PySem.Challenge.cw_fewjoins_k17_refusals_made_holds : PySem.Challenge.rw_fewjoins_k17_refusals_made.Holds := by
  w_on; o_law; k_head; (case hw => w_witness2)
  k_fill
  refine L2.walk_ofK (l := PySem.Challenge.rw_fewjoins_k17_refusals_made) (n := 63) (k := 4) (x := "_law_script") (CX := L2.CX0) (sp := L2.spLaw) rfl (by decide) rfl ⟨rfl, by decide, by decide⟩ (fun w h Y => PySem.W.kIn_of Y) ?F ?S ?C
  case S => exact fun K H a ns hl hO hS => ⟨a, ns, rfl, hS, hl, fun _ => rfl⟩
  case C => exact fun H s e s' h => h
  case F =>
    intro w mg fa h KX G hmg
    have d_law_tape : L2.DefN (L2.KOf KX) mg "_law_tape" K17.s_law_tape ["_law_script"] := by
      dsimp only [L2.KOf]
      refine' L2.def_mk KX G ?a ?l ?c ?k (fun _ _ _ _ _ _ us hl => match us, hl with | [_], _ => rfl)
      (case a => k_is); (case l => k_is); (case c => k_is); (case k => k_is)
    have d_law_draw : L2.DefN (L2.KOf KX) mg "_law_draw" K17.s_law_draw ["_law_tape_here", "_law_many"] := by
      dsimp only [L2.KOf]
      refine' L2.def_mk KX G ?a ?l ?c ?k (fun _ _ _ _ _ _ us hl => match us, hl with | [_, _], _ => rfl)
      (case a => k_is); (case l => k_is); (case c => k_is); (case k => k_is)
    have d_law_made : L2.DefN (L2.KOf KX) mg "_law_made" K17.s_law_made ["_law_number", "_law_text", "_law_places"] := by
      dsimp only [L2.KOf]
      refine' L2.def_mk KX G ?a ?l ?c ?k (fun _ _ _ _ _ _ us hl => match us, hl with | [_, _, _], _ => rfl)
      (case a => k_is); (case l => k_is); (case c => k_is); (case k => k_is)
    have d_law_kinds : L2.DefN (L2.KOf KX) mg "_law_kinds" K17.s_law_kinds ["_law_e"] := by
      dsimp only [L2.KOf]
      refine' L2.def_mk KX G ?a ?l ?c ?k (fun _ _ _ _ _ _ us hl => match us, hl with | [_], _ => rfl)
      (case a => k_is); (case l => k_is); (case c => k_is); (case k => k_is)
    have d_law : L2.DefN (L2.KOf KX) mg "law" K17.s_law ["_law_script"] := by
      dsimp only [L2.KOf]
      refine' L2.def_mk KX G ?a ?l ?c ?k (fun _ _ _ _ _ _ us hl => match us, hl with | [_], _ => rfl)
      (case a => k_is); (case l => k_is); (case c => k_is); (case k => k_is)
    have B : L2.BI mg := by
      refine' L2.bi_mk KX G ?z_len ?z_range ?z_isinstance ?z_int ?z_bool ?z_list ?z_tuple ?z_str ?z_sum ?z_all ?z_max ?z_min ?z_sorted ?z_set ?z_zip ?z_enumerate ?z_reversed ?z_dict ?z_any ?z_abs
      (case z_len => k_is); (case z_range => k_is); (case z_isinstance => k_is); (case z_int => k_is); (case z_bool => k_is); (case z_list => k_is); (case z_tuple => k_is); (case z_str => k_is); (case z_sum => k_is); (case z_all => k_is); (case z_max => k_is); (case z_min => k_is); (case z_sorted => k_is); (case z_set => k_is); (case z_zip => k_is); (case z_enumerate => k_is); (case z_reversed => k_is); (case z_dict => k_is); (case z_any => k_is); (case z_abs => k_is)
    have xf : K17.XF (L2.KOf KX) mg := by
      dsimp only [L2.KOf]
      refine' K17.XF.mk KX G ?f0 ?f1 ?f2 ?f3 ?f4 ?f5 ?f6 ?f7 ?f8 ?f9 ?f10 ?f11 ?f12 ?f13 ?f14 ?f15 ?f16 ?f17 ?f18_0 ?f18_1 ?f18_2 ?f18_3 ?f18_4 ?f18_5 ?f18_6 ?f18_7 ?f19_0 ?f19_1 ?f19_2 ?f20_0 ?f20_1 ?f20_2 ?f20_3 ?f20_4 ?f20_5 ?f20_6 ?f20_7 ?f21_0 ?f21_1 ?f21_2 ?f21_3 ?f21_4 ?f21_5 ?f21_6 ?f21_7 ?f22_0 ?f22_1 ?f22_2 ?f22_3 ?f22_4 ?f22_5 ?f22_6 ?f22_7 ?f23_0 ?f23_1 ?f23_2 ?f23_3 ?f23_4 ?f23_5 ?f23_6 ?f23_7 ?f24_0 ?f24_1 ?f24_2 ?f24_3 ?f24_4 ?f24_5 ?f24_6 ?f24_7 ?f25_0 ?f25_1 ?f25_2 ?f25_3 ?f25_4 ?f25_5 ?f25_6 ?f25_7 ?f26 ?f27 ?f28 ?f29 ?f30 ?f31 ?f32 ?f33 ?f34 ?f35 ?f36 ?f37_0 ?f37_1 ?f37_2 ?f37_3 ?f37_4 ?f37_5 ?f37_6 ?f37_7 ?f38 ?f39 ?f40 ?f41 ?f42 ?f43 ?f44 ?f45 ?f46 ?f47 ?f48 ?f49_0 ?f49_1 ?f49_2 ?f49_3 ?f49_4 ?f49_5 ?f49_6 ?f49_7 ?f50 ?f51 ?f52 ?f53 ?f54 ?f55 ?f56 ?f57 ?f58 ?f59 ?f60 ?f61_0 ?f61_1 ?f61_2 ?f61_3 ?f61_4 ?f61_5 ?f61_6 ?f61_7 ?f62 ?f63 ?f64 ?f65 ?f66 ?f67 ?f68 ?f69 ?f70 ?f71 ?f72 ?f73_0 ?f73_1 ?f73_2 ?f73_3 ?f73_4 ?f73_5 ?f73_6 ?f73_7 ?f74 ?f75 ?f76 ?f77 ?f78 ?f79 ?f80 ?f81 ?f82 ?f83 ?f84 ?f85_0 ?f85_1 ?f85_2 ?f85_3 ?f85_4 ?f85_5 ?f85_6 ?f85_7 ?f86 ?f87 ?f88 ?f89 ?f90 ?f91 ?f92 ?f93 ?f94 ?f95 ?f96 ?f97_0 ?f97_1 ?f97_2 ?f97_3 ?f97_4 ?f97_5 ?f97_6 ?f97_7 ?f98 ?f99 ?f100 ?f101 ?f102 ?f103 ?f104 ?f105 ?f106 ?f107 ?f108 ?f109_0 ?f109_1 ?f109_2 ?f109_3 ?f109_4 ?f109_5 ?f109_6 ?f109_7 ?f110 ?f111 ?f112 ?f113 ?f114 ?f115 ?f116 ?f117 ?f118 ?f119 ?f120 ?f121_0 ?f121_1 ?f121_2 ?f121_3 ?f121_4 ?f121_5 ?f121_6 ?f121_7 ?f122 ?f123 ?f124 ?f125 ?f126 ?f127 ?f128 ?f129 ?f130 ?f131 ?f132 ?f133_0 ?f133_1 ?f133_2 ?f133_3 ?f133_4 ?f133_5 ?f133_6 ?f133_7 ?f134 ?f135 ?f136 ?f137 ?f138 ?f139 ?f140 ?f141 ?f142 ?f143 ?f144 ?f145_0 ?f145_1 ?f145_2 ?f145_3 ?f145_4 ?f145_5 ?f145_6 ?f145_7 ?f146 ?f147 ?f148 ?f149 ?f150 ?f151 ?f152 ?f153 ?f154 ?f155 ?f156 ?f157_0 ?f157_1 ?f157_2 ?f157_3 ?f157_4 ?f157_5 ?f157_6 ?f157_7 ?f157_8 ?f157_9 ?f158_0 ?f158_1 ?f158_2 ?f158_3 ?f158_4 ?f158_5 ?f158_6 ?f158_7 ?f158_8 ?f158_9 ?f159_0 ?f159_1 ?f159_2 ?f159_3 ?f159_4 ?f159_5 ?f159_6 ?f159_7 ?f159_8 ?f159_9 ?f160_0 ?f160_1 ?f160_2 ?f160_3 ?f160_4 ?f160_5 ?f160_6 ?f160_7 ?f160_8 ?f160_9 ?f161_0 ?f161_1 ?f161_2 ?f161_3 ?f161_4 ?f161_5 ?f161_6 ?f161_7 ?f161_8 ?f161_9 ?f162_0 ?f162_1 ?f162_2 ?f162_3 ?f162_4 ?f162_5 ?f162_6 ?f162_7 ?f162_8 ?f162_9 ?f163 ?f164 ?f165 ?f166 ?f167 ?f168 ?f169 ?f170 ?f171 ?f172 ?f173 ?f174 ?f175 ?f176 ?f177 ?f178 ?f179 ?f180 ?f181 ?f182 ?f183 ?f184
      (case f0 => k_is); (case f1 => k_is); (case f2 => k_is); (case f3 => k_is); (case f4 => k_is); (case f5 => k_is); (case f6 => k_is); (case f7 => k_is); (case f8 => k_is); (case f9 => k_is); (case f10 => k_is); (case f11 => k_is); (case f12 => k_is); (case f13 => k_exc); (case f14 => k_exc); (case f15 => k_exc); (case f16 => k_exc); (case f17 => k_exc); (case f18_0 => k_is); (case f18_1 => k_is); (case f18_2 => k_is); (case f18_3 => k_is); (case f18_4 => kernel_rfl); (case f18_5 => k_is); (case f18_6 => k_is); (case f18_7 => k_is); (case f19_0 => k_is); (case f19_1 => k_is); (case f19_2 => k_is); (case f20_0 => k_is); (case f20_1 => k_is); (case f20_2 => k_is); (case f20_3 => k_is); (case f20_4 => kernel_rfl); (case f20_5 => k_is); (case f20_6 => k_is); (case f20_7 => k_is); (case f21_0 => k_is); (case f21_1 => k_is); (case f21_2 => k_is); (case f21_3 => k_is); (case f21_4 => kernel_rfl); (case f21_5 => k_is); (case f21_6 => k_is); (case f21_7 => k_is); (case f22_0 => k_is); (case f22_1 => k_is); (case f22_2 => k_is); (case f22_3 => k_is); (case f22_4 => kernel_rfl); (case f22_5 => k_is); (case f22_6 => k_is); (case f22_7 => k_is); (case f23_0 => k_is); (case f23_1 => k_is); (case f23_2 => k_is); (case f23_3 => k_is); (case f23_4 => kernel_rfl); (case f23_5 => k_is); (case f23_6 => k_is); (case f23_7 => k_is); (case f24_0 => k_is); (case f24_1 => k_is); (case f24_2 => k_is); (case f24_3 => k_is); (case f24_4 => kernel_rfl); (case f24_5 => k_is); (case f24_6 => k_is); (case f24_7 => k_is); (case f25_0 => k_is); (case f25_1 => k_is); (case f25_2 => k_is); (case f25_3 => k_is); (case f25_4 => k_is); (case f25_5 => k_is); (case f25_6 => k_is); (case f25_7 => k_is); (case f26 => kit_is); (case f27 => kit_is); (case f28 => kit_is); (case f29 => kit_is); (case f30 => kit_is); (case f31 => kit_is); (case f32 => kit_is); (case f33 => kit_is); (case f34 => kit_is); (case f35 => kit_is); (case f36 => kit_is); (case f37_0 => k_is); (case f37_1 => k_is); (case f37_2 => k_is); (case f37_3 => k_is); (case f37_4 => k_is); (case f37_5 => k_is); (case f37_6 => k_is); (case f37_7 => k_is); (case f38 => kit_is); (case f39 => kit_is); (case f40 => kit_is); (case f41 => kit_is); (case f42 => kit_is); (case f43 => kit_is); (case f44 => kit_is); (case f45 => kit_is); (case f46 => kit_is); (case f47 => kit_is); (case f48 => kit_is); (case f49_0 => k_is); (case f49_1 => k_is); (case f49_2 => k_is); (case f49_3 => k_is); (case f49_4 => k_is); (case f49_5 => k_is); (case f49_6 => k_is); (case f49_7 => k_is); (case f50 => kit_is); (case f51 => kit_is); (case f52 => kit_is); (case f53 => kit_is); (case f54 => kit_is); (case f55 => kit_is); (case f56 => kit_is); (case f57 => kit_is); (case f58 => kit_is); (case f59 => kit_is); (case f60 => kit_is); (case f61_0 => k_is); (case f61_1 => k_is); (case f61_2 => k_is); (case f61_3 => k_is); (case f61_4 => k_is); (case f61_5 => k_is); (case f61_6 => k_is); (case f61_7 => k_is); (case f62 => kit_is); (case f63 => kit_is); (case f64 => kit_is); (case f65 => kit_is); (case f66 => kit_is); (case f67 => kit_is); (case f68 => kit_is); (case f69 => kit_is); (case f70 => kit_is); (case f71 => kit_is); (case f72 => kit_is); (case f73_0 => k_is); (case f73_1 => k_is); (case f73_2 => k_is); (case f73_3 => k_is); (case f73_4 => k_is); (case f73_5 => k_is); (case f73_6 => k_is); (case f73_7 => k_is); (case f74 => kit_is); (case f75 => kit_is); (case f76 => kit_is); (case f77 => kit_is); (case f78 => kit_is); (case f79 => kit_is); (case f80 => kit_is); (case f81 => kit_is); (case f82 => kit_is); (case f83 => kit_is); (case f84 => kit_is); (case f85_0 => k_is); (case f85_1 => k_is); (case f85_2 => k_is); (case f85_3 => k_is); (case f85_4 => k_is); (case f85_5 => k_is); (case f85_6 => k_is); (case f85_7 => k_is); (case f86 => kit_is); (case f87 => kit_is); (case f88 => kit_is); (case f89 => kit_is); (case f90 => kit_is); (case f91 => kit_is); (case f92 => kit_is); (case f93 => kit_is); (case f94 => kit_is); (case f95 => kit_is); (case f96 => kit_is); (case f97_0 => k_is); (case f97_1 => k_is); (case f97_2 => k_is); (case f97_3 => k_is); (case f97_4 => k_is); (case f97_5 => k_is); (case f97_6 => k_is); (case f97_7 => k_is); (case f98 => kit_is); (case f99 => kit_is); (case f100 => kit_is); (case f101 => kit_is); (case f102 => kit_is); (case f103 => kit_is); (case f104 => kit_is); (case f105 => kit_is); (case f106 => kit_is); (case f107 => kit_is); (case f108 => kit_is); (case f109_0 => k_is); (case f109_1 => k_is); (case f109_2 => k_is); (case f109_3 => k_is); (case f109_4 => k_is); (case f109_5 => k_is); (case f109_6 => k_is); (case f109_7 => k_is); (case f110 => kit_is); (case f111 => kit_is); (case f112 => kit_is); (case f113 => kit_is); (case f114 => kit_is); (case f115 => kit_is); (case f116 => kit_is); (case f117 => kit_is); (case f118 => kit_is); (case f119 => kit_is); (case f120 => kit_is); (case f121_0 => k_is); (case f121_1 => k_is); (case f121_2 => k_is); (case f121_3 => k_is); (case f121_4 => k_is); (case f121_5 => k_is); (case f121_6 => k_is); (case f121_7 => k_is); (case f122 => kit_is); (case f123 => kit_is); (case f124 => kit_is); (case f125 => kit_is); (case f126 => kit_is); (case f127 => kit_is); (case f128 => kit_is); (case f129 => kit_is); (case f130 => kit_is); (case f131 => kit_is); (case f132 => kit_is); (case f133_0 => k_is); (case f133_1 => k_is); (case f133_2 => k_is); (case f133_3 => k_is); (case f133_4 => k_is); (case f133_5 => k_is); (case f133_6 => k_is); (case f133_7 => k_is); (case f134 => kit_is); (case f135 => kit_is); (case f136 => kit_is); (case f137 => kit_is); (case f138 => kit_is); (case f139 => kit_is); (case f140 => kit_is); (case f141 => kit_is); (case f142 => kit_is); (case f143 => kit_is); (case f144 => kit_is); (case f145_0 => k_is); (case f145_1 => k_is); (case f145_2 => k_is); (case f145_3 => k_is); (case f145_4 => k_is); (case f145_5 => k_is); (case f145_6 => k_is); (case f145_7 => k_is); (case f146 => kit_is); (case f147 => kit_is); (case f148 => kit_is); (case f149 => kit_is); (case f150 => kit_is); (case f151 => kit_is); (case f152 => kit_is); (case f153 => kit_is); (case f154 => kit_is); (case f155 => kit_is); (case f156 => kit_is); (case f157_0 => k_is); (case f157_1 => k_is); (case f157_2 => k_is); (case f157_3 => k_is); (case f157_4 => k_is); (case f157_5 => k_is); (case f157_6 => k_is); (case f157_7 => k_is); (case f157_8 => k_is); (case f157_9 => k_is); (case f158_0 => k_is); (case f158_1 => k_is); (case f158_2 => k_is); (case f158_3 => k_is); (case f158_4 => k_is); (case f158_5 => k_is); (case f158_6 => k_is); (case f158_7 => k_is); (case f158_8 => k_is); (case f158_9 => k_is); (case f159_0 => k_is); (case f159_1 => k_is); (case f159_2 => k_is); (case f159_3 => k_is); (case f159_4 => k_is); (case f159_5 => k_is); (case f159_6 => k_is); (case f159_7 => k_is); (case f159_8 => k_is); (case f159_9 => k_is); (case f160_0 => k_is); (case f160_1 => k_is); (case f160_2 => k_is); (case f160_3 => k_is); (case f160_4 => k_is); (case f160_5 => k_is); (case f160_6 => k_is); (case f160_7 => k_is); (case f160_8 => k_is); (case f160_9 => k_is); (case f161_0 => k_is); (case f161_1 => k_is); (case f161_2 => k_is); (case f161_3 => k_is); (case f161_4 => k_is); (case f161_5 => k_is); (case f161_6 => k_is); (case f161_7 => k_is); (case f161_8 => k_is); (case f161_9 => k_is); (case f162_0 => k_is); (case f162_1 => k_is); (case f162_2 => k_is); (case f162_3 => k_is); (case f162_4 => k_is); (case f162_5 => k_is); (case f162_6 => k_is); (case f162_7 => k_is); (case f162_8 => k_is); (case f162_9 => k_is); (case f163 => kit_is); (case f164 => kit_is); (case f165 => kit_is); (case f166 => kit_is); (case f167 => kit_is); (case f168 => kit_is); (case f169 => kit_is); (case f170 => kit_is); (case f171 => kit_is); (case f172 => kit_is); (case f173 => kit_is); (case f174 => kit_is); (case f175 => kit_is); (case f176 => kit_is); (case f177 => kit_is); (case f178 => kit_is); (case f179 => kit_is); (case f180 => kit_is); (case f181 => kit_is); (case f182 => kit_is); (case f183 => kit_is); (case f184 => kit_is)
    refine L2.law_fin d_law hmg fun base => ?_
    exact K17.fin d_law_tape d_law_draw d_law_made d_law_kinds d_law xf B
#print axioms PySem.Challenge.cw_fewjoins_k17_refusals_made_holds

