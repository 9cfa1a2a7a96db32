import PyProof.Rows.All
import Wide.All
import OpenK.AllK
import Wide.FinOn
import Lean
import PyProof.EqAt
import PyProof.EqKinds
import PyProof.TupleCall
import PyProof.NeKinds
import PyProof.ListMulAny
import PyProof.Rows.CallKwBuiltin
import PyProof.MinMaxWalk
import PyProof.SeqI3
import PyProof.Rows.TupAdd
import PyProof.MeetsDict
import PyProof.DictList
import PyProof.ZipIter
import PyProof.Rows.ZipGen
import PyProof.ListRange
import PyProof.TupleOfStr
import PyProof.Rows.FStr
import PyProof.Rows.StrJoin2
import PyProof.Rows.Range3
import PyProof.EnumMake
import PyProof.EnumFor
import PyProof.EnumStmt
import KE.KUnpackStar
import KE.KDictList
import PyProof.Rows.SortWalk
import KE.RegKIsAll
import PyProof.NsDelKeeps
import PyProof.Rows.CountFlat
import KE.KRevIter
import PyProof.Draws
import PySem.Challenge.RW_fewjoins_k95_no_such_width
set_option Elab.async false
set_option linter.all false
set_option maxRecDepth 100000
set_option genSizeOf false
set_option genSizeOfSpec false
namespace L2
@[elab_as_elim] theorem len1 {α : Type} {motive : List α → Prop} (h : ∀ a0, motive [a0]) (us : List α) (hl : us.length = 1) : motive us := by
  match us, hl with
  | [a0], _ => exact h a0
@[elab_as_elim] theorem len2 {α : Type} {motive : List α → Prop} (h : ∀ a0 a1, motive [a0, a1]) (us : List α) (hl : us.length = 2) : motive us := by
  match us, hl with
  | [a0, a1], _ => exact h a0 a1
@[elab_as_elim] theorem len3 {α : Type} {motive : List α → Prop} (h : ∀ a0 a1 a2, motive [a0, a1, a2]) (us : List α) (hl : us.length = 3) : motive us := by
  match us, hl with
  | [a0, a1, a2], _ => exact h a0 a1 a2
end L2
namespace L2
open PySem PySem.Spec PyProof.Rows
noncomputable abbrev Key := Sum Int Str
noncomputable def keyIs : Key → Value → Bool
  | .inl k, v => Value.isInt k v
  | .inr x, v => Value.isStrOf x v
noncomputable def keyH (w : World) : Key → Int
  | .inl k => hashInt k
  | .inr x => hashStr w x
theorem keyIs_shape : ∀ {k : Key} {v : Value}, keyIs k v = true → (∃ i t, k = Sum.inl i ∧ v = Value.int i t) ∨ (∃ x t, k = Sum.inr x ∧ v = Value.str x t)
  | .inl i, v, h => by
    obtain ⟨t, e⟩ := Value.isInt_shape (k := i) (v := v) h
    exact .inl ⟨i, t, rfl, e⟩
  | .inr x, v, h => by
    obtain ⟨t, e⟩ := Value.isStrOf_shape (x := x) (v := v) h
    exact .inr ⟨x, t, rfl, e⟩
theorem keyIs_int (i : Int) (t : Tok) : keyIs (.inl i) (.int i t) = true := by simp [keyIs, Value.isInt]
theorem keyIs_str (x : Str) (t : Tok) : keyIs (.inr x) (.str x t) = true := by simp [keyIs, Value.isStrOf]
theorem key_ll (a b : Int) : decide ((Sum.inl a : Key) = Sum.inl b) = (a == b) := by
  by_cases e : a = b
  · subst e; simp
  · have h : ¬ (Sum.inl a : Key) = Sum.inl b := fun q => e (Sum.inl.inj q)
    rw [decide_eq_false h]
    exact (beq_eq_false_iff_ne.mpr e).symm
theorem key_rr (a b : Str) : decide ((Sum.inr a : Key) = Sum.inr b) = decide (a = b) := by
  by_cases e : a = b
  · subst e; simp
  · have h : ¬ (Sum.inr a : Key) = Sum.inr b := fun q => e (Sum.inr.inj q)
    rw [decide_eq_false h, decide_eq_false e]
theorem key_lr (a : Int) (b : Str) : decide ((Sum.inl a : Key) = Sum.inr b) = false := decide_eq_false (fun q => nomatch q)
theorem key_rl (a : Str) (b : Int) : decide ((Sum.inr a : Key) = Sum.inl b) = false := decide_eq_false (fun q => nomatch q)
noncomputable def mixKind (prog : Program) (w : World) : PySem.KeyKind prog w Key where
  is := keyIs
  hash := keyH w
  inj := fun v a b ha hb => by
    rcases keyIs_shape ha with ⟨i, t, rfl, rfl⟩ | ⟨x, t, rfl, rfl⟩
    · rcases keyIs_shape hb with ⟨j, u, rfl, e⟩ | ⟨y, u, rfl, e⟩
      · injection e with e1 _; rw [e1]
      · exact nomatch e
    · rcases keyIs_shape hb with ⟨j, u, rfl, e⟩ | ⟨y, u, rfl, e⟩
      · exact nomatch e
      · injection e with e1 _; rw [e1]
  byValue := fun k v h => by
    rcases keyIs_shape h with ⟨i, t, rfl, rfl⟩ | ⟨x, t, rfl, rfl⟩ <;> rfl
  pyHash := fun hv h => by
    rcases keyIs_shape hv with ⟨i, t, rfl, rfl⟩ | ⟨x, t, rfl, rfl⟩
    · exact wpAny_pyHash_int h
    · exact wpAny_pyHash_str h
  eqBool := fun hu hv h => by
    rcases keyIs_shape hu with ⟨i, t, rfl, rfl⟩ | ⟨x, t, rfl, rfl⟩
    · rcases keyIs_shape hv with ⟨j, u, rfl, rfl⟩ | ⟨y, u, rfl, rfl⟩
      · rw [key_ll] at h; exact wpAny_eqBool_int h
      · rw [key_lr] at h; exact SeqAt.EqAt.int_str i t y u _ _ _ _ h
    · rcases keyIs_shape hv with ⟨j, u, rfl, rfl⟩ | ⟨y, u, rfl, rfl⟩
      · rw [key_rl] at h; exact SeqAt.EqAt.str_int x t j u _ _ _ _ h
      · rw [key_rr] at h; exact wpAny_eqBool_str h
  «strs» := fun k x t v h => by
    rcases keyIs_shape h with ⟨i, u, rfl, e⟩ | ⟨y, u, rfl, e⟩
    · exact nomatch e
    · injection e with e1 _
      subst e1
      cases v <;> rfl
theorem mixKind_int (prog : Program) (w : World) (i : Int) (t : Tok) : (mixKind prog w).is (.inl i) (.int i t) = true := keyIs_int i t
theorem mixKind_str (prog : Program) (w : World) (x : Str) (t : Tok) : (mixKind prog w).is (.inr x) (.str x t) = true := keyIs_str x t
end L2
namespace L2
open PySem PySem.Spec PyProof.Rows
inductive V where
  | non | bl (b : Bool) | int (i : Int) | str (x : Str) | byt (b : Array UInt8) | flt (b : UInt64) | ref (a : Addr) | ty (n : String)
  deriving DecidableEq
noncomputable def RelV : V → Value → Prop
  | .non, u => u = Value.none
  | .bl b, u => u = Value.bool b
  | .int i, u => ∃ t, u = Value.int i t
  | .str x, u => ∃ t, u = Value.str x t
  | .byt b, u => ∃ t, u = Value.bytes b t
  | .flt b, u => ∃ t, u = Value.float b t
  | .ref a, u => u = Value.ref a
  | .ty n, u => u = Value.type n
noncomputable abbrev Vals : List V → List Value → Prop := Paired RelV
theorem Vals.length {xs : List V} {us : List Value} (r : Vals xs us) : xs.length = us.length := Paired.length r
theorem Vals.get : ∀ {xs : List V} {us : List Value} {i : Nat} {x : V}, Vals xs us → xs[i]? = some x → ∃ u, us[i]? = some u ∧ RelV x u
  | _, _, _, _, .nil, e => by simp at e
  | _, _, 0, _, .cons r _, e => by simp at e; subst e; exact ⟨_, rfl, r⟩
  | _, _, i + 1, x, .cons _ t, e => by
    obtain ⟨u, h1, h2⟩ := Vals.get (i := i) (x := x) t (by simpa using e)
    exact ⟨u, by simpa using h1, h2⟩
theorem Vals.append : ∀ {xs ys : List V} {us ws : List Value}, Vals xs us → Vals ys ws → Vals (xs ++ ys) (us ++ ws)
  | _, _, _, _, .nil, s => s
  | _, _, _, _, .cons r t, s => .cons r (Vals.append t s)
theorem Vals.take : ∀ {xs : List V} {us : List Value} (n : Nat), Vals xs us → Vals (xs.take n) (us.take n)
  | _, _, 0, _ => .nil
  | _, _, _ + 1, .nil => .nil
  | _, _, n + 1, .cons r t => .cons r (Vals.take n t)
theorem Vals.drop : ∀ {xs : List V} {us : List Value} (n : Nat), Vals xs us → Vals (xs.drop n) (us.drop n)
  | _, _, 0, r => r
  | _, _, _ + 1, .nil => .nil
  | _, _, n + 1, .cons _ t => Vals.drop n t
noncomputable def RelO : Option V → Option Value → Prop
  | some v, some u => RelV v u
  | none, none => True
  | _, _ => False
noncomputable def KV {κ : Type} : List (κ × V) → List (κ × Value) → Prop := Paired fun (p : κ × V) (q : κ × Value) => p.1 = q.1 ∧ RelV p.2 q.2
noncomputable def kV : Key → V
  | .inl i => .int i
  | .inr x => .str x
inductive HO where
  | lst (xs : List V)
  | tup (xs : List V)
  | dK (kvs : List (Key × V)) | dT (kvs : List (List Key × V))
  | set (S : Int → Bool) (n : Nat)
  | ins (C dx : Addr) (fs : List (Str × V))
  | own (x : Addr)
  | xd (fs : List (Str × V))
  | met (f x : Addr)
  | rng (lo hi : Int)
  | frz (o : Obj) (u : HO)
  | tbl (ps : Array Value)
  | ext (φ : Heap → Prop)
noncomputable abbrev Hp := Addr → Option HO
noncomputable def upd (H : Hp) (a : Addr) (o : HO) : Hp := fun b => if b = a then some o else H b
theorem upd_same {H : Hp} {a : Addr} {o : HO} : upd H a o a = some o := by unfold upd; rw [if_pos rfl]
theorem upd_ne {H : Hp} {a b : Addr} {o : HO} (h : b ≠ a) : upd H a o b = H b := by unfold upd; rw [if_neg h]
theorem upd_upd {H : Hp} {a : Addr} {o u : HO} : upd (upd H a o) a u = upd H a u := by
  funext b; unfold upd; split <;> rfl
theorem ne_of {H : Hp} {a b : Addr} {o u : HO} (h : H a = some o) (h' : H b = some u) (d : o ≠ u) : a ≠ b := by
  intro e; subst e; rw [h] at h'; exact d (Option.some.inj h')
theorem ne_of_none {H : Hp} {a b : Addr} {o : HO} (h : H a = some o) (h' : H b = none) : a ≠ b := by
  intro e; subst e; rw [h] at h'; cases h'
section
variable (P : Program) (w : World)
noncomputable def ObjOk (H : Hp) (h : Heap) (a : Addr) : HO → Prop
  | .lst xs => xs.length ≤ sizeLine ∧ ∃ (its : List Value) (n : Nat), Vals xs its ∧ h.get? a = some { cls := .type "list", data := .seq its.toArray n }
  | .tup xs => xs.length ≤ sizeLine ∧ ∃ its : List Value, Vals xs its ∧ IsTup h a its.toArray
  | .dK kvs => kvs.length ≤ sizeLine ∧ (a == sysModules) = false ∧ ∃ vs, KV kvs vs ∧ h.DictOf (mixKind P w) a vs
  | .dT kvs => kvs.length ≤ sizeLine ∧ (a == sysModules) = false ∧ ∃ xs : List (List Key × Addr × Value),
      Paired (fun (p : List Key × V) (q : List Key × Addr × Value) => p.1 = q.1 ∧ H q.2.1 = some (.tup (p.1.map kV)) ∧ RelV p.2 q.2.2) kvs xs ∧
      ∃ o es ep, h.get? a = some o ∧ o.ExactDict ∧ o.data = .dict es ep ∧ es.toList = xs.map (entryOfKey (tupleKind (mixKind P w))) ∧ (xs.map (·.1)).Nodup
  | .set S n => h.SetOf (intKind P w) a S n
  | .ins C dx fs => H dx = some (.own a) ∧ fs.length ≤ 1000 ∧ dx ≠ a ∧ h.get? a = some (PySem.W.instObj C dx) ∧
      ∃ mA, h.Ns1 dx mA ∧ (∀ f, RelO (fs.lookup f) (mA f)) ∧ PySem.Within mA (fs.map (·.1))
  | .own _ => ∃ o, h.get? a = some o
  | .xd fs => ∃ mA, h.Ns1 a mA ∧ ∀ f, RelO (fs.lookup f) (mA f)
  | .rng lo hi => ∃ t u v, h.get? a = some { cls := .type "range", data := .fields #[.int lo t, .int hi u, .int 1 v] }
  | .frz o u => h.get? a = some o ∧ ObjOk H h a u
  | .tbl ps => h.get? a = some { cls := .none, data := .fields ps }
  | .met f x => h.get? a = some (PySem.W.methodObj (.ref f) (.ref x))
  | .ext φ => φ h ∧ (∃ o, h.get? a = some o) ∧ ∀ h1 h2 : Heap, φ h1 → (∀ o, h1.get? a = some o → h2.get? a = some o) → φ h2
noncomputable def HOk (H : Hp) (h : Heap) : Prop := ∀ a o, H a = some o → ObjOk P w H h a o
end
section
variable {P : Program} {w : World} {H H' : Hp} {h h' : Heap} {a : Addr} {o : HO}
theorem ObjOk.lt (x : ObjOk P w H h a o) : a < h.objs.size := by
  cases o with
  | lst xs => obtain ⟨_, _, _, _, e⟩ := x; exact Heap.lt_size e
  | tup xs => obtain ⟨_, _, _, p⟩ := x; exact p.lt
  | dK kvs => obtain ⟨_, _, _, _, o, _, _, e, _⟩ := x; exact Heap.lt_size e
  | dT kvs => obtain ⟨_, _, _, _, o, _, _, e, _⟩ := x; exact Heap.lt_size e
  | set S n => obtain ⟨o, _, _, _, e, _⟩ := x; exact Heap.lt_size e
  | ins C dx fs => obtain ⟨_, _, _, e, _⟩ := x; exact Heap.lt_size e
  | own y => obtain ⟨_, e⟩ := x; exact Heap.lt_size e
  | xd fs => obtain ⟨_, ⟨_, _, _, e, _⟩, _⟩ := x; exact Heap.lt_size e
  | rng lo hi => obtain ⟨_, _, _, e⟩ := x; exact Heap.lt_size e
  | frz ob u => obtain ⟨e, _⟩ := x; exact Heap.lt_size e
  | tbl ps => exact Heap.lt_size (show h.get? a = some _ from x)
  | met f y => exact Heap.lt_size (show h.get? a = some _ from x)
  | ext φ => obtain ⟨_, ⟨_, e⟩, _⟩ := x; exact Heap.lt_size e
theorem Paired.mapP {α β : Type} {F G : α → β → Prop} : ∀ {l₁ : List α} {l₂ : List β}, Paired F l₁ l₂ → (∀ a b, F a b → G a b) → Paired G l₁ l₂
  | _, _, .nil, _ => .nil
  | _, _, .cons r t, f => .cons (f _ _ r) (Paired.mapP t f)
theorem ObjOk.stay (x : ObjOk P w H h a o) (k : ∀ b u, (b = a ∨ H b = some (.own a)) → h.get? b = some u → h'.get? b = some u)
    (ho : ∀ b, H b = some (.own a) → H' b = some (.own a)) (ht : ∀ b xs, H b = some (.tup xs) → H' b = some (.tup xs)) : ObjOk P w H' h' a o := by
  induction o with
  | lst xs => obtain ⟨z, its, n, r, e⟩ := x; exact ⟨z, its, n, r, k _ _ (.inl rfl) e⟩
  | tup xs => obtain ⟨z, its, r, ob, e, c⟩ := x; exact ⟨z, its, r, ob, k _ _ (.inl rfl) e, c⟩
  | dK kvs => obtain ⟨z, y, vs, r, ob, es, ep, e, c⟩ := x; exact ⟨z, y, vs, r, ob, es, ep, k _ _ (.inl rfl) e, c⟩
  | dT kvs =>
    obtain ⟨z, y, xs, r, ob, es, ep, e, c⟩ := x
    exact ⟨z, y, xs, Paired.mapP r fun p q z => ⟨z.1, ht _ _ z.2.1, z.2.2⟩, ob, es, ep, k _ _ (.inl rfl) e, c⟩
  | set S n => obtain ⟨ob, es, ep, t, e, c⟩ := x; exact ⟨ob, es, ep, t, k _ _ (.inl rfl) e, c⟩
  | ins C dx fs =>
    obtain ⟨d, z, ne, e, mA, ⟨od, es, ep, e2, c⟩, r⟩ := x
    exact ⟨ho _ d, z, ne, k _ _ (.inl rfl) e, mA, ⟨od, es, ep, k _ _ (.inr d) e2, c⟩, r⟩
  | own y => obtain ⟨ob, e⟩ := x; exact ⟨ob, k _ _ (.inl rfl) e⟩
  | xd fs => obtain ⟨mA, ⟨od, es, ep, e, c⟩, r⟩ := x; exact ⟨mA, ⟨od, es, ep, k _ _ (.inl rfl) e, c⟩, r⟩
  | rng lo hi => obtain ⟨t, u, v, e⟩ := x; exact ⟨t, u, v, k _ _ (.inl rfl) e⟩
  | frz ob u ih => obtain ⟨e, q⟩ := x; exact ⟨k _ _ (.inl rfl) e, ih q⟩
  | tbl ps =>
    have e : h.get? a = some { cls := .none, data := .fields ps } := x
    show h'.get? a = some { cls := .none, data := .fields ps }
    exact k a _ (.inl rfl) e
  | met f y =>
    have e : h.get? a = some (PySem.W.methodObj (.ref f) (.ref y)) := x
    show h'.get? a = some (PySem.W.methodObj (.ref f) (.ref y))
    exact k a _ (.inl rfl) e
  | ext φ => obtain ⟨p, ⟨o, e⟩, st⟩ := x; exact ⟨st _ _ p fun o q => k _ _ (.inl rfl) q, ⟨o, k _ _ (.inl rfl) e⟩, st⟩
theorem HOk.lt (x : HOk P w H h) (e : H a = some o) : a < h.objs.size := (x a o e).lt
theorem HOk.fresh (x : HOk P w H h) (e : h.objs.size ≤ a) : H a = none := by
  cases q : H a with
  | none => rfl
  | some u => exact absurd (Nat.lt_of_lt_of_le (x.lt q) e) (Nat.lt_irrefl _)
theorem HOk.kept (x : HOk P w H h) (k : ∀ b u, h.get? b = some u → h'.get? b = some u) : HOk P w H h' := fun a o e =>
  (x a o e).stay (fun b u _ q => k b u q) (fun _ q => q) fun _ _ q => q
theorem HOk.laid (x : HOk P w H h) (k : ∀ b u, h.get? b = some u → h'.get? b = some u) (hp : h.objs.size ≤ a) (new : ObjOk P w (upd H a o) h' a o) : HOk P w (upd H a o) h' := fun b u e => by
  have hn := x.fresh hp
  by_cases hb : b = a
  · subst hb; rw [upd_same] at e; cases e; exact new
  · rw [upd_ne hb] at e
    exact (x b u e).stay (fun c v _ q => k c v q) (fun c q => by rw [upd_ne (ne_of_none q hn)]; exact q) fun c xs q => by rw [upd_ne (ne_of_none q hn)]; exact q
end
noncomputable def Rd (H : Hp) (a : Addr) (u : HO) : Prop := H a = some u ∨ ∃ o, H a = some (.frz o u)
theorem Rd.ok {P : Program} {w : World} {H : Hp} {h : Heap} {a : Addr} {u : HO} (r : Rd H a u) (x : HOk P w H h) : ObjOk P w H h a u := by
  rcases r with r | ⟨o, r⟩
  · exact x a u r
  · obtain ⟨_, q⟩ := x a _ r
    exact q
noncomputable def Mut : Option HO → Prop
  | some (.lst _) => True
  | some (.dK _) => True
  | some (.dT _) => True
  | some (.set _ _) => True
  | some (.ins _ _ _) => True
  | some (.ext _) => True
  | _ => False
section
variable {P : Program} {w : World} {H : Hp} {h h' : Heap} {x e : Addr} {o' : HO}
theorem HOk.write (ok : HOk P w H h) (mu : Mut (H x)) (he : e = x ∨ H e = some (.own x)) (k : ∀ b u, b ≠ e → h.get? b = some u → h'.get? b = some u) (heo : ∃ u, h'.get? e = some u)
    (new : ObjOk P w (upd H x o') h' x o') : HOk P w (upd H x o') h' := fun b u q => by
  have nown : ∀ c y, H c = some (.own y) → c ≠ x := fun c y r z => by subst z; rw [r] at mu; exact mu
  have ntup : ∀ c xs, H c = some (.tup xs) → c ≠ x := fun c xs r z => by subst z; rw [r] at mu; exact mu
  by_cases hb : b = x
  · subst hb; rw [upd_same] at q; cases q; exact new
  · rw [upd_ne hb] at q
    by_cases hbe : b = e
    · have q' : H b = some (.own x) := by
        rcases he with z | z
        · exact absurd (hbe.trans z) hb
        · rw [hbe]; exact z
      rw [q] at q'; cases q'
      obtain ⟨v, hv⟩ := heo
      exact ⟨v, by rw [hbe]; exact hv⟩
    · refine (ok b u q).stay (fun c v hc r => k c v ?_ r) (fun c r => by rw [upd_ne (nown c b r)]; exact r) fun c xs r => by rw [upd_ne (ntup c xs r)]; exact r
      rcases hc with rfl | hc
      · exact hbe
      · rintro rfl
        rcases he with z | z
        · exact nown c b hc z
        · rw [hc] at z; cases z; exact hb rfl
end
structure Un (fs ex : List Addr) (H H' : Hp) (h h' : Heap) : Prop where
  keep : ∀ b o, h.get? b = some o → H b = none → b ∉ fs → b ∉ ex → h'.get? b = some o
  slot : ∀ b o, h.get? b = some o → H b = none → b ∈ fs → b ∉ ex → ∃ sl, h'.get? b = some { o with slots := sl }
  free : ∀ b o, h.get? b = some o → H b = none → b ∉ ex → H' b = none
  there : ∀ b o, h.get? b = some o → b ∉ ex → ∃ o', h'.get? b = some o'
  tups : ∀ b xs, H b = some (.tup xs) → H' b = some (.tup xs)
  frzs : ∀ b o u, H b = some (.frz o u) → H' b = some (.frz o u)
  tbls : ∀ b ps, H b = some (.tbl ps) → ∃ more, H' b = some (.tbl (ps ++ more))
section
variable {fs fs' ex ex' : List Addr} {H H1 H2 : Hp} {h h1 h2 h' : Heap} {a x e : Addr} {o : HO}
theorem Un.any (u : Un fs ex H H1 h h1) {b : Addr} {ob : Obj} (q : h.get? b = some ob) (n : H b = none) (hx : b ∉ ex) : ∃ sl, h1.get? b = some { ob with slots := sl } := by
  by_cases hb : b ∈ fs
  · exact u.slot b ob q n hb hx
  · exact ⟨ob.slots, u.keep b ob q n hb hx⟩
theorem Un.kept (k : ∀ b u, h.get? b = some u → h'.get? b = some u) : Un fs ex H H h h' :=
  ⟨fun b ob q _ _ _ => k b ob q, fun b ob q _ _ _ => ⟨ob.slots, k b ob q⟩, fun _ _ _ n _ => n, fun b ob q _ => ⟨ob, k b ob q⟩, fun _ _ q => q, fun _ _ _ q => q, fun _ ps q => ⟨#[], by rw [q]; simp⟩⟩
theorem Un.refl : Un fs ex H H h h := Un.kept fun _ _ q => q
theorem Un.laid (k : ∀ b u, h.get? b = some u → h'.get? b = some u) (hp : h.objs.size ≤ a) (hn : H a = none) : Un fs ex H (upd H a o) h h' where
  keep := fun b u q _ _ _ => k b u q
  slot := fun b u q _ _ _ => ⟨u.slots, k b u q⟩
  free := fun b u q n _ => by rw [upd_ne (Nat.ne_of_lt (Nat.lt_of_lt_of_le (Heap.lt_size q) hp))]; exact n
  there := fun b u q _ => ⟨u, k b u q⟩
  tups := fun b xs q => by rw [upd_ne (ne_of_none q hn)]; exact q
  frzs := fun b u xs q => by rw [upd_ne (ne_of_none q hn)]; exact q
  tbls := fun b ps q => ⟨#[], by rw [upd_ne (ne_of_none q hn), q]; simp⟩
theorem Un.write (mu : Mut (H x)) (he : e = x ∨ H e = some (.own x)) (k : ∀ b u, b ≠ e → h.get? b = some u → h'.get? b = some u) (heo : ∃ u, h'.get? e = some u) : Un fs ex H (upd H x o) h h' := by
  have hx : ∀ b, H b = none → b ≠ x := fun b n z => by subst z; rw [n] at mu; exact mu
  have hb : ∀ b, H b = none → b ≠ e := fun b n z => by
    subst z
    rcases he with r | r
    · exact hx b n r
    · rw [n] at r; cases r
  have hm : ∀ b u, H b = some u → ¬ Mut (some u) → b ≠ x := fun b u q nm z => by subst z; rw [q] at mu; exact nm mu
  refine ⟨fun b u q n _ _ => k b u (hb b n) q, fun b u q n _ _ => ⟨u.slots, k b u (hb b n) q⟩, fun b u q n _ => by rw [upd_ne (hx b n)]; exact n, fun b u q _ => ?_,
    fun b xs q => by rw [upd_ne (hm b _ q fun z => z)]; exact q, fun b u xs q => by rw [upd_ne (hm b _ q fun z => z)]; exact q, fun b ps q => ⟨#[], by rw [upd_ne (hm b _ q fun z => z), q]; simp⟩⟩
  by_cases hbe : b = e
  · subst hbe; exact heo
  · exact ⟨u, k b u hbe q⟩
end
noncomputable def trk (h : Heap) (H : Hp) : List Addr := (List.range h.objs.size).filter fun a => (H a).isSome
noncomputable def hidT (h : Heap) (H : Hp) : Heap := PySem.W.hideAll h (trk h H)
theorem hidT_size (h : Heap) (H : Hp) : (hidT h H).objs.size = h.objs.size := PySem.W.hideAll_size _ _
theorem hidT_get {h : Heap} {H : Hp} {b : Addr} {o : Obj} (e : h.get? b = some o) (n : H b = none) : (hidT h H).get? b = some o :=
  PySem.W.hideAll_get _ e fun hm => by
    have q : (H b).isSome = true := (List.mem_filter.mp hm).2
    rw [n] at q; simp at q
theorem of_hidT {h : Heap} {H : Hp} {b : Addr} {o : Obj} (e : (hidT h H).get? b = some o) : h.get? b = some o ∧ H b = none := by
  have e' : h.get? b = some o := PySem.W.of_hideAll (trk h H) e
  refine ⟨e', ?_⟩
  cases q : H b with
  | none => rfl
  | some x =>
    have hm : b ∈ trk h H := List.mem_filter.mpr ⟨List.mem_range.mpr (Heap.lt_size e'), by simp [q]⟩
    have z : (hidT h H).get? b = none := PySem.W.hideAll_none (trk h H) hm
    rw [z] at e; cases e
end L2
namespace L2
open PySem PySem.Spec PyProof.Rows
structure Mod (K : PySem.W.Frag) (mg : Str → Option Value) (base : Heap) : Prop where
  kin : K.In base
  glob : base.Ns mainGlobals mg
  blt : ∃ mb, base.Ns builtinsNs mb ∧ ∀ x : Str, x ≠ "__name__" → mb x = bootBuiltins x
  nolimit : base.NoLimit
structure Cx where
  prog : Program
  w : World
  K : PySem.W.Frag
  mg : Str → Option Value
  base : Heap
  A : Around
  N : List Str
  s₀ : Shared
  H₀ : Hp
  env : Env
  outer : List Env
  stack : List Env
  ex : List Addr
  fn : Str → Bool
  calm : Bool
  pn : List (Addr × Obj)
  xe : Value → Shared → Prop
noncomputable def frs (l : List Env) : List Addr := l.filterMap (·.frame)
noncomputable abbrev Cx.fs (X : Cx) : List Addr := frs X.outer
noncomputable def Vis (sc : Scope) (x : Str) : Prop := sc.names.lookup x = some .local ∨ sc.names.lookup x = some .cell ∨ sc.names.lookup x = some .free
noncomputable def Loc (sc : Scope) (x : Str) : Prop := sc.names.lookup x = some .local ∨ sc.names.lookup x = some .cell
noncomputable def Look (env : Env) (h : Heap) (m : Str → Option Value) (x : Str) (u : Value) : Prop :=
  (env.kindOf x = some .local ∧ m x = some u) ∨ ((env.kindOf x = some .cell ∨ env.kindOf x = some .free) ∧ ∃ c, env.cells.lookup x = some c ∧ h.IsCell c (some u))
structure Cx.Ok (X : Cx) : Prop where
  mod : Mod X.K X.mg X.base
  kind : X.env.scope.kind = .function
  glob : X.env.globals = mainGlobals
  blt : X.env.builtins = builtinsNs
  above : X.s₀.heap.objs.size ≤ X.env.locals
  inj : ∀ x y c, X.env.cells.lookup x = some c → X.env.cells.lookup y = some c → x = y
  has : ∀ x, (X.env.kindOf x = some .cell ∨ X.env.kindOf x = some .free) → ∃ c, X.env.cells.lookup x = some c
  cab : ∀ x c, X.fn x = true → X.env.cells.lookup x = some c → X.s₀.heap.objs.size ≤ c
  hd : X.calm = true → X.A.handled = none
  frames : X.A.frames = some X.stack
  stk : X.stack = X.outer ∨ (X.stack = X.env :: X.outer ∧ X.env.frame = some X.env.locals)
  exf : ∀ b ∈ X.ex, b ≠ X.env.locals ∧ ∀ x c, X.env.cells.lookup x = some c → c ≠ b
  bs : ∀ b o, X.base.get? b = some o → X.s₀.heap.get? b = some o ∧ X.H₀ b = none
  bsz : X.base.objs.size ≤ X.s₀.heap.objs.size
  noex : ∀ b o, X.base.get? b = some o → b ∉ X.ex
  exfs : ∀ b ∈ X.ex, b ∉ X.fs
  funs : X.s₀.heap.FunFrames X.base X.outer
  frf : ∀ b ∈ X.fs, X.H₀ b = none
structure Inv (X : Cx) (pins : List (Addr × Obj)) (σ : List (Option V)) (H : Hp) (s : Shared) : Prop where
  ok : X.Ok
  os : s.os = X.s₀.os
  bare : AllBare s.gens
  base : Un X.fs X.ex X.H₀ H X.s₀.heap s.heap
  loc : ∃ m, s.heap.Ns X.env.locals m ∧ ∀ (i : Nat) (x : Str) (v : V), X.N[i]? = some x → σ[i]? = some (some v) → Vis X.env.scope x → ∃ u, RelV v u ∧ Look X.env s.heap m x u
  cell : ∀ x c, X.env.cells.lookup x = some c → ∃ v, s.heap.IsCell c v
  free : H X.env.locals = none
  freeC : ∀ x c, X.env.cells.lookup x = some c → H c = none
  pin : ∀ p ∈ X.pn ++ pins, s.heap.get? p.1 = some p.2 ∧ H p.1 = none ∧ p.1 ≠ X.env.locals ∧ p.1 ∉ X.fs ∧ ∀ v, p.2.data ≠ .cell v
  hok : HOk X.prog X.w H s.heap
  len : σ.length = X.N.length
section
variable {X : Cx} {pins : List (Addr × Obj)} {σ : List (Option V)} {H H' : Hp} {s : Shared} {h' : Heap}
theorem Cx.Ok.nofr (ok : X.Ok) {b : Addr} {o : Obj} (e : X.base.get? b = some o) : b ∉ X.fs := fun hb => by
  have := (ok.funs.mem hb).1
  rw [e] at this; cases this
theorem Inv.bs (I : Inv X pins σ H s) : ∀ b o, X.base.get? b = some o → s.heap.get? b = some o ∧ H b = none := fun b o e =>
  ⟨I.base.keep b o (I.ok.bs b o e).1 (I.ok.bs b o e).2 (I.ok.nofr e) (I.ok.noex b o e), I.base.free b o (I.ok.bs b o e).1 (I.ok.bs b o e).2 (I.ok.noex b o e)⟩
theorem Inv.bk (I : Inv X pins σ H s) : ∀ b o, X.base.get? b = some o → s.heap.get? b = some o := fun b o e => (I.bs b o e).1
theorem Inv.mod (I : Inv X pins σ H s) : Mod X.K X.mg X.base := I.ok.mod
theorem Inv.kIn (I : Inv X pins σ H s) : X.K.In s.heap := I.ok.mod.kin.keeps I.bk
theorem Inv.fr (I : Inv X pins σ H s) : ∃ m, Fr X.base X.env.locals s.heap m :=
  let ⟨m, hn, _⟩ := I.loc
  ⟨m, hn, I.bk, Nat.le_trans I.ok.bsz I.ok.above⟩
theorem Inv.lt (I : Inv X pins σ H s) : X.env.locals < s.heap.objs.size := let ⟨_, hn, _⟩ := I.loc; hn.lt
theorem Inv.sz (I : Inv X pins σ H s) : X.s₀.heap.objs.size ≤ s.heap.objs.size := Nat.le_trans I.ok.above (Nat.le_of_lt I.lt)
theorem Inv.nofs (I : Inv X pins σ H s) {a : Addr} (h : s.heap.objs.size ≤ a) : a ∉ X.fs := fun hb => by
  obtain ⟨_, o, ho, _⟩ := I.ok.funs.mem hb
  exact absurd (Nat.lt_of_lt_of_le (Heap.lt_size ho) (Nat.le_trans I.sz h)) (Nat.lt_irrefl _)
theorem Inv.cne (I : Inv X pins σ H s) : ∀ x c, X.env.cells.lookup x = some c → c ≠ X.env.locals := fun x c e z => by
  obtain ⟨v, o, ho, hd⟩ := I.cell x c e
  obtain ⟨m, ⟨o', es, ep, ho', hd', _⟩, _⟩ := I.loc
  rw [z, ho'] at ho; cases ho; rw [hd'] at hd; cases hd
theorem Inv.funs (I : Inv X pins σ H s) : s.heap.FunFrames X.base X.outer := by
  have all : ∀ (l : List Env), (∀ b ∈ frs l, b ∈ X.fs) → X.s₀.heap.FunFrames X.base l → s.heap.FunFrames X.base l := by
    intro l
    induction l with
    | nil => intro _ _; trivial
    | cons env r ih =>
      intro hs hl
      obtain ⟨hk, ⟨L, o, hf, hn, ho, hd⟩, hr⟩ := hl
      have hL : L ∈ X.fs := hs L (by unfold frs; rw [List.filterMap_cons, hf]; exact List.mem_cons_self)
      obtain ⟨sl, e⟩ := I.base.slot L o ho (I.ok.frf L hL) hL fun z => I.ok.exfs L z hL
      exact ⟨hk, ⟨L, _, hf, hn, e, hd⟩, ih (fun b hb => hs b (by unfold frs; rw [List.filterMap_cons, hf]; exact List.mem_cons_of_mem _ hb)) hr⟩
  exact all X.outer (fun _ hb => hb) I.ok.funs
theorem Inv.stack (I : Inv X pins σ H s) : s.heap.FunFrames X.base X.stack := by
  rcases I.ok.stk with e | ⟨e, hf⟩
  · rw [e]; exact I.funs
  · rw [e]
    obtain ⟨m, hn, _⟩ := I.loc
    refine .cons (by rw [I.ok.kind]; decide) hf hn ?_ I.funs
    exact Heap.get?_none_of_le (Nat.le_trans I.ok.bsz I.ok.above)
theorem Inv.stkSub (I : Inv X pins σ H s) : ∀ b ∈ frs X.stack, b ∈ X.env.locals :: X.fs := fun b hb => by
  rcases I.ok.stk with e | ⟨e, hf⟩
  · rw [e] at hb; exact List.mem_cons_of_mem _ hb
  · rw [e] at hb
    unfold frs at hb
    rw [List.filterMap_cons, hf] at hb
    exact hb
theorem Inv.stkFree (I : Inv X pins σ H s) : ∀ b ∈ frs X.stack, H b = none := fun b hb => by
  rcases List.mem_cons.mp (I.stkSub b hb) with e | hb
  · rw [e]; exact I.free
  · obtain ⟨_, o, ho, _⟩ := I.ok.funs.mem hb
    exact I.base.free b o ho (I.ok.frf b hb) fun z => I.ok.exfs b z hb
theorem Inv.step {g' : Array GenState} {t' : Nat} {d' : Drawn} {ch : List Addr} (I : Inv X pins σ H s)
    (hch : ∀ b ∈ ch, (b ∈ X.ex ∨ X.s₀.heap.objs.size ≤ b) ∧ b ≠ X.env.locals ∧ (∀ x c, X.env.cells.lookup x = some c → c ≠ b) ∧ ∀ p ∈ X.pn ++ pins, p.1 ≠ b)
    (keep : ∀ b o, b ≠ X.env.locals → b ∉ X.fs → b ∉ ch → s.heap.get? b = some o → H b = none → h'.get? b = some o)
    (slot : ∀ b o, b ≠ X.env.locals → b ∈ X.fs → b ∉ ch → s.heap.get? b = some o → H b = none → ∃ sl, h'.get? b = some { o with slots := sl }) (free : ∀ b o, b ∉ ch → s.heap.get? b = some o → H b = none → H' b = none)
    (there : ∀ b o, b ∉ ch → s.heap.get? b = some o → ∃ o', h'.get? b = some o')
    (tups : ∀ b xs, H b = some (.tup xs) → H' b = some (.tup xs)) (frzs : ∀ b o u, H b = some (.frz o u) → H' b = some (.frz o u)) (tbls : ∀ b ps, H b = some (.tbl ps) → ∃ more, H' b = some (.tbl (ps ++ more)))
    (ns : ∀ m, s.heap.Ns X.env.locals m → h'.Ns X.env.locals m) (hok : HOk X.prog X.w H' h') (hg : AllBare g') :
    Inv X pins σ H' { s with heap := h', gens := g', drawn := d', toks := t' } := by
  have neL : ∀ b o, X.s₀.heap.get? b = some o → b ≠ X.env.locals := fun b o e => Nat.ne_of_lt (Nat.lt_of_lt_of_le (Heap.lt_size e) I.ok.above)
  have neC : ∀ b o, X.s₀.heap.get? b = some o → b ∉ X.ex → b ∉ ch := fun b o e hx hb => by
    rcases (hch b hb).1 with z | z
    · exact hx z
    · exact absurd (Nat.lt_of_lt_of_le (Heap.lt_size e) z) (Nat.lt_irrefl _)
  have cellK : ∀ x c, X.env.cells.lookup x = some c → ∀ v, s.heap.IsCell c v → h'.IsCell c v := fun x c e v ⟨o, ho, hd⟩ => by
    have nch : c ∉ ch := fun z => (hch c z).2.2.1 x c e rfl
    by_cases hc : c ∈ X.fs
    · obtain ⟨sl, q⟩ := slot c o (I.cne x c e) hc nch ho (I.freeC x c e)
      exact ⟨_, q, hd⟩
    · exact ⟨o, keep c o (I.cne x c e) hc nch ho (I.freeC x c e), hd⟩
  refine ⟨I.ok, I.os, hg, ⟨fun b o e n hb hx => ?_, fun b o e n hb hx => ?_, fun b o e n hx => ?_, fun b o e hx => ?_, fun b xs e => tups b xs (I.base.tups b xs e), fun b o xs e => frzs b o xs (I.base.frzs b o xs e), fun b ps e => ?_⟩, ?_, fun x c e => ?_, ?_, fun x c e => ?_, fun p hp => ?_, hok, I.len⟩
  · exact keep b o (neL b o e) hb (neC b o e hx) (I.base.keep b o e n hb hx) (I.base.free b o e n hx)
  · obtain ⟨sl, e1⟩ := I.base.slot b o e n hb hx
    obtain ⟨sl', e2⟩ := slot b _ (neL b o e) hb (neC b o e hx) e1 (I.base.free b o e n hx)
    exact ⟨sl', e2⟩
  · obtain ⟨o', e1⟩ := I.base.there b o e hx
    exact free b o' (neC b o e hx) e1 (I.base.free b o e n hx)
  · obtain ⟨o', e1⟩ := I.base.there b o e hx
    exact there b o' (neC b o e hx) e1
  · obtain ⟨m1, e1⟩ := I.base.tbls b ps e
    obtain ⟨m2, e2⟩ := tbls b _ e1
    exact ⟨m1 ++ m2, by rw [e2, Array.append_assoc]⟩
  · obtain ⟨m, hn, hl⟩ := I.loc
    refine ⟨m, ns m hn, fun i x v e1 e2 e3 => ?_⟩
    obtain ⟨u, r, l⟩ := hl i x v e1 e2 e3
    refine ⟨u, r, ?_⟩
    rcases l with l | ⟨k, c, e, z⟩
    · exact .inl l
    · exact .inr ⟨k, c, e, cellK x c e _ z⟩
  · obtain ⟨v, z⟩ := I.cell x c e
    exact ⟨v, cellK x c e v z⟩
  · obtain ⟨m, ⟨o, _, _, ho, _⟩, _⟩ := I.loc
    exact free _ o (fun z => (hch _ z).2.1 rfl) ho I.free
  · obtain ⟨v, o, ho, hd⟩ := I.cell x c e
    exact free c o (fun z => (hch c z).2.2.1 x c e rfl) ho (I.freeC x c e)
  · obtain ⟨e, n, ne, nf, d⟩ := I.pin p hp
    have nch : p.1 ∉ ch := fun z => (hch p.1 z).2.2.2 p hp rfl
    exact ⟨keep p.1 p.2 ne nf nch e n, free p.1 p.2 nch e n, ne, nf, d⟩
theorem Inv.un {t' : Nat} (I : Inv X pins σ H s) (u : Un X.fs [] H H' s.heap h') (hok : HOk X.prog X.w H' h') : Inv X pins σ H' { s with heap := h', toks := t' } := by
  obtain ⟨m, ⟨o, es, ep, ho, r⟩, _⟩ := id I.loc
  obtain ⟨sl, hL⟩ := u.any ho I.free (by simp)
  exact I.step (g' := s.gens) (d' := s.drawn) (ch := []) (fun _ z => nomatch z) (fun b o _ hb _ e n => u.keep b o e n hb (by simp)) (fun b o _ hb _ e n => u.slot b o e n hb (by simp)) (fun b o _ e n => u.free b o e n (by simp)) (fun b o _ e => u.there b o e (by simp)) u.tups u.frzs u.tbls (fun m' hm => by
    obtain ⟨o', es', ep', ho', r'⟩ := hm
    rw [ho] at ho'; cases ho'
    exact ⟨_, es', ep', hL, r'⟩) hok I.bare
theorem Inv.call {g' : Array GenState} {t' : Nat} {d' : Drawn} {ch : List Addr} (I : Inv X pins σ H s) (u : Un (frs X.stack) ch H H' s.heap h') (hok : HOk X.prog X.w H' h') (hg : AllBare g')
    (hch : ∀ b ∈ ch, (b ∈ X.ex ∨ X.s₀.heap.objs.size ≤ b) ∧ b ≠ X.env.locals ∧ (∀ x c, X.env.cells.lookup x = some c → c ≠ b) ∧ ∀ p ∈ X.pn ++ pins, p.1 ≠ b) :
    Inv X pins σ H' { s with heap := h', gens := g', drawn := d', toks := t' } := by
  obtain ⟨m, ⟨o, es, ep, ho, r⟩, _⟩ := id I.loc
  obtain ⟨sl, hL⟩ := u.any ho I.free fun z => (hch _ z).2.1 rfl
  exact I.step (ch := ch) hch (fun b o hL hb hc e n => u.keep b o e n (fun z => (List.mem_cons.mp (I.stkSub b z)).elim hL hb) hc) (fun b o _ _ hc e n => u.any e n hc) (fun b o hc e n => u.free b o e n hc) (fun b o hc e => u.there b o e hc) u.tups u.frzs u.tbls (fun m' hm => by
    obtain ⟨o', es', ep', ho', r'⟩ := hm
    rw [ho] at ho'; cases ho'
    exact ⟨_, es', ep', hL, r'⟩) hok hg
theorem Inv.turned {t' : Nat} {it : Addr} (I : Inv X pins σ H s) (k : ∀ b o, b ≠ it → s.heap.get? b = some o → h'.get? b = some o) (hn : H it = none) (hL : it ≠ X.env.locals)
    (h1 : it ∈ X.ex ∨ X.s₀.heap.objs.size ≤ it) (h2 : ∀ x c, X.env.cells.lookup x = some c → c ≠ it) (h3 : ∀ p ∈ X.pn ++ pins, p.1 ≠ it) : Inv X pins σ H { s with heap := h', toks := t' } := by
  have nit : ∀ b u, H b = some u → b ≠ it := fun b u e z => by rw [z, hn] at e; cases e
  refine I.step (g' := s.gens) (d' := s.drawn) (ch := [it]) (fun b hb => ?_) (fun b o _ _ hc e _ => k b o (fun z => hc (by simp [z])) e) (fun b o _ _ hc e _ => ⟨o.slots, k b o (fun z => hc (by simp [z])) e⟩) (fun _ _ _ _ n => n)
    (fun b o hc e => ⟨o, k b o (fun z => hc (by simp [z])) e⟩) (fun _ _ e => e) (fun _ _ _ e => e) (fun b ps e => ⟨#[], by rw [e]; simp⟩) (fun m hm => ?_) (fun b u e => ?_) I.bare
  · have e : b = it := by simpa using hb
    subst e
    exact ⟨h1, hL, h2, h3⟩
  · obtain ⟨o, es, ep, ho, r⟩ := hm
    exact ⟨o, es, ep, k _ o (Ne.symm hL) ho, r⟩
  · refine (I.hok b u e).stay (fun c v hc q => k c v ?_ q) (fun _ q => q) fun _ _ q => q
    rcases hc with z | z
    · rw [z]; exact nit b u e
    · exact nit c _ z
theorem Inv.tok (I : Inv X pins σ H s) (t : Nat) : Inv X pins σ H { s with toks := t } := I.un (h' := s.heap) (t' := t) Un.refl I.hok
theorem Inv.kept {t' : Nat} (I : Inv X pins σ H s) (k : ∀ b u, s.heap.get? b = some u → h'.get? b = some u) : Inv X pins σ H { s with heap := h', toks := t' } := I.un (Un.kept k) (I.hok.kept k)
theorem Inv.laid {a : Addr} {o : HO} {t' : Nat} (I : Inv X pins σ H s) (k : ∀ b u, s.heap.get? b = some u → h'.get? b = some u) (hp : s.heap.objs.size ≤ a) (new : ObjOk X.prog X.w (upd H a o) h' a o) :
    Inv X pins σ (upd H a o) { s with heap := h', toks := t' } := I.un (Un.laid k hp (I.hok.fresh hp)) (I.hok.laid k hp new)
theorem Inv.write {x e : Addr} {o : HO} {t' : Nat} (I : Inv X pins σ H s) (mu : Mut (H x)) (he : e = x ∨ H e = some (.own x)) (k : ∀ b u, b ≠ e → s.heap.get? b = some u → h'.get? b = some u) (heo : ∃ u, h'.get? e = some u)
    (new : ObjOk X.prog X.w (upd H x o) h' x o) : Inv X pins σ (upd H x o) { s with heap := h', toks := t' } := I.un (Un.write mu he k heo) (I.hok.write mu he k heo new)
theorem Inv.weak {σ' : List (Option V)} (I : Inv X pins σ H s) (hl : σ'.length = σ.length) (w : ∀ (i : Nat) v, σ'[i]? = some (some v) → σ[i]? = some (some v)) : Inv X pins σ' H s :=
  ⟨I.ok, I.os, I.bare, I.base, let ⟨m, hn, hl'⟩ := I.loc; ⟨m, hn, fun i x v e1 e2 e3 => hl' i x v e1 (w i v e2) e3⟩, I.cell, I.free, I.freeC, I.pin, I.hok, hl.trans I.len⟩
theorem Inv.pins_of {pins' : List (Addr × Obj)} (I : Inv X pins σ H s) (h : ∀ p ∈ pins', s.heap.get? p.1 = some p.2 ∧ H p.1 = none ∧ p.1 ≠ X.env.locals ∧ p.1 ∉ X.fs ∧ ∀ v, p.2.data ≠ .cell v) : Inv X pins' σ H s :=
  ⟨I.ok, I.os, I.bare, I.base, I.loc, I.cell, I.free, I.freeC, fun p hp => (List.mem_append.mp hp).elim (fun z => I.pin p (List.mem_append_left _ z)) (h p), I.hok, I.len⟩
theorem nodup_ix {N : List Str} (hN : N.Nodup) {i j : Nat} {x : Str} (a : N[i]? = some x) (b : N[j]? = some x) : i = j := by
  obtain ⟨h1, e1⟩ := List.getElem?_eq_some_iff.mp a
  obtain ⟨h2, e2⟩ := List.getElem?_eq_some_iff.mp b
  exact (List.getElem_inj hN).mp (e1.trans e2.symm)
theorem store_ok2 {M : Model} {A : Around} {E : Value → Shared → Prop} {i : Nat} {x : Str} {v : V} {u : Value} {Q : Unit → Shared → Prop} (I : Inv X pins σ H s) (hN : X.N.Nodup) (hi : X.N[i]? = some x) (hx : Loc X.env.scope x) (r : RelV v u)
    (h : ∀ s', Inv X pins (σ.set i (some v)) H s' → (∃ a, Heap.SameBut a s.heap s'.heap ∧ (a = X.env.locals ∨ X.env.cells.lookup x = some a)) → Q () s') (hf : X.fn x = true ∨ X.env.scope.names.lookup x = some .local := by first | exact .inl rfl | exact .inr rfl | assumption) : wpAny M A (storeName X.env x u) Q E s := by
  obtain ⟨m, hn, hl⟩ := id I.loc
  have hcls : (X.env.scope.kind == .class || (X.env.scope.kind == .module && X.env.locals != X.env.globals)) = false := by rw [I.ok.kind]; rfl
  have hiσ : i < σ.length := by rw [I.len]; exact (List.getElem?_eq_some_iff.mp hi).1
  have cne := I.cne
  have tracked : ∀ {a : Addr} {h' : Heap}, (∃ o, s.heap.get? a = some o ∧ H a = none) → Heap.SameBut a s.heap h' → HOk X.prog X.w H h' := fun {a h'} ha hs b ob e => by
    obtain ⟨_, _, hfree⟩ := ha
    refine (I.hok b ob e).stay (fun c w' hc q => (hs.2 c ?_).trans q) (fun _ q => q) fun _ _ q => q
    rintro rfl
    rcases hc with rfl | hc
    · rw [hfree] at e; cases e
    · rw [hfree] at hc; cases hc
  rcases hx with hk | hk
  · refine wpAny_storeName_local hk hn (fun h' hn' hs => ?_) hcls
    obtain ⟨oL, _, _, hoL, _⟩ := id hn
    refine h _ ⟨I.ok, I.os, I.bare, ⟨fun b o e n hb hx => ?_, fun b o e n hb hx => ?_, I.base.free, fun b o e hx => ?_, I.base.tups, I.base.frzs, I.base.tbls⟩, ⟨_, hn', fun j y v' e1 e2 e3 => ?_⟩, fun y c e => ?_, I.free, I.freeC, fun p hp => ?_, tracked ⟨oL, hoL, I.free⟩ hs, by simpa using I.len⟩ ⟨_, hs, .inl rfl⟩
    · exact (hs.2 b (Nat.ne_of_lt (Nat.lt_of_lt_of_le (Heap.lt_size e) I.ok.above))).trans (I.base.keep b o e n hb hx)
    · obtain ⟨sl, e1⟩ := I.base.slot b o e n hb hx
      exact ⟨sl, (hs.2 b (Nat.ne_of_lt (Nat.lt_of_lt_of_le (Heap.lt_size e) I.ok.above))).trans e1⟩
    · obtain ⟨o', e1⟩ := I.base.there b o e hx
      exact ⟨o', (hs.2 b (Nat.ne_of_lt (Nat.lt_of_lt_of_le (Heap.lt_size e) I.ok.above))).trans e1⟩
    · by_cases hj : j = i
      · subst hj
        rw [hi] at e1; cases e1
        rw [List.getElem?_set_self hiσ] at e2
        cases e2
        exact ⟨u, r, .inl ⟨hk, by simp⟩⟩
      · rw [List.getElem?_set_ne (Ne.symm hj)] at e2
        obtain ⟨u', r', q⟩ := hl j y v' e1 e2 e3
        refine ⟨u', r', ?_⟩
        rcases q with ⟨k, e⟩ | ⟨k, c, e, z⟩
        · refine .inl ⟨k, ?_⟩
          have : y ≠ x := fun e => hj (nodup_ix hN e1 (e ▸ hi))
          simp [this, e]
        · exact .inr ⟨k, c, e, z.sameBut hs (cne y c e)⟩
    · obtain ⟨w', z⟩ := I.cell y c e
      exact ⟨w', z.sameBut hs (cne y c e)⟩
    · obtain ⟨e, n, ne, nf, d⟩ := I.pin p hp
      exact ⟨(hs.2 p.1 ne).trans e, n, ne, nf, d⟩
  · have hfn : X.fn x = true := by
      rcases hf with z | z
      · exact z
      · rw [z] at hk; cases hk
    obtain ⟨c, hc⟩ := I.ok.has x (.inl hk)
    obtain ⟨w', z⟩ := I.cell x c hc
    refine wpAny_storeName_cell I.ok.kind hk hc z (fun h' hc' hs => ?_)
    obtain ⟨oc, hoc, hocd⟩ := id z
    refine h { s with heap := h' } ⟨I.ok, I.os, I.bare, ⟨fun b o e n hb hx => ?_, fun b o e n hb hx => ?_, I.base.free, fun b o e hx => ?_, I.base.tups, I.base.frzs, I.base.tbls⟩, ⟨m, hn.sameBut hs (Ne.symm (cne x c hc)), fun j y v' e1 e2 e3 => ?_⟩, fun y c' e => ?_, I.free, I.freeC, fun p hp => ?_, tracked ⟨oc, hoc, I.freeC x c hc⟩ hs, by simpa using I.len⟩ ⟨c, hs, .inr hc⟩
    · exact (hs.2 b (Nat.ne_of_lt (Nat.lt_of_lt_of_le (Heap.lt_size e) (I.ok.cab x c hfn hc)))).trans (I.base.keep b o e n hb hx)
    · obtain ⟨sl, e1⟩ := I.base.slot b o e n hb hx
      exact ⟨sl, (hs.2 b (Nat.ne_of_lt (Nat.lt_of_lt_of_le (Heap.lt_size e) (I.ok.cab x c hfn hc)))).trans e1⟩
    · obtain ⟨o', e1⟩ := I.base.there b o e hx
      exact ⟨o', (hs.2 b (Nat.ne_of_lt (Nat.lt_of_lt_of_le (Heap.lt_size e) (I.ok.cab x c hfn hc)))).trans e1⟩
    · by_cases hj : j = i
      · subst hj
        rw [hi] at e1; cases e1
        rw [List.getElem?_set_self hiσ] at e2
        cases e2
        exact ⟨u, r, .inr ⟨.inl hk, c, hc, hc'⟩⟩
      · rw [List.getElem?_set_ne (Ne.symm hj)] at e2
        obtain ⟨u', r', q⟩ := hl j y v' e1 e2 e3
        refine ⟨u', r', ?_⟩
        rcases q with q | ⟨k, c', e, z'⟩
        · exact .inl q
        · refine .inr ⟨k, c', e, z'.sameBut hs ?_⟩
          rintro rfl
          exact hj (nodup_ix hN e1 (I.ok.inj _ _ _ e hc ▸ hi))
    · by_cases hcc : c' = c
      · subst hcc; exact ⟨_, hc'⟩
      · obtain ⟨w2, z2⟩ := I.cell y c' e
        exact ⟨w2, z2.sameBut hs hcc⟩
    · obtain ⟨e, n, ne, nf, d⟩ := I.pin p hp
      refine ⟨(hs.2 p.1 ?_).trans e, n, ne, nf, d⟩
      intro q
      rw [q, hoc] at e
      have q' : oc = p.2 := Option.some.inj e
      exact d w' (by rw [← q']; exact hocd)
theorem store_ok {M : Model} {A : Around} {E : Value → Shared → Prop} {i : Nat} {x : Str} {v : V} {u : Value} {Q : Unit → Shared → Prop} (I : Inv X pins σ H s) (hN : X.N.Nodup) (hi : X.N[i]? = some x) (hx : Loc X.env.scope x) (r : RelV v u)
    (h : ∀ s', Inv X pins (σ.set i (some v)) H s' → Q () s') (hf : X.fn x = true ∨ X.env.scope.names.lookup x = some .local := by first | exact .inl rfl | exact .inr rfl | assumption) : wpAny M A (storeName X.env x u) Q E s :=
  store_ok2 I hN hi hx r (fun s' I' _ => h s' I') hf
theorem Inv.call' {s' : Shared} {ch : List Addr} (I : Inv X pins σ H s) (ho : s'.os = s.os) (u : Un (frs X.stack) ch H H' s.heap s'.heap) (hok : HOk X.prog X.w H' s'.heap) (hg : AllBare s'.gens)
    (hch : ∀ b ∈ ch, (b ∈ X.ex ∨ X.s₀.heap.objs.size ≤ b) ∧ b ≠ X.env.locals ∧ (∀ x c, X.env.cells.lookup x = some c → c ≠ b) ∧ ∀ p ∈ X.pn ++ pins, p.1 ≠ b) : Inv X pins σ H' s' := by
  obtain ⟨h', g', d', t', o'⟩ := s'
  have e : o' = s.os := ho
  subst e
  exact I.call (g' := g') (t' := t') (d' := d') u hok hg hch
end
noncomputable abbrev XK := Value → Option Addr → Hp → Prop
noncomputable abbrev St := List (Option V)
noncomputable abbrev VK := V → Hp → Prop
noncomputable abbrev TE := St → Hp → VK → Prop
noncomputable abbrev TT := St → Hp → (Bool → Hp → Prop) → Prop
noncomputable abbrev TA := St → Hp → (List V → Hp → Prop) → Prop
structure Ends where
  nx : St → Hp → Prop
  rt : VK
  bk : St → Hp → Prop := fun _ _ => False
  ct : St → Hp → Prop := fun _ _ => False
noncomputable abbrev TS := Ends → St → Hp → Prop
noncomputable def EP (X : Cx) (pins : List (Addr × Obj)) (σ : St) (Q : VK) (u : Value) (s' : Shared) : Prop := ∃ v H', Inv X pins σ H' s' ∧ RelV v u ∧ Q v H'
noncomputable def TP (X : Cx) (pins : List (Addr × Obj)) (σ : St) (Q : Bool → Hp → Prop) (b : Bool) (s' : Shared) : Prop := ∃ H', Inv X pins σ H' s' ∧ Q b H'
noncomputable def AP (X : Cx) (pins : List (Addr × Obj)) (σ : St) (Q : List V → Hp → Prop) (us : List Value) (s' : Shared) : Prop := ∃ vs H', Inv X pins σ H' s' ∧ Vals vs us ∧ Q vs H'
noncomputable def SP (X : Cx) (pins : List (Addr × Obj)) (D : Ends) (f : Flow) (s' : Shared) : Prop :=
  match f with
  | .next => ∃ σ' H', Inv X pins σ' H' s' ∧ D.nx σ' H'
  | .brk => ∃ σ' H', Inv X pins σ' H' s' ∧ D.bk σ' H'
  | .cont => ∃ σ' H', Inv X pins σ' H' s' ∧ D.ct σ' H'
  | .ret u => ∃ v σ' H', Inv X pins σ' H' s' ∧ RelV v u ∧ D.rt v H'
noncomputable def PE (X : Cx) (e : Expr) (t : TE) : Prop :=
  ∀ (pins : List (Addr × Obj)) (s : Shared) (σ : St) (H : Hp) (Q : VK), Inv X pins σ H s → t σ H Q → wpAny (model X.prog X.w) X.A (eval e X.env) (EP X pins σ Q) X.xe s
noncomputable def PT (X : Cx) (e : Expr) (t : TT) : Prop :=
  ∀ (pins : List (Addr × Obj)) (s : Shared) (σ : St) (H : Hp) (Q : Bool → Hp → Prop), Inv X pins σ H s → t σ H Q → wpAny (model X.prog X.w) X.A (isTrue e X.env (eval e X.env)) (TP X pins σ Q) X.xe s
noncomputable def PW (X : Cx) (e : Expr) (t : TT) : Prop :=
  ∀ (whole : Sem Value) (pins : List (Addr × Obj)) (s : Shared) (σ : St) (H : Hp) (Q : Bool → Hp → Prop), Inv X pins σ H s → t σ H Q → wpAny (model X.prog X.w) X.A (isTrue e X.env whole) (TP X pins σ Q) X.xe s
theorem PW.pt {X : Cx} {e : Expr} {t : TT} (h : PW X e t) : PT X e t := h _
noncomputable def PA (X : Cx) (es : List Expr) (t : TA) : Prop :=
  ∀ (pos : Pos) (pins : List (Addr × Obj)) (s : Shared) (σ : St) (H : Hp) (Q : List V → Hp → Prop), Inv X pins σ H s → t σ H Q → wpAny (model X.prog X.w) X.A (spliced (backTo pos (starEach es X.env))) (AP X pins σ Q) X.xe s
noncomputable def PS (X : Cx) (st : Stmt) (t : TS) : Prop :=
  ∀ (pins : List (Addr × Obj)) (s : Shared) (σ : St) (H : Hp) (D : Ends), Inv X pins σ H s → t D σ H → wpAny (model X.prog X.w) X.A (exec st X.env) (SP X pins D) X.xe s
noncomputable def PSs (X : Cx) (st : List Stmt) (t : TS) : Prop :=
  ∀ (pins : List (Addr × Obj)) (s : Shared) (σ : St) (H : Hp) (D : Ends), Inv X pins σ H s → t D σ H → wpAny (model X.prog X.w) X.A (execs st X.env) (SP X pins D) X.xe s
theorem thn {α : Type} {t : Sem α} {Q Q' : α → Shared → Prop} {M : Model} {A : Around} {E : Value → Shared → Prop} {s : Shared} (h : wpAny M A t Q E s) (hQ : ∀ a s, Q a s → Q' a s) : wpAny M A t Q' E s := wpAny_mono h hQ fun _ _ x => x
end L2
namespace L2
open PySem PySem.Spec PyProof.Rows
section
variable {X : Cx}
noncomputable def tVar (i : Nat) : TE := fun σ H Q => ∃ v, σ[i]? = some (some v) ∧ Q v H
noncomputable def tC (v : V) : TE := fun _ H Q => Q v H
theorem pe_var {i : Nat} {x : Str} {pos : Pos} (hN : X.N[i]? = some x) (hv : Vis X.env.scope x) (hd : (x == ("__debug__" : Str)) = false := by decide) (hcd : (x == ("__classdict__" : Str)) = false := by decide) : PE X (.Name x pos) (tVar i) := by
  intro pins s σ H Q I h
  obtain ⟨v, e, h⟩ := h
  obtain ⟨m, hn, hl⟩ := I.loc
  obtain ⟨u, r, l⟩ := hl i x v hN e hv
  have fin : EP X pins σ Q u s := ⟨v, H, I, r, h⟩
  rcases l with ⟨hk, hm⟩ | ⟨hk, c, hc, hcell⟩
  · exact wpAny_Name (wpAny_loadName_local I.ok.kind hk hn hm fin) hd
  · rcases hk with hk | hk
    · exact wpAny_Name (wpAny_loadName_cell I.ok.kind hk hc hcell fin) hd
    · exact wpAny_Name (wpAny_loadName_free I.ok.kind hk hc hcell fin hcd) hd
theorem pe_int {i j pos} : PE X (.Constant (.int i) j pos) (tC (.int i)) := fun _ _ _ H _ I h => wpAny_Constant_int ⟨.int i, H, I.tok _, ⟨_, rfl⟩, h⟩
theorem pe_bl {b j pos} : PE X (.Constant (.bool b) j pos) (tC (.bl b)) := fun _ _ _ H _ I h => Constant_bool ⟨.bl b, H, I, rfl, h⟩
theorem pe_non {j pos} : PE X (.Constant .none j pos) (tC .non) := fun _ _ _ H _ I h => Constant_none ⟨.non, H, I, rfl, h⟩
theorem pe_str {x j pos} : PE X (.Constant (.str x) j pos) (tC (.str x)) := fun _ _ _ H _ I h => Calls.Constant_str ⟨.str x, H, I.tok _, ⟨_, rfl⟩, h⟩
noncomputable def Gl (X : Cx) (x : Str) : Prop := X.env.kindOf x = some .globalImplicit
theorem ld_glob {E : Value → Shared → Prop} {pins : List (Addr × Obj)} {s : Shared} {σ : St} {H : Hp} {x : Str} {u : Value} {pos : Pos} {Q : Value → Shared → Prop} (I : Inv X pins σ H s) (hg : Gl X x) (hm : X.mg x = some u) (h : Q u s)
    (hd : (x == ("__debug__" : Str)) = false := by decide) : wpAny (model X.prog X.w) X.A (eval (.Name x pos) X.env) Q E s :=
  Calls.Name_function_global I.ok.kind hg (Calls.loadGlobal_global (by rw [I.ok.glob]; exact I.mod.glob.keeps I.bk) hm h) hd
theorem ld_blt {E : Value → Shared → Prop} {pins : List (Addr × Obj)} {s : Shared} {σ : St} {H : Hp} {x : Str} {u : Value} {pos : Pos} {Q : Value → Shared → Prop} (I : Inv X pins σ H s) (hg : Gl X x) (hm : X.mg x = none) (hv : bootBuiltins x = some u) (h : Q u s)
    (hn : x ≠ "__name__" := by decide) (hd : (x == ("__debug__" : Str)) = false := by decide) : wpAny (model X.prog X.w) X.A (eval (.Name x pos) X.env) Q E s := by
  obtain ⟨mb, h1, h2⟩ := I.mod.blt
  exact Calls.Name_function_global I.ok.kind hg (Calls.loadGlobal_builtin (by rw [I.ok.glob]; exact I.mod.glob.keeps I.bk) hm (by rw [I.ok.blt]; exact h1.keeps I.bk) ((h2 x hn).trans hv) h) hd
theorem pe_glob {x : Str} {v : V} {u : Value} {pos : Pos} (hg : Gl X x) (hm : X.mg x = some u) (r : RelV v u) (hd : (x == ("__debug__" : Str)) = false := by decide) : PE X (.Name x pos) (tC v) :=
  fun _ _ _ H _ I h => ld_glob I hg hm ⟨v, H, I, r, h⟩ hd
theorem pe_bltn {x : Str} {v : V} {u : Value} {pos : Pos} (hg : Gl X x) (hm : X.mg x = none) (hv : bootBuiltins x = some u) (r : RelV v u) (hn : x ≠ "__name__" := by decide) (hd : (x == ("__debug__" : Str)) = false := by decide) : PE X (.Name x pos) (tC v) :=
  fun _ _ _ H _ I h => ld_blt I hg hm hv ⟨v, H, I, r, h⟩ hn hd
variable {a b : Expr} {ta tb : TE} {pos : Pos}
noncomputable def tB (t : TE) : TT := fun σ H Q => t σ H fun x H1 => ∃ c, x = .bl c ∧ Q c H1
variable {tA tB' : TT} {rest : List Expr}
noncomputable def tAnd (t u : TT) : TT := fun σ H Q => t σ H fun c H1 => if c = true then u σ H1 Q else Q false H1
noncomputable def tOr (t u : TT) : TT := fun σ H Q => t σ H fun c H1 => if c = true then Q true H1 else u σ H1 Q
noncomputable def tNot (t : TT) : TT := fun σ H Q => t σ H fun c H1 => Q (!c) H1
theorem pw_and1 (ha : PT X a tA) : PW X (.BoolOp .And [a] pos) tA := by
  intro wh pins s σ H Q I h
  refine isTrue_and (thn (ha pins s σ H Q I h) fun c s1 e => ?_)
  cases c with
  | true => exact isTrue_and_nil e
  | false => exact e
theorem pw_or1 (ha : PT X a tA) : PW X (.BoolOp .Or [a] pos) tA := by
  intro wh pins s σ H Q I h
  refine isTrue_or (thn (ha pins s σ H Q I h) fun c s1 e => ?_)
  cases c with
  | false => exact isTrue_or_nil e
  | true => exact e
theorem pw_and (ha : PT X a tA) (hb : PW X (.BoolOp .And (b :: rest) pos) tB') : PW X (.BoolOp .And (a :: b :: rest) pos) (tAnd tA tB') := by
  intro wh pins s σ H Q I h
  refine isTrue_and (thn (ha pins s σ H _ I h) fun c s1 hZq => ?_)
  obtain ⟨H1, I1, q1⟩ := hZq
  cases c with
  | true => exact hb wh pins s1 σ H1 Q I1 q1
  | false => exact ⟨H1, I1, q1⟩
theorem pw_or (ha : PT X a tA) (hb : PW X (.BoolOp .Or (b :: rest) pos) tB') : PW X (.BoolOp .Or (a :: b :: rest) pos) (tOr tA tB') := by
  intro wh pins s σ H Q I h
  refine isTrue_or (thn (ha pins s σ H _ I h) fun c s1 hZq => ?_)
  obtain ⟨H1, I1, q1⟩ := hZq
  cases c with
  | true => exact ⟨H1, I1, q1⟩
  | false => exact hb wh pins s1 σ H1 Q I1 q1
theorem pt_not (ha : PT X a tA) : PT X (.UnaryOp .Not a pos) (tNot tA) := by
  intro pins s σ H Q I h
  exact isTrue_not (ha pins s σ H (fun c H1 => Q (!c) H1) I h)
noncomputable def tAndV (ta tb : TE) : TE := fun σ H Q => ta σ H fun x H1 => ∃ c, x = .bl c ∧ if c = true then tb σ H1 Q else Q (.bl false) H1
theorem pe_one {op} {t : TE} (h : PE X a t) : PE X (.BoolOp op [a] pos) t := fun pins s σ H Q I hw => BoolOp_one (h pins s σ H Q I hw)
theorem pe_and (ha : PE X a ta) (hb : PE X (.BoolOp .And (b :: rest) pos) tb) : PE X (.BoolOp .And (a :: b :: rest) pos) (tAndV ta tb) := by
  intro pins s σ H Q I h
  refine BoolOp_and (thn (ha pins s σ H _ I h) fun v s1 hZq => ?_)
  obtain ⟨x, H1, I1, r1, q1⟩ := hZq
  obtain ⟨c, rfl, q1⟩ := q1
  cases r1
  refine wpAny_truthy_bool ?_
  cases c with
  | true => exact hb pins s1 σ H1 Q I1 q1
  | false => exact ⟨.bl false, H1, I1, rfl, q1⟩
noncomputable def tIf (t : TT) (ta tb : TE) : TE := fun σ H Q => t σ H fun c H1 => if c = true then ta σ H1 Q else tb σ H1 Q
theorem pe_ifExp {c : Expr} (hc : PT X c tA) (ha : PE X a ta) (hb : PE X b tb) : PE X (.IfExp c a b pos) (tIf tA ta tb) := by
  intro pins s σ H Q I h
  refine wpAny_IfExp (thn (hc pins s σ H _ I h) fun d s1 hZq => ?_)
  obtain ⟨H1, I1, q1⟩ := hZq
  cases d with
  | true => exact ha pins s1 σ H1 Q I1 q1
  | false => exact hb pins s1 σ H1 Q I1 q1
end
end L2
namespace L2
open PySem PySem.Spec PyProof.Rows
noncomputable def SqL (K : PySem.W.Frag) (H : Hp) (a : Addr) (xs : List V) : Prop :=
  Rd H a (.lst xs) ∨
    ∃ (o : Obj) (its : Array Value) (n : Nat), K.lookup a = some o ∧ o.cls = .type "list" ∧ o.dict = none ∧ o.data = .seq its n ∧ its.size ≤ sizeLine ∧ Vals xs its.toList
noncomputable def SqT (K : PySem.W.Frag) (H : Hp) (a : Addr) (xs : List V) : Prop :=
  Rd H a (.tup xs) ∨
    ∃ (o : Obj) (its : Array Value) (n : Nat), K.lookup a = some o ∧ o.cls = .type "tuple" ∧ o.data = .seq its n ∧ its.size ≤ sizeLine ∧ Vals xs its.toList
noncomputable def absV : Value → Option V
  | .none => some .non
  | .bool b => some (.bl b)
  | .int i _ => some (.int i)
  | .str x _ => some (.str x)
  | .bytes b _ => some (.byt b)
  | .float b _ => some (.flt b)
  | .ref a => some (.ref a)
  | .type n => some (.ty n)
  | _ => none
theorem RelV.abs {x : V} {u : Value} (r : RelV x u) : absV u = some x := by
  cases x with
  | non => cases r; rfl
  | bl _ => cases r; rfl
  | int _ => obtain ⟨t, rfl⟩ := r; rfl
  | str _ => obtain ⟨t, rfl⟩ := r; rfl
  | byt _ => obtain ⟨t, rfl⟩ := r; rfl
  | flt _ => obtain ⟨t, rfl⟩ := r; rfl
  | ref _ => cases r; rfl
  | ty _ => cases r; rfl
theorem RelV.inj {x y : V} {u : Value} (r : RelV x u) (q : RelV y u) : x = y := Option.some.inj (r.abs.symm.trans q.abs)
theorem Vals.inj {xs ys : List V} {us : List Value} (h : Vals xs us) (h' : Vals ys us) : xs = ys := by
  induction h generalizing ys with
  | nil => cases h'; rfl
  | cons r t ih =>
    cases h' with
    | cons r' t' => rw [r.inj r', ih t']
section
variable {X : Cx} {pins : List (Addr × Obj)} {σ : St} {H : Hp} {s : Shared} {a : Addr} {xs ys : List V}
theorem SqL.of {K : PySem.W.Frag} (h : H a = some (.lst xs)) : SqL K H a xs := .inl (.inl h)
theorem SqT.of {K : PySem.W.Frag} (h : H a = some (.tup xs)) : SqT K H a xs := .inl (.inl h)
theorem Inv.list (I : Inv X pins σ H s) (h : SqL X.K H a xs) : ∃ its : List Value, Vals xs its ∧ PlainL s.heap a its.toArray ∧ xs.length ≤ sizeLine := by
  rcases h with h | ⟨o, its, n, hk, hc, hd, hs, hz, r⟩
  · obtain ⟨z, its, n, r, e⟩ := h.ok I.hok
    exact ⟨its, r, ⟨_, n, e, rfl, rfl, rfl⟩, z⟩
  · refine ⟨its.toList, r, ⟨o, n, I.kIn a o hk, hc, hd, by simpa using hs⟩, ?_⟩
    have e := r.length
    simp only [Array.length_toList] at e
    (clear hs hd hc hk; omega)
theorem Inv.tuple (I : Inv X pins σ H s) (h : SqT X.K H a xs) : ∃ its : List Value, Vals xs its ∧ IsTup s.heap a its.toArray ∧ xs.length ≤ sizeLine := by
  rcases h with h | ⟨o, its, n, hk, hc, hs, hz, r⟩
  · obtain ⟨z, its, r, p⟩ := h.ok I.hok
    exact ⟨its, r, p, z⟩
  · refine ⟨its.toList, r, ⟨o, I.kIn a o hk, hc, n, by simpa using hs⟩, ?_⟩
    have e := r.length
    simp only [Array.length_toList] at e
    (clear hs hc hk; omega)
theorem Inv.list_inj (I : Inv X pins σ H s) (h : SqL X.K H a xs) (h' : SqL X.K H a ys) : xs = ys := by
  obtain ⟨its, r, ⟨o, n, e, _, _, d⟩, _⟩ := I.list h
  obtain ⟨its', r', ⟨o', n', e', _, _, d'⟩, _⟩ := I.list h'
  rw [e] at e'; cases e'
  rw [d] at d'
  injection d' with d1 _
  have : its = its' := by simpa using congrArg Array.toList d1
  subst this
  exact r.inj r'
theorem Inv.tuple_inj (I : Inv X pins σ H s) (h : SqT X.K H a xs) (h' : SqT X.K H a ys) : xs = ys := by
  obtain ⟨its, r, ⟨o, e, _, n, d⟩, _⟩ := I.tuple h
  obtain ⟨its', r', ⟨o', e', _, n', d'⟩, _⟩ := I.tuple h'
  rw [e] at e'; cases e'
  rw [d] at d'
  injection d' with d1 _
  have : its = its' := by simpa using congrArg Array.toList d1
  subst this
  exact r.inj r'
end
noncomputable abbrev Cx.wish (X : Cx) (E : Value → Shared → Prop) : Cx := { X with xe := E }
noncomputable abbrev Cx.nox (X : Cx) : Cx := X.wish fun _ _ => False
theorem Cx.Ok.wish {X : Cx} (ok : X.Ok) (E : Value → Shared → Prop) : (X.wish E).Ok :=
  ⟨ok.mod, ok.kind, ok.glob, ok.blt, ok.above, ok.inj, ok.has, ok.cab, ok.hd, ok.frames, ok.stk, ok.exf, ok.bs, ok.bsz, ok.noex, ok.exfs, ok.funs, ok.frf⟩
theorem Cx.Ok.unwish {X : Cx} {E : Value → Shared → Prop} (ok : (X.wish E).Ok) : X.Ok :=
  ⟨ok.mod, ok.kind, ok.glob, ok.blt, ok.above, ok.inj, ok.has, ok.cab, ok.hd, ok.frames, ok.stk, ok.exf, ok.bs, ok.bsz, ok.noex, ok.exfs, ok.funs, ok.frf⟩
section
variable {X : Cx} {pins : List (Addr × Obj)} {σ : St} {H : Hp} {s : Shared} {E : Value → Shared → Prop}
theorem Inv.wish (I : Inv X pins σ H s) (E : Value → Shared → Prop) : Inv (X.wish E) pins σ H s := ⟨I.ok.wish E, I.os, I.bare, I.base, I.loc, I.cell, I.free, I.freeC, I.pin, I.hok, I.len⟩
theorem Inv.unwish (I : Inv (X.wish E) pins σ H s) : Inv X pins σ H s := ⟨I.ok.unwish, I.os, I.bare, I.base, I.loc, I.cell, I.free, I.freeC, I.pin, I.hok, I.len⟩
theorem SP.unwish {D : Ends} {f : Flow} {s' : Shared} (h : SP (X.wish E) pins D f s') : SP X pins D f s' := by
  cases f with
  | next => obtain ⟨σ', H', I, q⟩ := h; exact ⟨σ', H', I.unwish, q⟩
  | brk => obtain ⟨σ', H', I, q⟩ := h; exact ⟨σ', H', I.unwish, q⟩
  | cont => obtain ⟨σ', H', I, q⟩ := h; exact ⟨σ', H', I.unwish, q⟩
  | ret u => obtain ⟨v, σ', H', I, r, q⟩ := h; exact ⟨v, σ', H', I.unwish, r, q⟩
theorem PE.nox {e : Expr} {t : TE} (h : PE X.nox e t) : PE X e t := fun pins s σ H Q I hw =>
  wpAny_mono (h pins s σ H Q (I.wish _) hw) (fun _ _ ⟨v, H', I', r, q⟩ => ⟨v, H', I'.unwish, r, q⟩) fun _ _ z => False.elim z
theorem PT.nox {e : Expr} {t : TT} (h : PT X.nox e t) : PT X e t := fun pins s σ H Q I hw =>
  wpAny_mono (h pins s σ H Q (I.wish _) hw) (fun _ _ ⟨H', I', q⟩ => ⟨H', I'.unwish, q⟩) fun _ _ z => False.elim z
theorem PSs.nox {st : List Stmt} {t : TS} (h : PSs X.nox st t) : PSs X st t := fun pins s σ H D I hw =>
  wpAny_mono (h pins s σ H D (I.wish _) hw) (fun _ _ q => q.unwish) fun _ _ z => False.elim z
end
section
variable {X : Cx} {st : Stmt} {rest : List Stmt} {t u : TS} {e : Expr} {te : TE} {pos : Pos}
noncomputable def tNext : TS := fun D σ H => D.nx σ H
noncomputable def tSeq (t u : TS) : TS := fun D σ H => t { D with nx := u D } σ H
theorem pss_nil : PSs X [] tNext := fun _ _ σ H _ I h => wpAny_execs_nil ⟨σ, H, I, h⟩
theorem pss_cons (h1 : PS X st t) (h2 : PSs X rest u) : PSs X (st :: rest) (tSeq t u) := by
  intro pins s σ H D I h
  refine wpAny_execs_cons (thn (h1 pins s σ H { D with nx := u D } I h) fun f s1 q => ?_)
  cases f with
  | next =>
    obtain ⟨σ', H', I', q⟩ := q
    exact h2 pins s1 σ' H' D I' q
  | ret v => exact q
  | brk => exact q
  | cont => exact q
theorem pss_one (h1 : PS X st t) : PSs X [st] t := by
  intro pins s σ H D I h
  refine wpAny_execs_cons (thn (h1 pins s σ H D I h) fun f s1 q => ?_)
  cases f with
  | next => exact wpAny_execs_nil q
  | ret v => exact q
  | brk => exact q
  | cont => exact q
theorem Inv.quiet {pins : List (Addr × Obj)} {σ : St} {H : Hp} {s : Shared} (I : Inv X pins σ H s) : interactive X.env = false := by simp [interactive, I.ok.kind]
noncomputable def tDrop (te : TE) : TS := fun D σ H => te σ H fun _ H1 => D.nx σ H1
theorem ps_expr (he : PE X e te) (hs : swapsWith e none pos.line X.env = pure false := by rfl) : PS X (.Expr e pos) (tDrop te) := by
  intro pins s σ H D I h
  exact wpAny_Expr_any (thn (he pins s σ H _ I h) fun v s1 ⟨x, H1, I1, r1, q1⟩ => ⟨σ, H1, I1, q1⟩) I.quiet hs
noncomputable def tRet (te : TE) : TS := fun D σ H => te σ H D.rt
theorem ps_ret (he : PE X e te) : PS X (.Return (some e) pos) (tRet te) := by
  intro pins s σ H D I h
  exact wpAny_Return_some (thn (he pins s σ H _ I h) fun v s1 ⟨x, H1, I1, r1, q1⟩ => ⟨x, σ, H1, I1, r1, q1⟩)
noncomputable def tIfS (c : TT) (t u : TS) : TS := fun D σ H => c σ H fun b H1 => if b = true then t D σ H1 else u D σ H1
theorem ps_if {c : Expr} {a b : List Stmt} {tc : TT} (hc : PT X c tc) (ha : PSs X a t) (hb : PSs X b u) : PS X (.If c a b pos) (tIfS tc t u) := by
  intro pins s σ H D I h
  refine wpAny_If (thn (hc pins s σ H _ I h) fun d s1 hZq => ?_)
  obtain ⟨H1, I1, q1⟩ := hZq
  cases d with
  | true => exact ha pins s1 σ H1 D I1 q1
  | false => exact hb pins s1 σ H1 D I1 q1
noncomputable def tNever : TS := fun _ _ _ => False
theorem ps_never : PS X st tNever := fun _ _ _ _ _ _ h => h.elim
end
noncomputable abbrev TG := V → St → Hp → (St → Hp → Prop) → Prop
noncomputable def PG (X : Cx) (target : Expr) (t : TG) : Prop :=
  ∀ (pins : List (Addr × Obj)) (s : Shared) (σ : St) (H : Hp) (v : V) (u : Value) (Q : St → Hp → Prop), Inv X pins σ H s → RelV v u → t v σ H Q →
    wpAny (model X.prog X.w) X.A (assign target X.env u) (fun _ s' => ∃ σ' H', Inv X pins σ' H' s' ∧ Q σ' H') X.xe s
section
variable {X : Cx} {pos : Pos}
noncomputable def gName (i : Nat) : TG := fun v σ H Q => Q (σ.set i (some v)) H
theorem pg_name {i : Nat} {x : Str} (hN : X.N.Nodup) (hi : X.N[i]? = some x) (hx : Loc X.env.scope x) (hf : X.fn x = true ∨ X.env.scope.names.lookup x = some .local := by first | exact .inl rfl | exact .inr rfl | assumption) : PG X (.Name x pos) (gName i) := by
  intro pins s σ H v u Q I r h
  exact wpAny_assign_Name (store_ok I hN hi hx r (fun s' I' => ⟨_, H, I', h⟩) hf)
noncomputable def tAsg (te : TE) (g : TG) : TS := fun D σ H => te σ H fun x H1 => g x σ H1 D.nx
theorem ps_asg {tg e : Expr} {te : TE} {g : TG} (he : PE X e te) (hg : PG X tg g) (hs : swapsWithSole [tg] e pos.line X.env = pure false := by rfl) (hw : swappedStores [tg] e X.env = pure none := by rfl)
    (h1 : (assignEach [tg] X.env).map (·.2) = [assign tg X.env] := by rfl) : PS X (.Assign [tg] e pos) (tAsg te g) := by
  intro pins s σ H D I h
  refine wpAny_Assign_stores (thn (he pins s σ H _ I h) fun v s1 hZq => ?_) hs hw
  obtain ⟨x, H1, I1, r1, q1⟩ := hZq
  rw [h1]
  exact thn (hg pins s1 σ H1 x v _ I1 r1 q1) fun _ s2 q => q
theorem ps_set {i : Nat} {x : Str} {e : Expr} {te : TE} {pos' : Pos} (hN : X.N.Nodup) (hi : X.N[i]? = some x) (hx : Loc X.env.scope x) (he : PE X e te) (hs : swapsWith e (some (.Name x pos')) pos.line X.env = pure false := by rfl) (hf : X.fn x = true ∨ X.env.scope.names.lookup x = some .local := by first | exact .inl rfl | exact .inr rfl | assumption) :
    PS X (.Assign [.Name x pos'] e pos) (tAsg te (gName i)) := by
  intro pins s σ H D I h
  refine wpAny_Assign_Name (thn (he pins s σ H _ I h) fun v s1 hZq => ?_) hs
  obtain ⟨y, H1, I1, r1, q1⟩ := hZq
  exact store_ok I1 hN hi hx r1 (fun s2 I2 => ⟨_, H1, I2, q1⟩) hf
end
section
variable {X : Cx} {pos : Pos}
end
structure It where
  go : Nat → Hp → Prop
  yld : Nat → Hp → V → Hp → Prop
  stop : Nat → Hp → Prop
noncomputable def FpOk (X : Cx) (pins : List (Addr × Obj)) (H : Hp) (b : Addr) : Prop :=
  H b = none ∧ b ≠ X.env.locals ∧ b ∉ X.fs ∧ (b ∈ X.ex ∨ X.s₀.heap.objs.size ≤ b) ∧ (∀ x c, X.env.cells.lookup x = some c → c ≠ b) ∧ ∀ p ∈ X.pn ++ pins, p.1 ≠ b
theorem Inv.fpOk {X : Cx} {pins : List (Addr × Obj)} {σ : St} {H H' : Hp} {s : Shared} {b : Addr} (I : Inv X pins σ H s) (hb : s.heap.objs.size ≤ b) (hn : H' b = none) : FpOk X pins H' b := by
  refine ⟨hn, Nat.ne_of_gt (Nat.lt_of_lt_of_le I.lt hb), I.nofs hb, .inr (Nat.le_trans I.sz hb), fun x c e z => ?_, fun p hp z => ?_⟩
  · obtain ⟨v, q⟩ := I.cell x c e
    exact absurd (Nat.lt_of_lt_of_le q.lt (by rw [z]; exact hb)) (Nat.lt_irrefl _)
  · exact absurd (Nat.lt_of_lt_of_le (Heap.lt_size (I.pin p hp).1) (by rw [z]; exact hb)) (Nat.lt_irrefl _)
structure Turn (P : Program) (w : World) (K : PySem.W.Frag) (tg : Expr) (J : It) (fp : List Addr) (it : Addr) (tn : Nat → Heap → Prop) : Prop where
  mem : it ∈ fp
  obj : ∀ i h, tn i h → ∀ b ∈ fp, ∃ o, h.get? b = some o ∧ ∀ v, o.data ≠ .cell v
  keep : ∀ i h h', tn i h → (∀ b ∈ fp, ∀ o, h.get? b = some o → h'.get? b = some o) → tn i h'
  item : ∀ (X : Cx), X.prog = P → X.w = w → X.K = K → X.calm = true → ∀ (i : Nat) (pins : List (Addr × Obj)) (s : Shared) (σ : St) (H : Hp) (E : Value → Shared → Prop), Inv X pins σ H s → (∀ b ∈ fp, FpOk X pins H b) → tn i s.heap → J.go i H →
    wpAny (model P w) X.A (pyNext (.ref it)) (fun r s1 => ∃ u, r = some u ∧
      wpAny (model P w) X.A (letOwnedTupleGo tg (.ref it) u) (fun _ s2 => ∃ x H', Inv X pins σ H' s2 ∧ RelV x u ∧ J.yld i H x H' ∧ tn (i + 1) s2.heap ∧ ∀ b ∈ fp, H' b = none) E s1) E s
  done : ∀ (X : Cx), X.prog = P → X.w = w → X.K = K → X.calm = true → ∀ (i : Nat) (pins : List (Addr × Obj)) (s : Shared) (σ : St) (H : Hp) (E : Value → Shared → Prop), Inv X pins σ H s → (∀ b ∈ fp, FpOk X pins H b) → tn i s.heap → J.stop i H →
    wpAny (model P w) X.A (pyNext (.ref it)) (fun r s1 => r = none ∧ Inv X pins σ H s1) E s
  self : ∀ (A : Around) (i : Nat) (s : Shared) (Q : Value → Shared → Prop) (E : Value → Shared → Prop), tn i s.heap → Q (.ref it) s → wpAny (model P w) A (pyIter (.ref it)) Q E s
noncomputable abbrev TI := St → Hp → (It → Hp → Prop) → Prop
noncomputable def PIE (X : Cx) (pins : List (Addr × Obj)) (σ : St) (tg : Expr) (R : It → Hp → Prop) (itv : Value) (s2 : Shared) : Prop :=
  ∃ (it : Addr) (fp : List Addr) (tn : Nat → Heap → Prop) (J : It) (H' : Hp), itv = .ref it ∧ Inv X pins σ H' s2 ∧ Turn X.prog X.w X.K tg J fp it tn ∧ tn 0 s2.heap ∧ (∀ b ∈ fp, FpOk X pins H' b) ∧ R J H'
noncomputable def PI (X : Cx) (tg iter : Expr) (wi : TI) : Prop :=
  ∀ (pins : List (Addr × Obj)) (s : Shared) (σ : St) (H : Hp) (R : It → Hp → Prop), Inv X pins σ H s → wi σ H R →
    wpAny (model X.prog X.w) X.A (eval iter X.env) (fun v s1 => wpAny (model X.prog X.w) X.A (pyIter v) (PIE X pins σ tg R) X.xe s1) X.xe s
theorem go_of {M : Model} {A : Around} {E : Value → Shared → Prop} {s : Shared} {tg : Expr} {it : Addr} {u : Value} {o : Obj} {n : String} {vs : Array Value} {Q : Unit → Shared → Prop} (ho : s.heap.get? it = some o) (hc : o.cls = .type n) (hd : o.data = .fields vs)
    (hn : ["enumerate", "zip", "dict_itemiterator", "dict_reverseitemiterator", "odict_iterator", "itertools.zip_longest", "itertools.pairwise"].contains n = false) (hQ : Q () s) : wpAny M A (letOwnedTupleGo tg (.ref it) u) Q E s := by
  unfold letOwnedTupleGo
  cases tg <;> first
    | exact wpAny_pure hQ
    | (cases u <;> first
        | exact wpAny_pure hQ
        | (refine wpAny_bind (wpAny_load ho ?_)
           rw [hc, hd]
           show wpAny M A (if (["enumerate", "zip", "dict_itemiterator", "dict_reverseitemiterator", "odict_iterator", "itertools.zip_longest", "itertools.pairwise"].contains n && vs[0]? == some (rawInt _)) = true then _ else _) Q E s
           rw [if_neg (by intro h; rw [hn, Bool.false_and] at h; cases h)]
           exact wpAny_pure hQ))
noncomputable def Itl (K : PySem.W.Frag) (a : Addr) : It :=
  ⟨fun i H => ∃ xs x, SqL K H a xs ∧ xs[i]? = some x, fun i H x H' => H' = H ∧ ∀ xs, SqL K H a xs → xs[i]? = some x, fun i H => ∃ xs, SqL K H a xs ∧ xs.length ≤ i⟩
noncomputable def Itt (K : PySem.W.Frag) (a : Addr) : It :=
  ⟨fun i H => ∃ xs x, SqT K H a xs ∧ xs[i]? = some x, fun i H x H' => H' = H ∧ ∀ xs, SqT K H a xs → xs[i]? = some x, fun i H => ∃ xs, SqT K H a xs ∧ xs.length ≤ i⟩
noncomputable def Itr (lo : Int) (n : Nat) : It := ⟨fun i _ => i < n, fun i H x H' => H' = H ∧ x = .int (lo + i), fun i _ => n ≤ i⟩
theorem turn_list {P : Program} {w : World} {K : PySem.W.Frag} {tg : Expr} (a it : Addr) : Turn P w K tg (Itl K a) [it] it (fun i h => h.IsListIter it a i) where
  mem := by simp
  obj := fun i h st b hb => by
    have e : b = it := by simpa using hb
    subst e
    obtain ⟨o, e, c, d⟩ := st
    exact ⟨o, e, fun v z => by rw [d] at z; cases z⟩
  keep := fun i h h' st k => st.at fun o e => k it (by simp) o e
  item := by
    intro X hP hw hK hc i pins s σ H E I hf st hg
    subst hP hw hK
    obtain ⟨xs, x, hq, hx⟩ := hg
    obtain ⟨its, rv, p, hz⟩ := I.list hq
    obtain ⟨u, hu, ru⟩ := rv.get hx
    obtain ⟨f0, f1, f2, f3, f4, f5⟩ := hf it (by simp)
    refine wpAny_pyNext_list_item st p.isList (x := u) (by simpa using hu) fun h' st' sb => ?_
    have I1 : Inv X pins σ H { s with heap := h' } := I.turned (t' := s.toks) (fun b o hb e => (sb.2 b hb).trans e) f0 f1 f3 f4 f5
    obtain ⟨o, e, c, d⟩ := id st'
    exact ⟨u, rfl, go_of (s := { s with heap := h' }) e c d (by decide) ⟨x, H, I1, ru, ⟨rfl, fun ys hy => by rw [I.list_inj hy hq]; exact hx⟩, st', fun b hb => (hf b hb).1⟩⟩
  done := by
    intro X hP hw hK hc i pins s σ H E I hf st hg
    subst hP hw hK
    obtain ⟨xs, hq, hx⟩ := hg
    obtain ⟨its, rv, p, hz⟩ := I.list hq
    obtain ⟨f0, f1, f2, f3, f4, f5⟩ := hf it (by simp)
    have hl := rv.length
    exact wpAny_pyNext_list_end (I.ok.hd hc) st p.isList (by simp; (clear f3 f2 f1 f0 hz hc; omega)) fun h' eb => ⟨rfl, I.turned (t' := s.toks) (fun b o hb e => eb b o hb e) f0 f1 f3 f4 f5⟩
  self := fun _ _ _ _ _ st h => wpAny_pyIter_listiter st h
theorem turn_tuple {P : Program} {w : World} {K : PySem.W.Frag} {tg : Expr} (a it : Addr) : Turn P w K tg (Itt K a) [it] it (fun i h => h.IsTupleIter it a i) where
  mem := by simp
  obj := fun i h st b hb => by
    have e : b = it := by simpa using hb
    subst e
    obtain ⟨o, e, c, d⟩ := st
    exact ⟨o, e, fun v z => by rw [d] at z; cases z⟩
  keep := fun i h h' st k => st.at fun o e => k it (by simp) o e
  item := by
    intro X hP hw hK hc i pins s σ H E I hf st hg
    subst hP hw hK
    obtain ⟨xs, x, hq, hx⟩ := hg
    obtain ⟨its, rv, p, hz⟩ := I.tuple hq
    obtain ⟨u, hu, ru⟩ := rv.get hx
    obtain ⟨f0, f1, f2, f3, f4, f5⟩ := hf it (by simp)
    refine wpAny_pyNext_tuple_item st (show s.heap.IsTuple a its.toArray from p) (x := u) (by simpa using hu) fun h' st' sb => ?_
    have I1 : Inv X pins σ H { s with heap := h' } := I.turned (t' := s.toks) (fun b o hb e => (sb.2 b hb).trans e) f0 f1 f3 f4 f5
    obtain ⟨o, e, c, d⟩ := id st'
    exact ⟨u, rfl, go_of (s := { s with heap := h' }) e c d (by decide) ⟨x, H, I1, ru, ⟨rfl, fun ys hy => by rw [I.tuple_inj hy hq]; exact hx⟩, st', fun b hb => (hf b hb).1⟩⟩
  done := by
    intro X hP hw hK hc i pins s σ H E I hf st hg
    subst hP hw hK
    obtain ⟨xs, hq, hx⟩ := hg
    obtain ⟨its, rv, p, hz⟩ := I.tuple hq
    obtain ⟨f0, f1, f2, f3, f4, f5⟩ := hf it (by simp)
    have hl := rv.length
    exact wpAny_pyNext_tuple_end (I.ok.hd hc) st (show s.heap.IsTuple a its.toArray from p) (by simp; (clear f3 f2 f1 f0 hz hc; omega)) fun h' eb => ⟨rfl, I.turned (t' := s.toks) (fun b o hb e => eb b o hb e) f0 f1 f3 f4 f5⟩
  self := fun _ _ _ _ _ st h => wpAny_pyIter_tupleiter st h
theorem turn_range {P : Program} {w : World} {K : PySem.W.Frag} {tg : Expr} (it : Addr) (lo : Int) (n : Nat) : Turn P w K tg (Itr lo n) [it] it (fun i h => IsRangeIter h it (lo + (i : Nat) * 1) ((n : Int) - (i : Nat)) 1) where
  mem := by simp
  obj := fun i h st b hb => by
    have e : b = it := by simpa using hb
    subst e
    exact ⟨_, st, fun v z => by
      have z' : Data.fields _ = Data.cell v := z
      cases z'⟩
  keep := fun i h h' st k => k it (by simp) _ st
  item := by
    intro X hP hw hK hc i pins s σ H E I hf st hg
    subst hP hw hK
    obtain ⟨f0, f1, f2, f3, f4, f5⟩ := hf it (by simp)
    have W := Walks.range (prog := X.prog) (w := X.w) (I.ok.hd hc) it lo 1 n
    refine W.item i s _ _ hg st fun v h' tk hv st' kk => ?_
    obtain ⟨t, rfl⟩ := hv
    have I1 : Inv X pins σ H { s with heap := h', toks := tk } := I.turned (fun b o hb e => kk b o (by simpa using hb) e) f0 f1 f3 f4 f5
    refine ⟨_, rfl, go_of (s := { s with heap := h', toks := tk }) (n := "range_iterator") st' rfl rfl (by decide) ⟨.int (lo + i), H, I1, ⟨t, ?_⟩, ⟨rfl, rfl⟩, st', fun b hb => (hf b hb).1⟩⟩
    rw [Int.mul_one]
  done := by
    intro X hP hw hK hc i pins s σ H E I hf st hg
    subst hP hw hK
    obtain ⟨f0, f1, f2, f3, f4, f5⟩ := hf it (by simp)
    exact wpAny_pyNext_range_end (I.ok.hd hc) st (by have : n ≤ i := hg; (clear f3 f2 f1 f0 hc; omega)) fun h' eb => ⟨rfl, I.turned (t' := s.toks) (fun b o hb e => eb b o hb e) f0 f1 f3 f4 f5⟩
  self := fun _ _ _ _ _ st h => wpAny_pyIter_rangeiter st h
end L2
namespace L2
open PySem PySem.Spec PyProof.Rows
section
variable {X : Cx} {tg : Expr}
theorem range_it {pins : List (Addr × Obj)} {σ : St} {H : Hp} {s : Shared} {R : It → Hp → Prop} {E : Value → Shared → Prop} {lo hi : Int} {t u v : Tok} {tk : Nat} (I : Inv X pins σ H s) (h1 : -(2 ^ 62) ≤ lo) (h2 : lo < 2 ^ 62) (h3 : -(2 ^ 62) ≤ hi) (h4 : hi < 2 ^ 62)
    (q : R (Itr lo (hi - lo).toNat) H) : wpAny (model X.prog X.w) X.A (pyIter (.ref s.heap.objs.size)) (PIE X pins σ tg R) E { s with heap := s.heap.push { cls := .type "range", data := .fields #[.int lo t, .int hi u, .int 1 v] }, toks := tk } := by
  refine wpAny_pyIter_range (IsRange.new ..) (small_one h1 h2 h3 h4) ?_
  have I1 : Inv X pins σ H { s with heap := s.heap.push { cls := .type "range", data := .fields #[.int lo t, .int hi u, .int 1 v] }, toks := tk } := I.kept fun b o e => Heap.get?_push_of_some _ e
  refine ⟨(s.heap.push { cls := .type "range", data := .fields #[.int lo t, .int hi u, .int 1 v] }).objs.size, [(s.heap.push { cls := .type "range", data := .fields #[.int lo t, .int hi u, .int 1 v] }).objs.size], _, _, H, rfl,
    I1.kept (t' := tk) fun b o e => Heap.get?_push_of_some _ e, turn_range _ lo (hi - lo).toNat, ?_, fun b hb => ?_, q⟩
  · have e1 : lo + ((0 : Nat) : Int) * 1 = lo := by simp
    have e2 : (((hi - lo).toNat : Nat) : Int) - ((0 : Nat) : Int) = Builtin.Range.rangeSize lo hi 1 := by rw [rangeSize_one]; split <;> (clear e1 h4 h3 h2 h1; omega)
    show IsRangeIter _ _ (lo + ((0 : Nat) : Int) * 1) ((((hi - lo).toNat : Nat) : Int) - ((0 : Nat) : Int)) 1
    rw [e1, e2]
    exact Heap.get?_push_size _ rfl
  · have e : b = (s.heap.push { cls := .type "range", data := .fields #[.int lo t, .int hi u, .int 1 v] }).objs.size := by simpa using hb
    subst e
    exact I1.fpOk (Nat.le_refl _) (I1.hok.fresh (Nat.le_refl _))
noncomputable def iRng1 (ta : TA) : TI := fun σ H R => ta σ H fun vs H1 => ∃ j : Int, vs = [.int j] ∧ -(2 ^ 62) ≤ j ∧ j < 2 ^ 62 ∧ R (Itr 0 j.toNat) H1
noncomputable def iRng2 (ta : TA) : TI := fun σ H R => ta σ H fun vs H1 => ∃ i j : Int, vs = [.int i, .int j] ∧ (-(2 ^ 62) ≤ i ∧ i < 2 ^ 62 ∧ -(2 ^ 62) ≤ j ∧ j < 2 ^ 62) ∧ R (Itr i (j - i).toNat) H1
theorem pi_range1 {a : Expr} {ta : TA} {p pos : Pos} (hg : Gl X "range") (hm : X.mg "range" = none) (ha : PA X [a] ta) (hs : starEach [a] X.env = [(false, eval a X.env)] := by rfl) : PI X tg (.Call (.Name "range" p) [a] [] pos) (iRng1 ta) := by
  intro pins s σ H R I h
  refine Call_ (ld_blt I hg hm boot_range (PyProof.Rows.callWith_type1 (thn (ha pos pins s σ H _ I h) fun us s1 hZq => ?_) hs rfl))
  obtain ⟨vs, H1, I1, r1, q1⟩ := hZq
  obtain ⟨j, e, q1, q2, q⟩ := q1
  subst e
  cases r1 with
  | cons r rr =>
    cases rr
    obtain ⟨t, rfl⟩ := r
    exact call_range_1 (range_it I1 (by first | assumption | decide | omega) (by first | assumption | decide | omega) q1 q2 (by simpa using q))
theorem pi_range2 {a b : Expr} {ta : TA} {p pos : Pos} (hg : Gl X "range") (hm : X.mg "range" = none) (ha : PA X [a, b] ta) (hs : starEach [a, b] X.env = [(false, eval a X.env), (false, eval b X.env)] := by rfl) (hs2 : starEach [b] X.env = [(false, eval b X.env)] := by rfl) :
    PI X tg (.Call (.Name "range" p) [a, b] [] pos) (iRng2 ta) := by
  intro pins s σ H R I h
  refine Call_ (ld_blt I hg hm boot_range (PyProof.Rows.callWith_type1 (thn (ha pos pins s σ H _ I h) fun us s1 hZq => ?_) (by rw [hs, hs2]) (by rw [hs2]; rfl)))
  obtain ⟨vs, H1, I1, r1, q1⟩ := hZq
  obtain ⟨i, j, e, ⟨q1, q2, q3, q4⟩, q⟩ := q1
  subst e
  cases r1 with
  | cons r rr =>
    cases rr with
    | cons r' rr =>
      cases rr
      obtain ⟨t, rfl⟩ := r
      obtain ⟨t', rfl⟩ := r'
      exact call_range_2 (range_it I1 q1 q2 q3 q4 q)
noncomputable def tFor (wi : TI) (g : TG) (tb : TS) : TS := fun D σ H => wi σ H fun J H1 => ∃ W : Nat → Nat → St → Hp → Prop, (∃ m, W 0 m σ H1) ∧ ∀ i m σ H, W i m σ H →
  (J.stop i H ∧ D.nx σ H) ∨ (J.go i H ∧ ∃ N : St → Hp → Prop, (∀ σ' H', N σ' H' → ∃ m', m' < m ∧ W (i + 1) m' σ' H') ∧ ∀ x H', J.yld i H x H' → g x σ H' fun σ2 H2 => tb { D with nx := N, ct := N, bk := D.nx } σ2 H2)
noncomputable def pinsAt (fp : List Addr) (h : Heap) : List (Addr × Obj) := fp.filterMap fun b => (h.get? b).map fun o => (b, o)
theorem mem_pinsAt {fp : List Addr} {h : Heap} {b : Addr} {o : Obj} (hb : b ∈ fp) (e : h.get? b = some o) : (b, o) ∈ pinsAt fp h := List.mem_filterMap.mpr ⟨b, hb, by rw [e]; rfl⟩
theorem of_pinsAt {fp : List Addr} {h : Heap} {p : Addr × Obj} (hp : p ∈ pinsAt fp h) : p.1 ∈ fp ∧ h.get? p.1 = some p.2 := by
  obtain ⟨b, hb, e⟩ := List.mem_filterMap.mp hp
  cases q : h.get? b with
  | none => rw [q] at e; cases e
  | some o =>
    rw [q] at e
    have e' : (b, o) = p := Option.some.inj e
    subst e'
    exact ⟨hb, q⟩
theorem Inv.pinned {pins : List (Addr × Obj)} {σ : St} {H : Hp} {s : Shared} {fp : List Addr} (I : Inv X pins σ H s) (hf : ∀ b ∈ fp, FpOk X pins H b) (ho : ∀ b ∈ fp, ∃ o, s.heap.get? b = some o ∧ ∀ v, o.data ≠ .cell v) : Inv X (pins ++ pinsAt fp s.heap) σ H s :=
  I.pins_of fun p hp => (List.mem_append.mp hp).elim (fun z => I.pin p (List.mem_append_right _ z)) fun z => by
    obtain ⟨hb, e⟩ := of_pinsAt z
    obtain ⟨f0, f1, f2, _⟩ := hf p.1 hb
    obtain ⟨o, e', d⟩ := ho p.1 hb
    rw [e] at e'; cases e'
    exact ⟨e, f0, f1, f2, d⟩
theorem Inv.unpinned {pins pl : List (Addr × Obj)} {σ : St} {H : Hp} {s : Shared} (I : Inv X (pins ++ pl) σ H s) : Inv X pins σ H s := I.pins_of fun p hp => I.pin p (List.mem_append_right _ (List.mem_append_left _ hp))
theorem ps_for {iter : Expr} {body : List Stmt} {wi : TI} {g : TG} {tb : TS} {pos : Pos} (hp : PassesOwn (model X.prog X.w) X.A X.env X.xe) (hc : X.calm = true) (hi : PI X tg iter wi) (hg : PG X tg g) (hb : PSs X body tb)
    (hs : ∀ x, foldedSetIterable iter X.env x = pure x := by intro _; rfl) : PS X (.For tg iter body [] pos) (tFor wi g tb) := by
  intro pins s σ H D I h
  refine wpAny_For (thn (hi pins s σ H _ I h) fun v s1 h1 => thn h1 fun itv s2 h2 => ?_) hs
  obtain ⟨it, fp, tn, J, H2, e, I2, T, st2, f2, W, ⟨m0, w0⟩, turn⟩ := h2
  subst e
  have stat : ∀ {H' : Hp}, (∀ b ∈ fp, H' b = none) → ∀ b ∈ fp, FpOk X pins H' b := fun hn b hb => ⟨hn b hb, (f2 b hb).2⟩
  refine codeAny_forLoop_any (fun n s' => ∃ i σ' H', Inv X pins σ' H' s' ∧ tn i s'.heap ∧ (∀ b ∈ fp, H' b = none) ∧ W i n σ' H') ?_ m0 ⟨0, σ, H2, I2, st2, fun b hb => (f2 b hb).1, w0⟩
  rintro n s3 ⟨i, σ3, H3, I3, st3, fr3, w3⟩
  rcases turn i n σ3 H3 w3 with ⟨stop, qn⟩ | ⟨go, N, hN, step⟩
  · refine wpAny_passesOwn hp (thn (T.done X rfl rfl rfl hc i pins s3 σ3 H3 X.xe I3 (stat fr3) st3 stop) fun r s4 hZq => ?_)
    obtain ⟨hr, I4⟩ := hZq
    subst hr
    exact wpAny_execs_nil ⟨σ3, H3, I4, qn⟩
  · refine wpAny_passesOwn hp (thn (T.item X rfl rfl rfl hc i pins s3 σ3 H3 X.xe I3 (stat fr3) st3 go) fun r s4 hZq => ?_)
    obtain ⟨u, hr, h4⟩ := hZq
    subst hr
    refine wpAny_passesOwn hp (thn h4 fun _ s5 hZq => ?_)
    obtain ⟨x, H5, I5, r5, y5, st5, fr5⟩ := hZq
    have I5' := I5.pinned (stat fr5) (T.obj _ _ st5)
    refine wpAny_passesOwn hp (thn (hg _ s5 σ3 H5 x u _ I5' r5 (step x H5 y5)) fun _ s6 hZq => ?_)
    obtain ⟨σ6, H6, I6, q6⟩ := hZq
    refine wpAny_passesOwn hp (thn (hb _ s6 σ6 H6 _ I6 q6) fun f s7 q7 => ?_)
    have again : ∀ {σ7 : St} {H7 : Hp}, Inv X (pins ++ pinsAt fp s5.heap) σ7 H7 s7 → N σ7 H7 → ∃ m, m < n ∧ ∃ i σ' H', Inv X pins σ' H' s7 ∧ tn i s7.heap ∧ (∀ b ∈ fp, H' b = none) ∧ W i m σ' H' := fun {σ7 H7} I7 n7 => by
      obtain ⟨m', hm, w7⟩ := hN σ7 H7 n7
      refine ⟨m', hm, i + 1, σ7, H7, I7.unpinned, T.keep _ _ _ st5 fun b hb o e => (I7.pin (b, o) (List.mem_append_right _ (List.mem_append_right _ (mem_pinsAt hb e)))).1, fun b hb => ?_, w7⟩
      obtain ⟨o, e, d⟩ := T.obj _ _ st5 b hb
      exact (I7.pin (b, o) (List.mem_append_right _ (List.mem_append_right _ (mem_pinsAt hb e)))).2.1
    cases f with
    | next => obtain ⟨σ7, H7, I7, n7⟩ := q7; exact again I7 n7
    | cont => obtain ⟨σ7, H7, I7, n7⟩ := q7; exact again I7 n7
    | brk => obtain ⟨σ7, H7, I7, q7⟩ := q7; exact ⟨σ7, H7, I7.unpinned, q7⟩
    | ret v => obtain ⟨x7, σ7, H7, I7, r7, q7⟩ := q7; exact ⟨x7, σ7, H7, I7.unpinned, r7, q7⟩
end
end L2
namespace L2
open PySem PySem.Spec PyProof.Rows
noncomputable abbrev R2 := V → V → Hp → VK → Prop
noncomputable def OpR (X : Cx) (f : Value → Value → Sem Value) (r : R2) : Prop :=
  ∀ (pins : List (Addr × Obj)) (s : Shared) (σ : St) (H : Hp) (x y : V) (v u : Value) (Q : VK), Inv X pins σ H s → RelV x v → RelV y u → r x y H Q →
    wpAny (model X.prog X.w) X.A (f v u) (EP X pins σ Q) X.xe s
noncomputable def UnR (X : Cx) (f : Value → Sem Value) (r : V → Hp → VK → Prop) : Prop :=
  ∀ (pins : List (Addr × Obj)) (s : Shared) (σ : St) (H : Hp) (x : V) (v : Value) (Q : VK), Inv X pins σ H s → RelV x v → r x H Q →
    wpAny (model X.prog X.w) X.A (f v) (EP X pins σ Q) X.xe s
noncomputable def CallR (X : Cx) (f : Value) (r : List V → Hp → VK → Prop) : Prop :=
  ∀ (pins : List (Addr × Obj)) (s : Shared) (σ : St) (H : Hp) (xs : List V) (us : List Value) (Q : VK), Inv X pins σ H s → Vals xs us → r xs H Q →
    wpAny (model X.prog X.w) X.A (call f us) (EP X pins σ Q) X.xe s
noncomputable def TruR (X : Cx) (r : V → Hp → (Bool → Hp → Prop) → Prop) : Prop :=
  ∀ (pins : List (Addr × Obj)) (s : Shared) (σ : St) (H : Hp) (x : V) (v : Value) (Q : Bool → Hp → Prop), Inv X pins σ H s → RelV x v → r x H Q →
    wpAny (model X.prog X.w) X.A (truthy v) (TP X pins σ Q) X.xe s
noncomputable def tOp (r : R2) (ta tb : TE) : TE := fun σ H Q => ta σ H fun x H1 => tb σ H1 fun y H2 => r x y H2 Q
noncomputable def tUn (r : V → Hp → VK → Prop) (ta : TE) : TE := fun σ H Q => ta σ H fun x H1 => r x H1 Q
noncomputable def rI (C : Int → Int → Prop) (g : Int → Int → V) : R2 := fun x y H Q => ∃ i j, x = .int i ∧ y = .int j ∧ C i j ∧ Q (g i j) H
noncomputable def rI0 (g : Int → Int → V) : R2 := fun x y H Q => ∃ i j, x = .int i ∧ y = .int j ∧ Q (g i j) H
noncomputable def rU (g : Int → V) : V → Hp → VK → Prop := fun x H Q => ∃ i, x = .int i ∧ Q (g i) H
section
variable {X : Cx} {a b c : Expr} {ta tb tc : TE} {pos : Pos}
theorem binT (ha : PE X a ta) (hb : PE X b tb) {pins : List (Addr × Obj)} {s : Shared} {σ : St} {H : Hp} {R : V → V → Hp → Prop} (I : Inv X pins σ H s)
    (h : ta σ H fun x H1 => tb σ H1 fun y H2 => R x y H2) {Q : Value → Shared → Prop} {f : Value → Value → Sem Value}
    (hf : ∀ v u s2 x y H2, Inv X pins σ H2 s2 → RelV x v → RelV y u → R x y H2 → wpAny (model X.prog X.w) X.A (f v u) Q X.xe s2) :
    wpAny (model X.prog X.w) X.A (eval a X.env) (fun v s₁ => wpAny (model X.prog X.w) X.A (eval b X.env) (fun u s₂ => wpAny (model X.prog X.w) X.A (f v u) Q X.xe s₂) X.xe s₁) X.xe s := by
  refine thn (ha pins s σ H _ I h) fun v s1 hZq => ?_
  obtain ⟨x, H1, I1, r1, q1⟩ := hZq
  refine thn (hb pins s1 σ H1 _ I1 q1) fun u s2 hZq => ?_
  obtain ⟨y, H2, I2, r2, q2⟩ := hZq
  exact hf v u s2 x y H2 I2 r1 r2 q2
theorem pe_op {op : Operator} {r : R2} (ho : OpR X (binaryOp op) r) (ha : PE X a ta) (hb : PE X b tb) : PE X (.BinOp a op b pos) (tOp r ta tb) := by
  intro pins s σ H Q I h
  exact wpAny_BinOp (binT ha hb I h fun v u s2 x y H2 I2 rx ry q => ho pins s2 σ H2 x y v u Q I2 rx ry q)
theorem pe_un {op : UnaryOp} {r : V → Hp → VK → Prop} (ho : UnR X (unaryOp op) r) (ha : PE X a ta) : PE X (.UnaryOp op a pos) (tUn r ta) := by
  intro pins s σ H Q I h
  exact UnaryOp_ (thn (ha pins s σ H _ I h) fun v s1 ⟨x, H1, I1, r1, q1⟩ => ho pins s1 σ H1 x v Q I1 r1 q1)
theorem opI {f : Value → Value → Sem Value} {C : Int → Int → Prop} {g : Int → Int → Int}
    (rule : ∀ (i j : Int) (t u : Tok) (s : Shared) (Q : Value → Shared → Prop) (E : Value → Shared → Prop), C i j → Q (.int (g i j) s.toks) { s with toks := s.toks + 1 } → wpAny (model X.prog X.w) X.A (f (.int i t) (.int j u)) Q E s) :
    OpR X f (rI C fun i j => .int (g i j)) := by
  intro pins s σ H x y v u Q I rx ry h
  obtain ⟨i, j, rfl, rfl, hc, q⟩ := h
  obtain ⟨t, rfl⟩ := rx
  obtain ⟨t', rfl⟩ := ry
  exact rule i j t t' s _ _ hc ⟨.int (g i j), H, I.tok _, ⟨_, rfl⟩, q⟩
theorem opI0 {f : Value → Value → Sem Value} {g : Int → Int → Int}
    (rule : ∀ (i j : Int) (t u : Tok) (s : Shared) (Q : Value → Shared → Prop) (E : Value → Shared → Prop), Q (.int (g i j) s.toks) { s with toks := s.toks + 1 } → wpAny (model X.prog X.w) X.A (f (.int i t) (.int j u)) Q E s) :
    OpR X f (rI0 fun i j => .int (g i j)) := by
  intro pins s σ H x y v u Q I rx ry h
  obtain ⟨i, j, rfl, rfl, q⟩ := h
  obtain ⟨t, rfl⟩ := rx
  obtain ⟨t', rfl⟩ := ry
  exact rule i j t t' s _ _ ⟨.int (g i j), H, I.tok _, ⟨_, rfl⟩, q⟩
theorem opB0 {f : Value → Value → Sem Value} {g : Int → Int → Bool}
    (rule : ∀ (i j : Int) (t u : Tok) (s : Shared) (Q : Value → Shared → Prop) (E : Value → Shared → Prop), Q (.bool (g i j)) s → wpAny (model X.prog X.w) X.A (f (.int i t) (.int j u)) Q E s) :
    OpR X f (rI0 fun i j => .bl (g i j)) := by
  intro pins s σ H x y v u Q I rx ry h
  obtain ⟨i, j, rfl, rfl, q⟩ := h
  obtain ⟨t, rfl⟩ := rx
  obtain ⟨t', rfl⟩ := ry
  exact rule i j t t' s _ _ ⟨.bl (g i j), H, I, rfl, q⟩
noncomputable def CPow (i j : Int) : Prop := 0 ≤ j ∧ j ≤ 1000000 ∧ i.natAbs < 2 ^ 64
noncomputable def CMul (i j : Int) : Prop := (-(2 ^ 64) < i ∧ i < 2 ^ 64) ∨ (-(2 ^ 64) < j ∧ j < 2 ^ 64)
theorem CMul.ok {i j : Int} (h : CMul i j) : IntMulOk i j := by
  rcases h with ⟨h1, h2⟩ | ⟨h1, h2⟩
  · exact .of_left (intBits_le_64 h1 h2)
  · exact .of_right (intBits_le_64 h1 h2)
theorem two_pow_nn (k : Nat) : (0 : Int) ≤ 2 ^ k := by
  rw [two_pow_cast]
  exact Int.natCast_nonneg _
theorem op_add : OpR X (binaryOp .Add) (rI0 fun i j => .int (i + j)) := opI0 fun _ _ _ _ _ _ _ q => add_int q
theorem op_sub : OpR X (binaryOp .Sub) (rI0 fun i j => .int (i - j)) := opI0 fun _ _ _ _ _ _ _ q => sub_int q
theorem op_mul : OpR X (binaryOp .Mult) (rI CMul fun i j => .int (i * j)) := opI fun _ _ _ _ _ _ _ hc q => mul_int q hc.ok
theorem op_mod : OpR X (binaryOp .Mod) (rI (fun _ j => 0 < j) fun i j => .int (i % j)) := opI fun i j _ _ _ _ _ hc q => by
  have h1 : (0 : Int) < j := hc
  exact mod_int' (by first | assumption | decide | (clear h1; omega)) (by rw [Int.fmod_eq_emod_of_nonneg i (by first | assumption | decide | (clear h1; omega))]; exact q)
theorem op_pow : OpR X (binaryOp .Pow) (rI CPow fun i j => .int (i ^ j.toNat)) := opI fun _ _ _ _ _ _ _ hc q => pow_int_small hc.1 hc.2.1 hc.2.2 q
theorem op_shl : OpR X (binaryOp .LShift) (rI CPow fun i j => .int (i * 2 ^ j.toNat)) := opI fun _ _ _ _ _ _ _ hc q => lshift_int_small hc.1 hc.2.1 hc.2.2 q
theorem op_shr : OpR X (binaryOp .RShift) (rI (fun _ j => 0 ≤ j) fun i j => .int (i / 2 ^ j.toNat)) := opI fun i j _ _ _ _ _ hc q =>
  rshift_int hc (by rw [Int.fdiv_eq_ediv_of_nonneg i (two_pow_nn _)]; exact q)
theorem op_and : OpR X (binaryOp .BitAnd) (rI0 fun i j => .int (Builtin.bitAnd i j)) := opI0 fun _ _ _ _ _ _ _ q => and_int q
theorem unI {f : Value → Sem Value} {g : Int → Int}
    (rule : ∀ (i : Int) (t : Tok) (s : Shared) (Q : Value → Shared → Prop) (E : Value → Shared → Prop), Q (.int (g i) s.toks) { s with toks := s.toks + 1 } → wpAny (model X.prog X.w) X.A (f (.int i t)) Q E s) :
    UnR X f (rU fun i => .int (g i)) := by
  intro pins s σ H x v Q I rx h
  obtain ⟨i, rfl, q⟩ := h
  obtain ⟨t, rfl⟩ := rx
  exact rule i t s _ _ ⟨.int (g i), H, I.tok _, ⟨_, rfl⟩, q⟩
theorem un_neg : UnR X (unaryOp .USub) (rU fun i => .int (-i)) := unI fun _ _ _ _ _ q => neg_int q
end
section
variable {X : Cx} {a b c : Expr} {ta tb tc : TE} {pos : Pos}
theorem fin_bl {pins : List (Addr × Obj)} {σ : St} {H : Hp} {s : Shared} {Q : VK} {k k' : Bool} (I : Inv X pins σ H s) (q : Q (.bl k) H) (e : k = k') : EP X pins σ Q (.bool k') s := by
  subst e
  exact ⟨.bl k, H, I, rfl, q⟩
theorem op_lt : OpR X (compareOp .Lt) (rI0 fun i j => .bl (decide (i < j))) := opB0 fun _ _ _ _ _ _ _ q => lt_int q
theorem op_le : OpR X (compareOp .LtE) (rI0 fun i j => .bl (decide (i ≤ j))) := opB0 fun _ _ _ _ _ _ _ q => le_int q
theorem op_gt : OpR X (compareOp .Gt) (rI0 fun i j => .bl (decide (j < i))) := opB0 fun _ _ _ _ _ _ _ q => gt_int q
theorem op_ge : OpR X (compareOp .GtE) (rI0 fun i j => .bl (decide (j ≤ i))) := opB0 fun _ _ _ _ _ _ _ q => ge_int q
theorem op_isN : OpR X (compareOp .Is) (fun x y H Q => y = .non ∧ Q (.bl (decide (x = .non))) H) := by
  intro pins s σ H x y v u Q I rx ry h
  obtain ⟨rfl, q⟩ := h
  cases ry
  refine is_none_gen (fin_bl I q ?_)
  cases x <;> first
    | (cases rx; rfl)
    | (obtain ⟨t, rfl⟩ := rx; rfl)
theorem nomark (b : Expr) {op : CmpOp} (h : op ≠ .In := by decide) (h2 : op ≠ .NotIn := by decide) : behindInMarks op b = false := by
  have e1 : (op == CmpOp.In) = false := by cases op <;> first | rfl | exact absurd rfl h
  have e2 : (op == CmpOp.NotIn) = false := by cases op <;> first | rfl | exact absurd rfl h2
  cases b <;> simp [behindInMarks, e1, e2]
theorem pe_cmpR {op : CmpOp} {r : R2} (ho : OpR X (compareOp op) r) (ha : PE X a ta) (hb : PE X b tb) (hm : behindInMarks op b = false) : PE X (.Compare a [op] [b] pos) (tOp r ta tb) := by
  intro pins s σ H Q I h
  exact wpAny_Compare1 (binT ha hb I h fun v u s2 x y H2 I2 rx ry q => ho pins s2 σ H2 x y v u Q I2 rx ry q) hm
noncomputable def tTest (t : TE) : TT := fun σ H Q => t σ H fun x H' => ∃ k, x = .bl k ∧ Q k H'
theorem pt_cmpR {op : CmpOp} {r : R2} (ho : OpR X (compareOp op) r) (ha : PE X a ta) (hb : PE X b tb) (hm : behindInMarks op b = false) : PT X (.Compare a [op] [b] pos) (tTest (tOp r ta tb)) := by
  intro pins s σ H Q I h
  refine wpAny_isTrue_Compare1 (thn (ha pins s σ H _ I h) fun v s1 ⟨x, H1, I1, r1, q1⟩ => thn (hb pins s1 σ H1 _ I1 q1) fun u s2 ⟨y, H2, I2, r2, q2⟩ =>
    thn (ho pins s2 σ H2 x y v u _ I2 r1 r2 q2) fun c s3 ⟨z, H3, I3, r3, k, e, q3⟩ => ?_) hm
  subst e
  cases r3
  exact wpAny_truthy_bool ⟨H3, I3, q3⟩
noncomputable def tChain (r r' : R2) (ta tb tc : TE) : TE := fun σ H Q => ta σ H fun x H1 => tb σ H1 fun y H2 => r x y H2 fun z H3 => ∃ k, z = .bl k ∧
  (if k = true then tc σ H3 fun w' H4 => r' y w' H4 Q else Q (.bl false) H3)
theorem pt_chain {op op' : CmpOp} {r r' : R2} (ho : OpR X (compareOp op) r) (ho' : OpR X (compareOp op') r') (ha : PE X a ta) (hb : PE X b tb) (hc : PE X c tc)
    (hm : lastMarks [op, op'] [b, c] = false := by with_unfolding_all rfl) : PT X (.Compare a [op, op'] [b, c] pos) (tTest (tChain r r' ta tb tc)) := by
  intro pins s σ H Q I h
  refine isTrue_chain (thn (ha pins s σ H _ I h) fun v s1 ⟨x, H1, I1, r1, q1⟩ => test_link (thn (hb pins s1 σ H1 _ I1 q1) fun u s2 ⟨y, H2, I2, r2, q2⟩ =>
    thn (ho pins s2 σ H2 x y v u _ I2 r1 r2 q2) fun d s3 ⟨z, H3, I3, r3, k, e, q3⟩ => ?_)) hm
  subst e
  cases r3
  refine wpAny_truthy_bool ?_
  cases k with
  | false =>
    obtain ⟨k', e', q'⟩ := q3
    cases e'
    exact ite_ff ⟨H3, I3, q'⟩
  | true =>
    refine ite_tt (test_last (thn (hc pins s3 σ H3 _ I3 q3) fun w' s4 ⟨z', H4, I4, r4, q4⟩ => thn (ho' pins s4 σ H4 y z' u w' _ I4 r2 r4 q4) fun d' s5 hZq => ?_))
    obtain ⟨z2, H5, I5, r5, k2, e2, q5⟩ := hZq
    subst e2
    cases r5
    exact wpAny_truthy_bool ⟨H5, I5, q5⟩
noncomputable def TruV (K : PySem.W.Frag) (x : V) (H : Hp) (k : Bool) : Prop :=
  match x with
  | .non => k = false
  | .bl b => k = b
  | .int i => k = (i != 0)
  | .str y => y.length ≤ sizeLine ∧ k = ((y.length : Int) != 0)
  | .byt y => y.size ≤ sizeLine ∧ k = ((y.size : Int) != 0)
  | .ref p => (∃ xs, SqL K H p xs ∧ k = !xs.isEmpty) ∨ (∃ xs, SqT K H p xs ∧ k = !xs.isEmpty) ∨ ∃ kvs, H p = some (.dK kvs) ∧ k = !kvs.isEmpty
  | _ => False
theorem isEmpty_kv {κ : Type} {kvs : List (κ × V)} {vs : List (κ × Value)} (r : KV kvs vs) : (!vs.isEmpty) = !kvs.isEmpty := by
  cases r <;> rfl
theorem isEmpty_of {xs : List V} {its : List Value} (r : Vals xs its) : (!its.toArray.isEmpty) = !xs.isEmpty := by
  cases r <;> simp
theorem line63 : (sizeLine : Nat) < 2 ^ 63 := by rw [sizeLine_eq]; decide
theorem tru_ok : TruR X (fun x H Q => ∃ k, TruV X.K x H k ∧ Q k H) := by
  intro pins s σ H x v Q I rx h
  obtain ⟨k, e, q⟩ := h
  have hl := line63
  have hs : sizeLine = 16777216 := sizeLine_eq
  cases x with
  | non =>
    cases rx
    have e' : k = false := e
    subst e'
    exact truthy_none ⟨H, I, q⟩
  | bl b =>
    cases rx
    have e' : k = b := e
    subst e'
    exact wpAny_truthy_bool ⟨H, I, q⟩
  | int i =>
    obtain ⟨t, rfl⟩ := rx
    have e' : k = (i != 0) := e
    subst e'
    exact PySem.P.truthy_int ⟨H, I, q⟩
  | str y =>
    obtain ⟨t, rfl⟩ := rx
    obtain ⟨hy, e'⟩ : y.length ≤ sizeLine ∧ k = ((y.length : Int) != 0) := e
    subst e'
    exact PySem.P.truthy_str (by first | assumption | decide | (clear hl; omega)) ⟨H, I.tok _, q⟩
  | byt y =>
    obtain ⟨t, rfl⟩ := rx
    obtain ⟨hy, e'⟩ : y.size ≤ sizeLine ∧ k = ((y.size : Int) != 0) := e
    subst e'
    exact PySem.W.truthy_bytes (by first | assumption | decide | (clear hl; omega)) ⟨H, I.tok _, q⟩
  | ref p =>
    cases rx
    have e' : (∃ xs, SqL X.K H p xs ∧ k = !xs.isEmpty) ∨ (∃ xs, SqT X.K H p xs ∧ k = !xs.isEmpty) ∨ ∃ kvs, H p = some (.dK kvs) ∧ k = !kvs.isEmpty := e
    rcases e' with ⟨xs, hx, e'⟩ | ⟨xs, hx, e'⟩ | ⟨kvs, hx, e'⟩
    · subst e'
      obtain ⟨its, r, pl, hz⟩ := I.list hx
      have hlen := r.length
      exact wpAny_truthy_list pl.isList (by simp only [List.size_toArray]; (clear hl; omega)) ⟨H, I.tok _, by rw [isEmpty_of r]; exact q⟩
    · subst e'
      obtain ⟨its, r, pl, hz⟩ := I.tuple hx
      have hlen := r.length
      exact truthy_tuple pl (by simp only [List.size_toArray]; (clear hl; omega)) ⟨H, I.tok _, by rw [isEmpty_of r]; exact q⟩
    · subst e'
      obtain ⟨hz, hS, vs, r, m⟩ : kvs.length ≤ sizeLine ∧ (p == sysModules) = false ∧ ∃ vs, KV kvs vs ∧ s.heap.DictOf (mixKind X.prog X.w) p vs := I.hok p _ hx
      have hlen : kvs.length = vs.length := Paired.length r
      exact wpAny_truthy_dict hS m (by first | assumption | decide | (clear hS hx hl; omega)) ⟨H, I.tok _, by rw [isEmpty_kv r]; exact q⟩
  | _ => exact (show False from e).elim
theorem pt_truth (ha : PE X a ta) (he : ∀ whole, isTrue a X.env whole = (do let v ← whole; standAt a.pos; holding [v] (truthy v))) :
    PT X a (fun σ H Q => ta σ H fun x H' => ∃ k, TruV X.K x H' k ∧ Q k H') := by
  intro pins s σ H Q I h
  exact isTrue_plain (thn (ha pins s σ H _ I h) fun v s1 ⟨x, H1, I1, r1, q1⟩ => tru_ok pins s1 σ H1 x v Q I1 r1 q1) (he _)
theorem vals1 {x : V} {us : List Value} (r : Vals [x] us) : ∃ u, us = [u] ∧ RelV x u := by
  cases r with
  | cons r1 r2 => cases r2; exact ⟨_, rfl, r1⟩
theorem vals2 {x y : V} {us : List Value} (r : Vals [x, y] us) : ∃ u w', us = [u, w'] ∧ RelV x u ∧ RelV y w' := by
  cases r with
  | cons r1 r2 =>
    cases r2 with
    | cons r3 r4 => cases r4; exact ⟨_, _, rfl, r1, r3⟩
theorem call_max2 (hc : X.calm = true) : CallR X (.builtin "max") (fun xs H Q => ∃ i j, xs = [.int i, .int j] ∧ Q (.int (if j > i then j else i)) H) := by
  intro pins s σ H xs us Q I r h
  obtain ⟨i, j, rfl, q⟩ := h
  obtain ⟨u, w', rfl, ⟨t, rfl⟩, ⟨t', rfl⟩⟩ := vals2 r
  refine max_two_ints (I.ok.hd hc) fun h' tk k => ⟨_, H, I.kept k, ?_, q⟩
  by_cases hj : j > i
  · rw [if_pos hj, if_pos hj]; exact ⟨_, rfl⟩
  · rw [if_neg hj, if_neg hj]; exact ⟨_, rfl⟩
theorem call_min2 (hc : X.calm = true) : CallR X (.builtin "min") (fun xs H Q => ∃ i j, xs = [.int i, .int j] ∧ Q (.int (if j < i then j else i)) H) := by
  intro pins s σ H xs us Q I r h
  obtain ⟨i, j, rfl, q⟩ := h
  obtain ⟨u, w', rfl, ⟨t, rfl⟩, ⟨t', rfl⟩⟩ := vals2 r
  refine min_two_ints (I.ok.hd hc) fun h' tk k => ⟨_, H, I.kept k, ?_, q⟩
  by_cases hj : j < i
  · rw [if_pos hj, if_pos hj]; exact ⟨_, rfl⟩
  · rw [if_neg hj, if_neg hj]; exact ⟨_, rfl⟩
end
end L2
namespace L2
open PySem PySem.Spec PyProof.Rows
section
variable {prog : Program} {w : World} {A : Around} {E : Value → Shared → Prop} {s : Shared} {K : PySem.W.Frag} {x dx C f : Addr} {mA : Str → Option Value} {name : Str} {v : Value}
end
theorem RelO.some_of {v : V} {o : Option Value} (r : RelO (some v) o) : ∃ u, o = some u ∧ RelV v u := by
  cases o with
  | none => exact (show False from r).elim
  | some u => exact ⟨u, rfl, r⟩
section
variable {P : Program} {w : World} {H H' : Hp} {h h' : Heap} {a C dx : Addr} {fs fs' : List (Str × V)}
end
section
variable {X : Cx} {pins : List (Addr × Obj)} {σ : St} {H : Hp} {s : Shared} {a C dx : Addr} {fs : List (Str × V)} {f : Str} {v : V} {A : Around} {E : Value → Shared → Prop}
end
section
variable {X : Cx} {o e value : Expr} {f : Str} {pos pos' tpos : Pos} {ta tv : TE}
end
section
variable {X : Cx} {pins : List (Addr × Obj)} {σ : St} {H : Hp} {s : Shared} {A : Around} {E : Value → Shared → Prop} {Q : Value → Shared → Prop} {c : Value} {b : Bool}
end
end L2
namespace L2
open PySem PySem.Spec PyProof.Rows
structure Room (k : Nat) (A : Around) : Prop where
  hd : A.handled = none
  dp : A.depth + 3 * k + 5 < recursionLimit
  un : A.units + 16 * k + 200 < cLine
theorem Room.mono {j k : Nat} {A : Around} (r : Room k A) (h : j ≤ k) : Room j A := ⟨r.hd, by have := r.dp; omega, by have := r.un; omega⟩
theorem Room.deeper {k : Nat} {A : Around} (r : Room (k + 1) A) (env : Env) : Room k (A.deeper env) :=
  ⟨r.hd, by have := r.dp; show A.depth + 1 + 3 * k + 5 < _; omega, by have := r.un; show A.units + 3 + 16 * k + 200 < _; omega⟩
theorem Room.depth {k : Nat} {A : Around} (r : Room k A) : A.depth < recursionLimit := by have := r.dp; omega
theorem Room.units {k : Nat} {A : Around} (r : Room k A) : A.units + 64 < cLine := by have := r.un; omega
noncomputable def tNil : TA := fun _ H Q => Q [] H
noncomputable def tCons (ta : TE) (tr : TA) : TA := fun σ H Q => ta σ H fun x H1 => tr σ H1 fun xs H2 => Q (x :: xs) H2
section
variable {X : Cx} {e : Expr} {es : List Expr} {te : TE} {t : TA} {pos : Pos}
theorem pa_nil : PA X [] tNil := fun _ _ _ _ H Q I h => Calls.spliced_nil ⟨[], H, I, .nil, h⟩
theorem pa_cons (ha : PE X e te) (hr : PA X es t) (hs : starEach (e :: es) X.env = (false, eval e X.env) :: starEach es X.env := by rfl) : PA X (e :: es) (tCons te t) := by
  intro pos pins s σ H Q I h
  rw [hs]
  show wpAny _ _ (spliced ((false, eval e X.env) :: backTo pos (starEach es X.env))) _ _ s
  refine Calls.spliced_cons (thn (ha pins s σ H _ I h) fun u s1 hZq => ?_)
  obtain ⟨x, H1, I1, r1, q1⟩ := hZq
  exact thn (hr pos pins s1 σ H1 _ I1 q1) fun us s2 ⟨xs, H2, I2, r2, q2⟩ => ⟨x :: xs, H2, I2, .cons r1 r2, q2⟩
noncomputable def tTup (t : TA) : TE := fun σ H Q => t σ H fun xs H1 => xs.length ≤ sizeLine ∧ ∀ p, H1 p = none → Q (.ref p) (upd H1 p (.tup xs))
noncomputable def tLst (t : TA) : TE := fun σ H Q => t σ H fun xs H1 => xs.length ≤ sizeLine ∧ ∀ p, H1 p = none → Q (.ref p) (upd H1 p (.lst xs))
theorem pe_tup {x1} (h : PA X es t) : PE X (.Tuple es x1 pos) (tTup t) := by
  intro pins s σ H Q I hq
  refine wpAny_Tuple_spliced (thn (h pos pins s σ H _ I hq) fun us s1 ⟨xs, H1, I1, r, z, q⟩ => ⟨by rw [← r.length]; exact z, ?_⟩)
  have hf : H1 s1.heap.objs.size = none := I1.hok.fresh (Nat.le_refl _)
  refine ⟨.ref s1.heap.objs.size, upd H1 s1.heap.objs.size (.tup xs), I1.laid (t' := s1.toks) (fun b u e => Heap.get?_push_of_some _ e) (Nat.le_refl _) ?_, rfl, q _ hf⟩
  exact ⟨z, us, r, ⟨_, Heap.get?_push_size _ rfl, rfl, _, rfl⟩⟩
theorem pe_lst (h : PA X es t) : PE X (.List es pos) (tLst t) := by
  intro pins s σ H Q I hq
  refine wpAny_List_spliced (thn (h pos pins s σ H _ I hq) fun us s1 ⟨xs, H1, I1, r, z, q⟩ => ⟨by rw [← r.length]; exact z, ?_⟩)
  have hf : H1 s1.heap.objs.size = none := I1.hok.fresh (Nat.le_refl _)
  refine ⟨.ref s1.heap.objs.size, upd H1 s1.heap.objs.size (.lst xs), I1.laid (t' := s1.toks) (fun b u e => Heap.get?_push_of_some _ e) (Nat.le_refl _) ?_, rfl, q _ hf⟩
  exact ⟨z, us, 0, r, Heap.get?_push_size _ rfl⟩
end
noncomputable abbrev Sp := List V → Hp → VK → XK → Prop
noncomputable abbrev CXT := List Env → Hp → Shared → XK → Value → Shared → Prop
structure Env0 (P : Program) (w : World) (K : PySem.W.Frag) (mg : Str → Option Value) (base : Heap) (A : Around) (outer : List Env) (s : Shared) (H : Hp) : Prop where
  frames : A.frames = some outer
  mod : Mod K mg base
  bs : ∀ b o, base.get? b = some o → s.heap.get? b = some o ∧ H b = none
  bsz : base.objs.size ≤ s.heap.objs.size
  funs : s.heap.FunFrames base outer
  frf : ∀ b ∈ frs outer, H b = none
  hok : HOk P w H s.heap
  bare : AllBare s.gens
noncomputable def CE (outer : List Env) (P : Program) (w : World) (H : Hp) (s : Shared) (Q : VK) (u : Value) (s' : Shared) : Prop :=
  ∃ v H', s'.os = s.os ∧ AllBare s'.gens ∧ Un (frs outer) [] H H' s.heap s'.heap ∧ HOk P w H' s'.heap ∧ RelV v u ∧ Q v H'
noncomputable def CR (CX : CXT) (outer : List Env) (P : Program) (w : World) (H : Hp) (s : Shared) (Q : VK) (E : XK) (r : Result) (s' : Shared) : Prop :=
  match r with
  | .ok (.ret u) => CE outer P w H s Q u s'
  | .ok _ => False
  | .error e => CX outer H s E e s'
structure FnOk (P : Program) (w : World) (K : PySem.W.Frag) (mg : Str → Option Value) (base : Heap) (CX : CXT) (k : Nat) (f : Addr) (fd : FuncData) (ps : List Str) (sp : Sp) : Prop where
  len : ∀ vs H Q E, sp vs H Q E → vs.length = ps.length
  run : ∀ (A : Around) (outer : List Env) (s : Shared) (H : Hp) (args : Args) (us : List Value) (vs : List V) (Q : VK) (E : XK), Room k A → Env0 P w K mg base A outer s H → BindsTo s fd args (ps.zip us) → Vals vs us → sp vs H Q E →
    codeAny (model P w) A (.call (.ref f) args) (CR CX outer P w H s Q E) s
theorem FnOk.imp {P : Program} {w : World} {K : PySem.W.Frag} {mg : Str → Option Value} {base : Heap} {CX : CXT} {k : Nat} {f : Addr} {fd : FuncData} {ps : List Str} {sp sp' : Sp} (F : FnOk P w K mg base CX k f fd ps sp)
    (h : ∀ vs H Q E, sp' vs H Q E → sp vs H Q E) : FnOk P w K mg base CX k f fd ps sp' :=
  ⟨fun vs H Q E q => F.len vs H Q E (h _ _ _ _ q), fun A outer s H args us vs Q E hr he hb hv hs => F.run A outer s H args us vs Q E hr he hb hv (h _ _ _ _ hs)⟩
section
variable {X : Cx} {pins : List (Addr × Obj)} {σ : St} {H : Hp} {s s' : Shared}
theorem Inv.env0 (I : Inv X pins σ H s) : Env0 X.prog X.w X.K X.mg X.base X.A X.stack s H :=
  ⟨I.ok.frames, I.ok.mod, I.bs, Nat.le_trans I.ok.bsz I.sz, I.stack, I.stkFree, I.hok, I.bare⟩
theorem Inv.after {Q : VK} {u : Value} (I : Inv X pins σ H s) (h : CE X.stack X.prog X.w H s Q u s') : EP X pins σ Q u s' := by
  obtain ⟨v, H', os, bare, un, hok, r, q⟩ := h
  obtain ⟨hh, g, d, t, os'⟩ := s'
  obtain rfl : os' = s.os := os
  exact ⟨v, H', I.call (h' := hh) (g' := g) (d' := d) (t' := t) (ch := []) un hok bare (fun b z => absurd z (by simp)), r, q⟩
end
noncomputable def tCall (sp : Sp) (dvs : List V) (E : XK) (t : TA) : TE := fun σ H Q => t σ H fun vs H1 => sp (vs ++ dvs) H1 Q E
noncomputable def Binds (K : PySem.W.Frag) (fd : FuncData) (ps : List Str) (ds : List Value) : Prop :=
  ∀ (s : Shared) (us : List Value), K.In s.heap → (us ++ ds).length = ps.length → BindsTo s fd ⟨us, []⟩ (ps.zip (us ++ ds))
theorem Binds.all {K : PySem.W.Frag} {fd : FuncData} {ps : List Str} (h : ∀ us : List Value, us.length = ps.length → bindArgs fd ⟨us, []⟩ = pure (ps.zip us)) : Binds K fd ps [] := fun s us _ hl => by
  rw [List.append_nil] at hl ⊢
  exact .of_eq (h us hl)
noncomputable def Passes (CX : CXT) (X : Cx) (E : XK) : Prop := ∀ (pins : List (Addr × Obj)) (σ : St) (H : Hp) (s : Shared) (e : Value) (s' : Shared), Inv X pins σ H s → CX X.stack H s E e s' → X.xe e s'
section
variable {X : Cx} {CX : CXT} {k : Nat} {f C : Addr} {fd : FuncData} {ps : List Str} {sp : Sp} {dvs : List V} {ds : List Value} {E : XK} {x m : Str} {p pos apos : Pos} {e o : Expr} {es : List Expr} {ta : TE} {t : TA}
theorem run_fn {pins : List (Addr × Obj)} {σ : St} {H : Hp} {s : Shared} {Q : VK} {us : List Value} {vs : List V} (F : FnOk X.prog X.w X.K X.mg X.base CX k f fd ps sp) (hr : Room k X.A) (hb : Binds X.K fd ps ds) (hd : Vals dvs ds) (hx : Passes CX X E)
    (I : Inv X pins σ H s) (r : Vals vs us) (h : sp (vs ++ dvs) H Q E) : wpAny (model X.prog X.w) X.A (call (.ref f) us) (EP X pins σ Q) X.xe s := by
  have r2 : Vals (vs ++ dvs) (us ++ ds) := r.append hd
  have hl : (us ++ ds).length = ps.length := by rw [← r2.length]; exact F.len _ _ _ _ h
  refine wpAny_call (codeAny_mono (F.run X.A X.stack s H ⟨us, []⟩ (us ++ ds) (vs ++ dvs) Q E hr I.env0 (hb s us I.kIn hl) r2 h) fun r s' hq => ?_)
  cases r with
  | error e => exact hx pins σ H s e s' I hq
  | ok fl =>
    cases fl with
    | ret u => exact I.after hq
    | next => exact False.elim hq
    | brk => exact False.elim hq
    | cont => exact False.elim hq
theorem pe_call (F : FnOk X.prog X.w X.K X.mg X.base CX k f fd ps sp) (hr : Room k X.A) (hg : Gl X x) (hm : X.mg x = some (.ref f)) (hk : PySem.W.keepIn X.K (.ref f) = true) (hb : Binds X.K fd ps ds) (hd : Vals dvs ds) (hx : Passes CX X E)
    (ha : PA X (e :: es) t) (hdb : (x == ("__debug__" : Str)) = false := by decide) (he : starEach (e :: es) X.env = (false, eval e X.env) :: starEach es X.env := by rfl) (hpl : (backTo pos (starEach es X.env)).any (·.1) = false := by rfl) :
    PE X (.Call (.Name x p) (e :: es) [] pos) (tCall sp dvs E t) := by
  intro pins s σ H Q I h
  refine wpAny_Call_Name_kw (ld_glob I hg hm ?_ hdb)
  refine PySem.W.callWith_K (h₀ := X.base) I.ok.mod.kin hk (thn (ha pos pins s σ H _ I h) fun us s1 ⟨vs, H1, I1, r, q⟩ => ⟨I1.kIn, ?_⟩) he hpl
  exact run_fn F hr hb hd hx I1 r q
end
section
variable {X : Cx} {CX : CXT} {k : Nat} {f C : Addr} {fd : FuncData} {ps ks : List Str} {sp : Sp} {E : XK} {x m : Str} {p pos apos kpos : Pos} {e o : Expr} {es : List Expr} {kws : List Keyword} {te ta : TE} {t tk : TA} {nm : Option Str}
variable {g : List Value → List Value → List Value} {gV : List V → List V → List V}
end
structure FnScope (N P : List Str) (sc : Scope) : Prop where
  kind : sc.kind = .function
  co : sc.isCoroutine = false
  gen : sc.isGenerator = false
  nd : N.Nodup
  pre : N.take P.length = P
  par : ∀ x ∈ P, sc.names.lookup x = some .local ∨ sc.names.lookup x = some .cell
  nofree : ∀ y ∈ sc.names, y.2 ≠ .free
theorem bindL_out {kindOf : Str → Option NameKind} {x : Str} : ∀ {binds : List (Str × Value)} {m : Str → Option Value}, (∀ v, (x, v) ∉ binds) → bindL kindOf binds m x = m x
  | [], _, _ => rfl
  | (n, v) :: r, m, h => by
    unfold bindL
    rw [bindL_out fun w hw => h w (List.mem_cons_of_mem _ hw)]
    split
    · have : x ≠ n := by rintro rfl; exact h v List.mem_cons_self
      simp [this]
    · rfl
theorem bindC_out {kindOf : Str → Option NameKind} {x : Str} : ∀ {binds : List (Str × Value)} {m : Str → Option Value}, (∀ v, (x, v) ∉ binds) → bindC kindOf binds m x = m x
  | [], _, _ => rfl
  | (n, v) :: r, m, h => by
    unfold bindC
    rw [bindC_out fun w hw => h w (List.mem_cons_of_mem _ hw)]
    split
    · rfl
    · have : x ≠ n := by rintro rfl; exact h v List.mem_cons_self
      simp [this]
theorem bindL_get {kindOf : Str → Option NameKind} {x : Str} {v : Value} : ∀ {P : List Str} {vs : List Value} {i : Nat} {m : Str → Option Value}, P.Nodup → P[i]? = some x → vs[i]? = some v → kindOf x = some .local →
    bindL kindOf (P.zip vs) m x = some v
  | [], _, _, _, _, h, _, _ => by simp at h
  | _ :: _, [], _, _, _, _, h, _ => by simp at h
  | p :: P, w :: vs, 0, m, nd, h1, h2, hk => by
    simp at h1 h2; subst h1; subst h2
    show bindL kindOf ((p, w) :: P.zip vs) m p = _
    unfold bindL
    rw [bindL_out fun v hv => (List.nodup_cons.mp nd).1 (List.of_mem_zip hv).1, if_pos hk]
    simp
  | p :: P, w :: vs, i + 1, m, nd, h1, h2, hk => by
    show bindL kindOf ((p, w) :: P.zip vs) m x = _
    unfold bindL
    exact bindL_get (i := i) (List.nodup_cons.mp nd).2 (by simpa using h1) (by simpa using h2) hk
theorem bindC_get {kindOf : Str → Option NameKind} {x : Str} {v : Value} : ∀ {P : List Str} {vs : List Value} {i : Nat} {m : Str → Option Value}, P.Nodup → P[i]? = some x → vs[i]? = some v → kindOf x ≠ some .local →
    bindC kindOf (P.zip vs) m x = some v
  | [], _, _, _, _, h, _, _ => by simp at h
  | _ :: _, [], _, _, _, _, h, _ => by simp at h
  | p :: P, w :: vs, 0, m, nd, h1, h2, hk => by
    simp at h1 h2; subst h1; subst h2
    show bindC kindOf ((p, w) :: P.zip vs) m p = _
    unfold bindC
    rw [bindC_out fun v hv => (List.nodup_cons.mp nd).1 (List.of_mem_zip hv).1, if_neg hk]
    simp
  | p :: P, w :: vs, i + 1, m, nd, h1, h2, hk => by
    show bindC kindOf ((p, w) :: P.zip vs) m x = _
    unfold bindC
    exact bindC_get (i := i) (List.nodup_cons.mp nd).2 (by simpa using h1) (by simpa using h2) hk
noncomputable def start (N : List Str) (vs : List V) : St := vs.map some ++ List.replicate (N.length - vs.length) none
noncomputable def cxOf (CX : CXT) (P : Program) (w : World) (K : PySem.W.Frag) (mg : Str → Option Value) (base : Heap) (N : List Str) (qual : Str) (scope : Scope) (f : Addr) (cd : Value) (A : Around) (outer : List Env) (s : Shared) (H : Hp) (E : XK) : Cx where
  prog := P
  w := w
  K := K
  mg := mg
  base := base
  A := A.deeper (envOfC qual scope s.heap.objs.size f cd)
  N := N
  s₀ := s
  H₀ := H
  env := envOfC qual scope s.heap.objs.size f cd
  outer := outer
  stack := envOfC qual scope s.heap.objs.size f cd :: outer
  ex := []
  calm := true
  fn := fun _ => true
  pn := []
  xe := fun e s' => wpAny (model P w) (A.deeper (envOfC qual scope s.heap.objs.size f cd)) (leaving (envOfC qual scope s.heap.objs.size f cd) e) (fun _ s'' => CX outer H s E e s'') (fun e' s'' => CX outer H s E e' s'') s'
theorem cell_has {sc : Scope} {n : Nat} {x : Str} (h : sc.names.lookup x = some .cell) : ∃ c, (cellsFrom n sc.names []).lookup x = some c := by
  have q := PySem.W.cellsFrom_some sc.names n [] (.inl h)
  exact Option.isSome_iff_exists.mp q
theorem inv_start {CX : CXT} {P : Program} {w : World} {K : PySem.W.Frag} {mg : Str → Option Value} {base : Heap} {N ps : List Str} {qual : Str} {scope : Scope} {f : Addr} {cd : Value} {A : Around} {outer : List Env} {s s1 : Shared} {H : Hp} {E : XK} {us : List Value} {vs : List V}
    (S : FnScope N ps scope) (hd : A.handled = none) (e0 : Env0 P w K mg base A outer s H) (hl : vs.length = ps.length) (r : Vals vs us)
    (x : InCallC s s.heap.objs.size (bindL (envOfC qual scope s.heap.objs.size f cd).kindOf (ps.zip us) fun _ => none) (cellsFrom (s.heap.objs.size + 1) scope.names []) (bindC (envOfC qual scope s.heap.objs.size f cd).kindOf (ps.zip us) fun _ => none) s1) :
    Inv (cxOf CX P w K mg base N qual scope f cd A outer s H E) [] (start N vs) H s1 := by
  have hpl : ps.length ≤ N.length := by have := congrArg List.length S.pre; rw [List.length_take] at this; (clear hl hd; omega)
  obtain ⟨h1, tk, rfl, hk⟩ := x.done
  have noA : ∀ b : Addr, b ∉ (cxOf CX P w K mg base N qual scope f cd A outer s H E).ex := fun b z => absurd (show b ∈ ([] : List Addr) from z) (by simp)
  refine ⟨⟨e0.mod, S.kind, rfl, rfl, Nat.le_refl _, fun y z c h1 h2 => ?_, fun y hy => ?_, fun y c _ h => ?_, fun _ => hd, Around.frames_deeper e0.frames, .inr ⟨rfl, rfl⟩, fun b z => absurd z (noA b), e0.bs, e0.bsz, fun b _ _ => noA b, fun b z => absurd z (noA b), e0.funs, e0.frf⟩,
    rfl, e0.bare, Un.kept hk, ⟨_, x.toInCall.ns, fun i y v h1 h2 h3 => ?_⟩, fun y c h => ⟨_, x.cell y c h⟩, e0.hok.fresh (Nat.le_refl _), fun y c h => ?_, fun p hp => absurd (show p ∈ ([] : List (Addr × Obj)) from hp) (by simp), e0.hok.kept hk, ?_⟩
  · exact name_of_addr x.apart (PySem.mem_of_lookup h1) (PySem.mem_of_lookup h2)
  · have hy : scope.names.lookup y = some .cell ∨ scope.names.lookup y = some .free := hy
    rcases hy with hy | hy
    · exact cell_has hy
    · exact absurd rfl (S.nofree _ (PySem.mem_of_lookup hy))
  · exact Nat.le_of_lt (x.above y c (PySem.mem_of_lookup h))
  · have hi : i < vs.length := by
      unfold start at h2
      by_cases hi : i < vs.length
      · exact hi
      · rw [List.getElem?_append_right (by simpa using hi)] at h2
        rw [List.getElem?_replicate] at h2
        split at h2 <;> cases h2
    have ha : vs[i]? = some v := by
      unfold start at h2
      rw [List.getElem?_append_left (by simpa using hi), List.getElem?_map] at h2
      cases e : vs[i]? with
      | none => rw [e] at h2; cases h2
      | some a => rw [e] at h2; cases h2; rfl
    obtain ⟨u, hu, rv⟩ := r.get ha
    have hp : ps[i]? = some y := by
      rw [← S.pre, List.getElem?_take_of_lt (by first | assumption | decide | (clear hu ha h2 h1 hpl hd; omega))]; exact h1
    have ndP : ps.Nodup := by rw [← S.pre]; exact S.nd.sublist (List.take_sublist _ _)
    refine ⟨u, rv, ?_⟩
    rcases S.par y (List.mem_of_getElem? hp) with k | k
    · exact .inl ⟨k, bindL_get ndP hp hu k⟩
    · obtain ⟨c, e⟩ := cell_has (n := s.heap.objs.size + 1) k
      refine .inr ⟨.inl k, c, e, ?_⟩
      have q := x.cell y c e
      rw [bindC_get ndP hp hu (by show scope.names.lookup y ≠ _; rw [k]; decide)] at q
      exact q
  · exact e0.hok.fresh (Nat.le_of_lt (x.above y c (PySem.mem_of_lookup h)))
  · unfold start
    show _ = N.length
    rw [List.length_append, List.length_map, List.length_replicate]
    (clear hd; omega)
theorem fn_of {CX : CXT} {P : Program} {w : World} {K : PySem.W.Frag} {mg : Str → Option Value} {base : Heap} {k : Nat} {f : Addr} {name qual : Str} {params : Arguments} {body : List Stmt} {scope : Scope} {dV kV doc pm cdv ct oc : Value} {an od : Option Addr}
    {osl : Array (Option Value)} {N ps : List Str} {sp : Sp} (lk : K.lookup f = some ⟨oc, od, .func (PySem.W.fnOf name qual params body scope dV kV doc pm an cdv ct), osl⟩) (hcd : PySem.W.codeIn K cdv qual = true) (S : FnScope N ps scope)
    (len : ∀ vs H Q E, sp vs H Q E → vs.length = ps.length)
    (hbody : ∀ (A : Around) (outer : List Env) (s : Shared) (H : Hp) (vs : List V) (Q : VK) (E : XK), Room k (A.deeper (envOfC qual scope s.heap.objs.size f cdv)) → sp vs H Q E →
      ∃ t, PSs (cxOf CX P w K mg base N qual scope f cdv A outer s H E) body t ∧ t { nx := fun _ H' => Q .non H', rt := Q } (start N vs) H) :
    FnOk P w K mg base CX (k + 1) f (PySem.W.fnOf name qual params body scope dV kV doc pm an cdv ct) ps sp := by
  refine ⟨len, fun A outer s H args us vs Q E hr e0 hb r hsp => ?_⟩
  have hl := len _ _ _ _ hsp
  have KX : K.In s.heap := e0.mod.kin.keeps fun b o e => (e0.bs b o e).1
  have lim : s.heap.NoLimit := e0.mod.nolimit.keeps fun b o e => (e0.bs b o e).1
  have hkind : ∀ y ∈ ps.zip us, scope.names.lookup y.1 = some .local ∨ (scope.names.lookup y.1 = some .cell ∧ ((cellsFrom (s.heap.objs.size + 1) scope.names []).lookup y.1).isSome = true) := fun ⟨n, v⟩ hy => by
    rcases S.par n (List.of_mem_zip hy).1 with q | q
    · exact .inl q
    · exact .inr ⟨q, PySem.W.cellsFrom_some _ _ _ (.inl q)⟩
  refine codeAny_call_function hr.depth (KX _ _ lk) rfl S.co S.gen rfl (PySem.W.codeRec_of KX hcd) (hb _ _ _ _ ?_)
  refine wpAny_newFunctionEnv_cells S.kind hkind fun env he s1 x => ?_
  subst he
  refine ⟨lim.keeps x.toInCall.keep, codeAny_func ?_⟩
  obtain ⟨t, ht, hq⟩ := hbody A outer s H vs Q E (hr.deeper _) hsp
  have I : Inv (cxOf CX P w K mg base N qual scope f cdv A outer s H E) [] (start N vs) H s1 := inv_start S hr.hd e0 hl r x
  refine wpAny_mono (ht [] s1 (start N vs) H _ I hq) (fun fl s' hs => ?_) fun e s' hs => hs
  have fin : ∀ {σ' : St} {H' : Hp} {v : V} {u : Value}, Inv (cxOf CX P w K mg base N qual scope f cdv A outer s H E) [] σ' H' s' → RelV v u → Q v H' → CE outer P w H s Q u s' :=
    fun {σ' H' v u} J rv q => ⟨v, H', J.os, J.bare, J.base, J.hok, rv, q⟩
  cases fl with
  | ret u =>
    obtain ⟨v, σ', H', J, rv, q⟩ := hs
    exact fin J rv q
  | next =>
    obtain ⟨σ', H', J, q⟩ := hs
    exact fin (v := V.non) (u := Value.none) J rfl q
  | brk =>
    obtain ⟨_, _, _, q⟩ := hs
    exact False.elim q
  | cont =>
    obtain ⟨_, _, _, q⟩ := hs
    exact False.elim q
end L2
namespace L2
open PySem PySem.Spec PyProof.Rows
section
variable {X : Cx} {x : Str} {p pos : Pos} {e : Expr} {es : List Expr} {t : TA} {id T : String} {r : List V → Hp → VK → Prop}
noncomputable def tCB (r : List V → Hp → VK → Prop) (t : TA) : TE := fun σ H Q => t σ H fun vs H1 => r vs H1 Q
theorem pe_callB (hc : CallR X (.builtin id) r) (hg : Gl X x) (hm : X.mg x = none) (hv : bootBuiltins x = some (.builtin id)) (ha : PA X (e :: es) t) (hn : x ≠ "__name__" := by decide) (hdb : (x == ("__debug__" : Str)) = false := by decide)
    (he : starEach (e :: es) X.env = (false, eval e X.env) :: starEach es X.env := by rfl) (hpl : (backTo pos (starEach es X.env)).any (·.1) = false := by rfl) : PE X (.Call (.Name x p) (e :: es) [] pos) (tCB r t) := by
  intro pins s σ H Q I h
  refine wpAny_Call_Name_kw (ld_blt I hg hm hv ?_ hn hdb)
  exact PyProof.Rows.callWith_builtin1 (thn (ha pos pins s σ H _ I h) fun us s1 ⟨vs, H1, I1, r1, q1⟩ => hc pins s1 σ H1 vs us Q I1 r1 q1) he hpl
theorem pe_callTy (hc : CallR X (.type T) r) (hg : Gl X x) (hm : X.mg x = none) (hv : bootBuiltins x = some (.type T)) (ha : PA X (e :: es) t) (hn : x ≠ "__name__" := by decide) (hdb : (x == ("__debug__" : Str)) = false := by decide)
    (he : starEach (e :: es) X.env = (false, eval e X.env) :: starEach es X.env := by rfl) (hpl : (backTo pos (starEach es X.env)).any (·.1) = false := by rfl) : PE X (.Call (.Name x p) (e :: es) [] pos) (tCB r t) := by
  intro pins s σ H Q I h
  refine wpAny_Call_Name_kw (ld_blt I hg hm hv ?_ hn hdb)
  exact PyProof.Rows.callWith_type1 (thn (ha pos pins s σ H _ I h) fun us s1 ⟨vs, H1, I1, r1, q1⟩ => hc pins s1 σ H1 vs us Q I1 r1 q1) he hpl
end
end L2
namespace HT
open PySem PyProof.Rows
section
open PySem.SeqAt
open PySem.AutoSeq1 (wpAny_loadPart')
open PySem.MeetsSeq PySem.MeetsSeq2 PySem.MeetsSeq3
end
section
variable {prog : Program} {w : World} {A : Around} {E : Value → Shared → Prop} {s : Shared}
noncomputable def sIx (n d : Nat) : Option Int → Nat
  | none => d
  | some v => if v < 0 then (v + (n : Int)).toNat else min v.toNat n
theorem sIx_nat (n d k : Nat) : sIx n d (some (k : Int)) = min k n := by
  show (if (k : Int) < 0 then ((k : Int) + (n : Int)).toNat else min (k : Int).toNat n) = min k n
  rw [if_neg (by first | assumption | decide | omega), Int.toNat_natCast]
end
end HT
namespace L2
open PySem PySem.Spec PyProof.Rows
noncomputable abbrev TO := St → Hp → (Option Int → Hp → Prop) → Prop
noncomputable def PO (X : Cx) (e : Option Expr) (t : TO) : Prop :=
  ∀ (pins : List (Addr × Obj)) (s : Shared) (σ : St) (H : Hp) (Q : Option Int → Hp → Prop), Inv X pins σ H s → t σ H Q →
    wpAny (model X.prog X.w) X.A (evalPart e X.env) (fun u s' => ∃ o H', Inv X pins σ H' s' ∧ IsPart u o ∧ Q o H') X.xe s
noncomputable def tNoPart : TO := fun _ H Q => Q none H
noncomputable def tPart (t : TE) : TO := fun σ H Q => t σ H fun x H1 => ∃ i, x = .int i ∧ Q (some i) H1
section
variable {X : Cx} {e : Expr} {te : TE} {lo hi : Option Expr} {tl th : TO} {pos p2 : Pos}
theorem po_none : PO X none tNoPart := by
  intro pins s σ H Q I h
  rw [evalPart_none]
  exact wpAny_pure ⟨none, H, I, .none, h⟩
theorem po_some (h : PE X e te) : PO X (some e) (tPart te) := by
  intro pins s σ H Q I hw
  rw [evalPart_some]
  refine thn (h pins s σ H _ I hw) fun u s1 hZq => ?_
  obtain ⟨x, H1, I1, r1, q1⟩ := hZq
  obtain ⟨i, rfl, q⟩ := q1
  obtain ⟨t, rfl⟩ := r1
  exact ⟨some i, H1, I1, .int i t, q⟩
noncomputable def SlR (X : Cx) (r : V → Option Int → Option Int → Hp → VK → Prop) : Prop :=
  ∀ (pins : List (Addr × Obj)) (s : Shared) (σ : St) (H : Hp) (x : V) (v vl vu : Value) (lo hi : Option Int) (sl : Addr) (Q : VK), Inv X pins σ H s → RelV x v → s.heap.IsSliceOf sl vl vu .none → IsPart vl lo → IsPart vu hi → r x lo hi H Q →
    ∃ T id, typeLookup (.type T) "__getitem__" = pure (some (.builtin id)) ∧ s.TypeIs v T ∧ wpAny (model X.prog X.w) X.A (getItem v (.ref sl)) (EP X pins σ Q) X.xe s
noncomputable def tSl (r : V → Option Int → Option Int → Hp → VK → Prop) (te : TE) (tl th : TO) : TE := fun σ H Q => te σ H fun x H1 => tl σ H1 fun l H2 => th σ H2 fun u H3 => r x l u H3 Q
theorem pe_slice {r : V → Option Int → Option Int → Hp → VK → Prop} (hr : SlR X r) (he : PE X e te) (hl : PO X lo tl) (hu : PO X hi th) : PE X (.Subscript e (.Slice lo hi none p2) pos) (tSl r te tl th) := by
  intro pins s σ H Q I h
  refine Subscript_ (thn (he pins s σ H _ I h) fun v s1 hZq => ?_)
  obtain ⟨x, H1, I1, r1, q1⟩ := hZq
  refine wpAny_Slice (thn (hl pins s1 σ H1 _ I1 q1) fun vl s2 ⟨l, H2, I2, pl, q2⟩ => thn (hu pins s2 σ H2 _ I2 q2) fun vu s3 hZq => ?_)
  obtain ⟨u, H3, I3, pu, q3⟩ := hZq
  rw [evalPart_none]
  refine wpAny_pure ?_
  have I4 : Inv X pins σ H3 { s3 with heap := s3.heap.push { cls := .type "slice", data := .fields #[vl, vu, .none] } } := I3.kept (t' := s3.toks) fun b ob q => Heap.get?_push_of_some _ q
  obtain ⟨T, id, hT, ht, hg⟩ := hr pins { s3 with heap := s3.heap.push { cls := .type "slice", data := .fields #[vl, vu, .none] } } σ H3 x v vl vu l u s3.heap.objs.size Q I4 r1 (Heap.IsSliceOf.new ..) pl pu q3
  show wpAny (model X.prog X.w) X.A (subscriptTail e (.Slice lo hi none p2) v (.ref s3.heap.objs.size)) (EP X pins σ Q) X.xe { s3 with heap := s3.heap.push { cls := .type "slice", data := .fields #[vl, vu, .none] } }
  exact tail_any (ops := [.ref s3.heap.objs.size, v]) ht hT hg (by with_unfolding_all rfl)
noncomputable def cutV (xs : List V) (lo hi : Option Int) : List V := (xs.drop (HT.sIx xs.length 0 lo)).take (HT.sIx xs.length xs.length hi - HT.sIx xs.length 0 lo)
theorem cutV_length (xs : List V) (lo hi : Option Int) : (cutV xs lo hi).length ≤ xs.length := by
  unfold cutV
  rw [List.length_take, List.length_drop]
  exact Nat.le_trans (Nat.min_le_right ..) (Nat.sub_le ..)
end
end L2
namespace L2
open PySem PySem.Spec PyProof.Rows
noncomputable def ixN (n : Nat) (i : Int) : Option Nat := if 0 ≤ i then (if i < n then some i.toNat else none) else if -(n : Int) ≤ i then some (i + n).toNat else none
noncomputable def atI {α : Type} (xs : List α) (i : Int) : Option α := (ixN xs.length i).bind fun j => xs[j]?
theorem ixN_seq {n : Nat} {i : Int} {j : Nat} (h : ixN n i = some j) : seqIndex? i n = some j ∧ j < n ∧ -(n : Int) ≤ i ∧ i < n := by
  unfold ixN at h
  by_cases h0 : 0 ≤ i
  · rw [if_pos h0] at h
    by_cases h1 : i < n
    · rw [if_pos h1] at h
      have e : i.toNat = j := Option.some.inj h
      exact ⟨by rw [seqIndex_of h0 h1, e], by first | assumption | decide | (clear h; omega), by first | assumption | decide | (clear e h1 h; omega), h1⟩
    · rw [if_neg h1] at h; cases h
  · rw [if_neg h0] at h
    by_cases h1 : -(n : Int) ≤ i
    · rw [if_pos h1] at h
      have e : (i + n).toNat = j := Option.some.inj h
      exact ⟨by rw [seqIndex_neg (by first | assumption | decide | (clear e h1 h; omega)) h1, e], by first | assumption | decide | (clear h; omega), h1, by first | assumption | decide | (clear e h; omega)⟩
    · rw [if_neg h1] at h; cases h
theorem atI_get {α : Type} {xs : List α} {i : Int} {v : α} (h : atI xs i = some v) : ∃ j, seqIndex? i xs.length = some j ∧ xs[j]? = some v ∧ j < xs.length ∧ -(xs.length : Int) ≤ i ∧ i < xs.length := by
  unfold atI at h
  cases e : ixN xs.length i with
  | none => rw [e] at h; cases h
  | some j =>
    rw [e] at h
    obtain ⟨h1, h2, h3, h4⟩ := ixN_seq e
    exact ⟨j, h1, h, h2, h3, h4⟩
theorem atI_nat {α : Type} {xs : List α} {j : Nat} {v : α} (h : xs[j]? = some v) : atI xs (j : Int) = some v := by
  have hj : j < xs.length := (List.getElem?_eq_some_iff.mp h).1
  have e : ixN xs.length (j : Int) = some j := by
    unfold ixN
    rw [if_pos (by first | assumption | decide | (clear hj h; omega)), if_pos (by first | assumption | decide | (clear h; omega))]; simp
  unfold atI; rw [e]; exact h
theorem atI_last {α : Type} (xs : List α) (v : α) : atI (xs ++ [v]) (-1) = some v := by
  have hl : (xs ++ [v]).length = xs.length + 1 := by simp
  have e : ixN (xs ++ [v]).length (-1) = some xs.length := by
    unfold ixN
    rw [hl, if_neg (by decide), if_pos (by first | assumption | decide | (clear hl; omega))]
    congr 1
    (clear hl; omega)
  unfold atI
  rw [e]
  show (xs ++ [v])[xs.length]? = some v
  simp
noncomputable def PlainIx (b : Expr) : Prop := ∀ o i, subscripted b false o i = operate [o, i] (getItem o i)
noncomputable def IxR (X : Cx) (r : R2) : Prop :=
  ∀ (value slice : Expr) (pins : List (Addr × Obj)) (s : Shared) (σ : St) (H : Hp) (x y : V) (v u : Value) (Q : VK), Inv X pins σ H s → RelV x v → RelV y u → r x y H Q →
    subscripted slice false v u = operate [v, u] (getItem v u) → wpAny (model X.prog X.w) X.A (subscriptTail value slice v u) (EP X pins σ Q) X.xe s
noncomputable def MtR (X : Cx) (id : String) (r : V → List V → Hp → VK → Prop) : Prop :=
  ∀ (pins : List (Addr × Obj)) (s : Shared) (σ : St) (H : Hp) (x : V) (xs : List V) (v : Value) (us : List Value) (Q : VK), Inv X pins σ H s → RelV x v → Vals xs us → r x xs H Q →
    wpAny (model X.prog X.w) X.A (call (.builtin id) (v :: us)) (EP X pins σ Q) X.xe s
section
variable {X : Cx} {a b : Expr} {ta tb : TE} {pos : Pos}
theorem IxR.or {r r' : R2} (h : IxR X r) (h' : IxR X r') : IxR X (fun x y H Q => r x y H Q ∨ r' x y H Q) := by
  intro value slice pins s σ H x y v u Q I rx ry q hs
  rcases q with q | q
  · exact h value slice pins s σ H x y v u Q I rx ry q hs
  · exact h' value slice pins s σ H x y v u Q I rx ry q hs
theorem pe_ix {r : R2} (hr : IxR X r) (ha : PE X a ta) (hb : PE X b tb) (hs : PlainIx b) : PE X (.Subscript a b pos) (tOp r ta tb) := by
  intro pins s σ H Q I h
  exact Subscript_ (binT ha hb I h fun v u s2 x y H2 I2 rx ry q => hr a b pins s2 σ H2 x y v u Q I2 rx ry q (hs _ _))
noncomputable def rIxL (K : PySem.W.Frag) : R2 := fun x y H Q => ∃ p xs i v, x = .ref p ∧ y = .int i ∧ SqL K H p xs ∧ atI xs i = some v ∧ Q v H
noncomputable def rIxT (K : PySem.W.Frag) : R2 := fun x y H Q => ∃ p xs i v, x = .ref p ∧ y = .int i ∧ SqT K H p xs ∧ atI xs i = some v ∧ Q v H
noncomputable def rIxS : R2 := fun x y H Q => ∃ z i c, x = .str z ∧ y = .int i ∧ z.length ≤ sizeLine ∧ atI z.cps.toList i = some c ∧ Q (.str ⟨#[c]⟩) H
theorem ix_list : IxR X (rIxL X.K) := by
  intro value slice pins s σ H x y v u Q I rx ry h hs
  obtain ⟨p, xs, i, z, rfl, rfl, hq, he, q⟩ := h
  cases rx
  obtain ⟨t, rfl⟩ := ry
  obtain ⟨its, r, pl, hz⟩ := I.list hq
  obtain ⟨j, h1, h2, h3, h4, h5⟩ := atI_get he
  obtain ⟨w, ew, rw'⟩ := r.get h2
  have hl := r.length
  have hn := line63
  have fin : EP X pins σ Q w s := ⟨z, H, I, rw', q⟩
  by_cases h0 : 0 ≤ i
  · have hj : i.toNat = j := by
      rw [seqIndex_of h0 h5] at h1
      exact Option.some.inj h1
    exact item_listR pl.isList h0 (by first | assumption | decide | (clear hj h0 ew h4 h3 h2 h1 hs he; omega)) (by rw [hj]; simpa using ew) fin hs
  · have hj : (i + (its.toArray.size : Int)).toNat = j := by
      rw [seqIndex_neg (by first | assumption | decide | (clear hn hl ew h5 h4 h3 h2 h1 hz hs he; omega)) h4] at h1
      rw [List.size_toArray, ← hl]
      exact Option.some.inj h1
    exact subscriptTail_builtinR (x := w) pl.isList.typeIs slot_list_getitem.lookup
      (wpAny_getItem_list_neg (Q := fun r s' => r = w ∧ EP X pins σ Q r s') pl.isList (by first | assumption | decide | (clear hj hn hl ew h5 h4 h3 h2 h1 hz hs he; omega)) (by rw [List.size_toArray] <;> (clear hj h0 hn ew h5 h3 h2 h1 hz hs he; omega)) (by first | assumption | decide | (clear hj h0 ew h5 h3 h2 h1 hs he; omega)) (by rw [hj]; simpa using ew) ⟨rfl, fin⟩) hs
theorem ix_tup : IxR X (rIxT X.K) := by
  intro value slice pins s σ H x y v u Q I rx ry h hs
  obtain ⟨p, xs, i, z, rfl, rfl, hq, he, q⟩ := h
  cases rx
  obtain ⟨t, rfl⟩ := ry
  obtain ⟨its, r, pl, hz⟩ := I.tuple hq
  obtain ⟨j, h1, h2, h3, h4, h5⟩ := atI_get he
  obtain ⟨w, ew, rw'⟩ := r.get h2
  have hl := r.length
  have hn := line63
  have fin : EP X pins σ Q w s := ⟨z, H, I, rw', q⟩
  exact subscriptTail_builtinR (x := w) pl.typeIs slot_tuple_getitem.lookup
    (getItem_tuple (j := j) (Q := fun r s' => r = w ∧ EP X pins σ Q r s') pl (by first | assumption | decide | (clear ew h5 h2 h1 hs he; omega)) (by first | assumption | decide | (clear ew h4 h2 h1 hs he; omega)) (by rw [List.size_toArray, ← hl]; exact h1) (by simpa using ew) ⟨rfl, fin⟩) hs
theorem ix_str : IxR X rIxS := by
  intro value slice pins s σ H x y v u Q I rx ry h hs
  obtain ⟨z, i, c, rfl, rfl, hz, he, q⟩ := h
  obtain ⟨t, rfl⟩ := rx
  obtain ⟨t', rfl⟩ := ry
  obtain ⟨j, h1, h2, h3, h4, h5⟩ := atI_get he
  have hl : z.cps.toList.length = z.length := by simp [Str.length]
  rw [hl] at h1 h4 h5
  have hn := line63
  exact tail_any (typeIs_str s z t) slot_str_getitem.lookup (getItem_str (c := c) (by
    have e1 : decide (i < -(2 ^ 63 : Int)) = false := decide_eq_false (by first | assumption | decide | (clear h5 h3 h2 h1 hs he; omega))
    have e2 : decide (i ≥ 2 ^ 63) = false := decide_eq_false (by first | assumption | decide | (clear e1 h4 h3 h2 h1 hs he; omega))
    rw [e1, e2, Bool.or_false]) (by rw [h1]; simpa using h2) ⟨.str ⟨#[c]⟩, H, I.tok _, ⟨_, rfl⟩, q⟩) hs
noncomputable def rIx (K : PySem.W.Frag) : R2 := fun x y H Q => rIxL K x y H Q ∨ rIxT K x y H Q ∨ rIxS x y H Q
theorem ix_seq : IxR X (rIx X.K) := ix_list.or (ix_tup.or ix_str)
theorem slice_bounds (lo hi : Option Int) (n : Nat) : (sliceBounds lo hi none n).1 = ((HT.sIx n 0 lo : Nat) : Int) ∧ (sliceBounds lo hi none n).2.1 = ((HT.sIx n n hi : Nat) : Int) ∧ (sliceBounds lo hi none n).2.2 = 1 := by
  refine ⟨?_, ?_, rfl⟩
  · cases lo with
    | none => simp [sliceBounds, HT.sIx]
    | some i =>
      simp only [sliceBounds, HT.sIx, Option.getD_none, show (1 : Int) > 0 by decide, if_true]
      by_cases h : i < 0
      · simp only [h, if_true] <;> omega
      · simp only [h, if_false] <;> omega
  · cases hi with
    | none => simp [sliceBounds, HT.sIx]
    | some i =>
      simp only [sliceBounds, HT.sIx, Option.getD_none, show (1 : Int) > 0 by decide, if_true]
      by_cases h : i < 0
      · simp only [h, if_true] <;> omega
      · simp only [h, if_false] <;> omega
theorem slicePick_cut (its : List Value) (lo hi : Option Int) : slicePick its.toArray lo hi none = ((its.drop (HT.sIx its.length 0 lo)).take (HT.sIx its.length its.length hi - HT.sIx its.length 0 lo)).toArray := by
  obtain ⟨h1, h2, h3⟩ := slice_bounds lo hi its.toArray.size
  unfold slicePick
  rw [h1, h2, h3]
  simp only [sliceRange_one, pick_run, List.size_toArray] <;> rfl
noncomputable def rSlL (K : PySem.W.Frag) : V → Option Int → Option Int → Hp → VK → Prop := fun x lo hi H Q => ∃ a xs, x = .ref a ∧ SqL K H a xs ∧ ∀ p, H p = none → Q (.ref p) (upd H p (.lst (cutV xs lo hi)))
theorem sl_list : SlR X (rSlL X.K) := by
  intro pins s σ H x v vl vu lo hi sl Q I rx hs pl pu h
  obtain ⟨a, xs, rfl, hx, q⟩ := h
  cases rx
  obtain ⟨its, r, ht, hz⟩ := I.list hx
  have hlen := r.length
  refine ⟨"list", _, slot_list_getitem.lookup, ht.isList.typeIs, ?_⟩
  refine wpAny_getItem_list_slice ht.isList hs pl pu .none (by simp) ?_ (by rw [List.size_toArray] <;> omega)
  rw [slicePick_cut, ← hlen]
  refine ⟨.ref s.heap.objs.size, _, I.laid (t' := s.toks) (o := .lst (cutV xs lo hi)) (fun b ob q => Heap.get?_push_of_some _ q) (Nat.le_refl _) ?_, rfl, q _ (I.hok.fresh (Nat.le_refl _))⟩
  exact ⟨Nat.le_trans (cutV_length xs lo hi) hz, _, 0, (r.drop (HT.sIx xs.length 0 lo)).take (HT.sIx xs.length xs.length hi - HT.sIx xs.length 0 lo), Heap.get?_push_size _ rfl⟩
theorem call_len_seq : CallR X (.builtin "len") (fun xs H Q => ∃ p ys, xs = [.ref p] ∧ (SqL X.K H p ys ∨ SqT X.K H p ys) ∧ Q (.int ys.length) H) := by
  intro pins s σ H xs us Q I r h
  obtain ⟨p, ys, rfl, hq, q⟩ := h
  obtain ⟨u, rfl, rx⟩ := vals1 r
  cases rx
  have hn := line63
  rcases hq with hq | hq
  · obtain ⟨its, r', pl, hz⟩ := I.list hq
    have hlen := r'.length
    exact Calls.call_len_list pl.isList (by simp only [List.size_toArray] <;> omega) ⟨.int ys.length, H, I.tok _, ⟨s.toks + 1, by rw [List.size_toArray, hlen]⟩, q⟩
  · obtain ⟨its, r', pl, hz⟩ := I.tuple hq
    have hlen := r'.length
    exact len_tuple pl (by simp only [List.size_toArray] <;> omega) ⟨.int ys.length, H, I.tok _, ⟨s.toks + 1, by rw [List.size_toArray, hlen]⟩, q⟩
theorem call_list_of : CallR X (.type "list") (fun xs H Q => ∃ p ys, xs = [.ref p] ∧ (SqL X.K H p ys ∨ SqT X.K H p ys) ∧ ∀ l, H l = none → Q (.ref l) (upd H l (.lst ys))) := by
  intro pins s σ H xs us Q I r h
  obtain ⟨p, ys, rfl, hq, q⟩ := h
  obtain ⟨u, rfl, rx⟩ := vals1 r
  cases rx
  have fin : ∀ (its : List Value), Vals ys its → ys.length ≤ sizeLine → ∀ (h' : Heap) (c' : Nat), (∀ b o', s.heap.get? b = some o' → h'.get? b = some o') →
      h'.get? s.heap.objs.size = some { cls := .type "list", dict := none, data := .seq its.toArray c', slots := #[] } → EP X pins σ Q (.ref s.heap.objs.size) { s with heap := h' } := fun its r' hz h' c' kp e =>
    ⟨.ref s.heap.objs.size, _, I.laid (t' := s.toks) kp (Nat.le_refl _) (show ObjOk X.prog X.w _ h' _ (.lst ys) from ⟨hz, its, c', r', e⟩), rfl, q _ (I.hok.fresh (Nat.le_refl _))⟩
  rcases hq with hq | hq
  · obtain ⟨its, r', pl, hz⟩ := I.list hq
    have hlen := r'.length
    obtain ⟨o, ho, hc, n, hd⟩ := pl.isList
    exact call_list_seq p (.inl rfl) ho hc hd (fun h' c' kp e => fin its r' hz h' c' kp e) (by simp only [List.size_toArray] <;> (clear hd hc ho; omega))
  · obtain ⟨its, r', pl, hz⟩ := I.tuple hq
    have hlen := r'.length
    obtain ⟨o, ho, hc, n, hd⟩ := pl
    exact call_list_seq p (.inr rfl) ho hc hd (fun h' c' kp e => fin its r' hz h' c' kp e) (by simp only [List.size_toArray] <;> (clear hd hc ho; omega))
theorem call_tuple_of : CallR X (.type "tuple") (fun xs H Q => ∃ p ys, xs = [.ref p] ∧ ((SqL X.K H p ys ∧ ∀ l, H l = none → Q (.ref l) (upd H l (.tup ys))) ∨ (SqT X.K H p ys ∧ Q (.ref p) H))) := by
  intro pins s σ H xs us Q I r h
  obtain ⟨p, ys, rfl, h⟩ := h
  obtain ⟨u, rfl, rx⟩ := vals1 r
  cases rx
  rcases h with ⟨hq, q⟩ | ⟨hq, q⟩
  · obtain ⟨its, r', pl, hz⟩ := I.list hq
    have hlen := r'.length
    refine call_tuple_list pl.isList (fun h' kp => ?_) (by simp only [List.size_toArray] <;> omega)
    have I1 : Inv X pins σ H { s with heap := h' } := I.kept (t' := s.toks) kp
    have I2 : Inv X pins σ (upd H h'.objs.size (.tup ys)) { s with heap := h'.push { cls := .type "tuple", data := .seq its.toArray } } :=
      I1.laid (t' := s.toks) (fun b o e => Heap.get?_push_of_some _ e) (Nat.le_refl _) (show ObjOk X.prog X.w _ _ _ (.tup ys) from ⟨hz, its, r', IsTup.new _ _⟩)
    exact ⟨.ref h'.objs.size, _, I2, rfl, q _ (I1.hok.fresh (Nat.le_refl _))⟩
  · obtain ⟨its, r', pl, hz⟩ := I.tuple hq
    exact call_tuple_same pl ⟨.ref p, H, I, rfl, q⟩
noncomputable def tyV (K : PySem.W.Frag) (T : String) (x : V) (H : Hp) : Prop := match x with
  | .str _ => T = "str"
  | .int _ => T = "int"
  | .ref p => (T = "list" ∧ ∃ xs, SqL K H p xs) ∨ (T = "tuple" ∧ ∃ o, K.lookup p = some o ∧ o.cls = .type "tuple" ∧ o.dict = none) ∨
      (T = "dict" ∧ ((∃ kvs, H p = some (.dK kvs)) ∨ ∃ kvs, H p = some (.dT kvs))) ∨ (T = "set" ∧ ∃ S n, H p = some (.set S n))
  | _ => False
theorem tyV_is {pins : List (Addr × Obj)} {σ : St} {H : Hp} {s : Shared} {T : String} {x : V} {v : Value} (I : Inv X pins σ H s) (r : RelV x v) (ty : tyV X.K T x H) :
    s.TypeIs v T ∧ ∀ a, v = .ref a → ∃ ob, s.heap.get? a = some ob ∧ ob.dict = none := by
  cases x with
  | str z =>
    obtain ⟨t, rfl⟩ := r
    cases (show T = "str" from ty)
    exact ⟨typeIs_str s z t, fun _ e => nomatch e⟩
  | int i =>
    obtain ⟨t, rfl⟩ := r
    cases (show T = "int" from ty)
    exact ⟨typeIs_int s i t, fun _ e => nomatch e⟩
  | ref p =>
    cases r
    rcases ty with ⟨rfl, xs, hq⟩ | ⟨rfl, o, hk, hc, hd⟩ | ⟨rfl, hk⟩ | ⟨rfl, S, n, hk⟩
    · obtain ⟨its, _, pl, _⟩ := I.list hq
      refine ⟨pl.isList.typeIs, fun a e => ?_⟩
      cases e
      obtain ⟨o, n, e, c, hd, _⟩ := pl
      exact ⟨o, e, hd⟩
    · refine ⟨⟨o, I.kIn p o hk, hc⟩, fun a e => ?_⟩
      cases e
      exact ⟨o, I.kIn _ o hk, hd⟩
    · have z : ∃ o, s.heap.get? p = some o ∧ o.ExactDict := by
        rcases hk with ⟨kvs, hk⟩ | ⟨kvs, hk⟩
        · obtain ⟨_, _, _, _, o, _, _, e, ex, _⟩ := I.hok p _ hk
          exact ⟨o, e, ex⟩
        · obtain ⟨_, _, _, _, o, _, _, e, ex, _⟩ := I.hok p _ hk
          exact ⟨o, e, ex⟩
      obtain ⟨o, e, ex⟩ := z
      refine ⟨⟨o, e, ex.1⟩, fun a e2 => ?_⟩
      cases e2
      exact ⟨o, e, ex.2.1⟩
    · obtain ⟨o, _, _, _, e, ex, _⟩ := I.hok p _ hk
      refine ⟨⟨o, e, ex.1⟩, fun a e2 => ?_⟩
      cases e2
      exact ⟨o, e, ex.2.1⟩
  | _ => exact False.elim ty
noncomputable def tBM0 (K : PySem.W.Frag) (T : String) (r : V → List V → Hp → VK → Prop) (to : TE) : TE := fun σ H Q => to σ H fun x H1 => tyV K T x H1 ∧ r x [] H1 Q
noncomputable def tBM (K : PySem.W.Frag) (T : String) (r : V → List V → Hp → VK → Prop) (to : TE) (t : TA) : TE := fun σ H Q => to σ H fun x H1 => tyV K T x H1 ∧ t σ H1 fun xs H2 => r x xs H2 Q
variable {o e : Expr} {es : List Expr} {to : TE} {t : TA} {name : Str} {apos cpos : Pos} {T id : String} {r : V → List V → Hp → VK → Prop}
theorem pe_bm0 (pa : PlainAttrs T) (slot : Slot T name id) (hty : typeOf (.builtin id) = pure (.type "method_descriptor")) (hm : MtR X id r) (ho : PE X o to)
    (hbase : attributeBase o name X.env (eval o X.env) = eval o X.env := by rfl) (hline : (apos.endLine == cpos.line) = true := by rfl) : PE X (.Call (.Attribute o name apos) [] [] cpos) (tBM0 X.K T r to) := by
  intro pins s σ H Q I h
  refine wpAny_Call_method0_late hbase hline (thn (ho pins s σ H _ I h) fun v s1 hZq => ?_)
  obtain ⟨x, H1, I1, r1, ty, q1⟩ := hZq
  obtain ⟨h1, h2⟩ := tyV_is I1 r1 ty
  exact ⟨T, id, pa, slot, hty, h1, h2, Calls.callWith_builtin rfl (PySem.evalArgs_none (hm pins s1 σ H1 x [] v [] Q I1 r1 .nil q1))⟩
theorem pe_bm (pa : PlainAttrs T) (slot : Slot T name id) (hty : typeOf (.builtin id) = pure (.type "method_descriptor")) (hm : MtR X id r) (ho : PE X o to) (ha : PA X (e :: es) t)
    (hbase : attributeBase o name X.env (eval o X.env) = eval o X.env := by rfl)
    (hfew : ((backTo cpos (starEach (e :: es) X.env)).all (fun x => !x.1) && (backToKw cpos (keywordEach [] X.env)).all (fun x => x.1.isSome)
      && decide ((e :: es).length + ([] : List Keyword).length + (if ([] : List Keyword).isEmpty then 0 else 1) < 30)) = true := by rfl)
    (hline : (apos.endLine == cpos.line) = true := by rfl) (hs : starEach (e :: es) X.env = (false, eval e X.env) :: starEach es X.env := by rfl) (hplain : (backTo cpos (starEach es X.env)).any (·.1) = false := by rfl) :
    PE X (.Call (.Attribute o name apos) (e :: es) [] cpos) (tBM X.K T r to t) := by
  intro pins s σ H Q I h
  refine wpAny_Call_method_late hbase hfew hline rfl (thn (ho pins s σ H _ I h) fun v s1 hZq => ?_)
  obtain ⟨x, H1, I1, r1, ty, q1⟩ := hZq
  obtain ⟨h1, h2⟩ := tyV_is I1 r1 ty
  refine ⟨T, id, pa, slot, hty, h1, h2, ?_⟩
  have hA := ha cpos pins s1 σ H1 _ I1 q1
  rw [hs] at hA ⊢
  refine Calls.callWith_builtin (by show (false || (backTo cpos (starEach es X.env)).any (·.1)) = false; rw [hplain] <;> rfl) (Calls.evalArgs_plain ?_)
  exact thn hA fun us s2 ⟨vs, H2, I2, r2, q2⟩ => hm pins s2 σ H2 x vs v us Q I2 r1 r2 q2
end
end L2
namespace L2
open PySem PySem.Spec PyProof.Rows
noncomputable def MtM (X : Cx) (id : String) (r : V → List V → Hp → VK → Prop) : Prop :=
  ∀ (pins : List (Addr × Obj)) (s : Shared) (σ : St) (H : Hp) (x : V) (xs : List V) (v : Value) (us : List Value) (Q : VK), Inv X pins σ H s → RelV x v → Vals xs us → r x xs H Q →
    wpAny (model X.prog X.w) X.A (call (.builtin id) (v :: us)) (EP X pins σ Q) X.xe s
theorem Vals.one {x : V} {us : List Value} (h : Vals [x] us) : ∃ u, us = [u] ∧ RelV x u := by
  cases h with
  | cons r t => cases t; exact ⟨_, rfl, r⟩
section
variable {X : Cx} {pins : List (Addr × Obj)} {σ : St} {H : Hp} {s : Shared} {l b : Addr} {xs ys zs : List V}
theorem Inv.lset {its its' : List Value} {n : Nat} {f : Array Value → Array Value} {t' : Nat} (I : Inv X pins σ H s) (hH : H l = some (.lst xs))
    (e : s.heap.get? l = some { cls := .type "list", data := .seq its.toArray n }) (hf : f its.toArray = its'.toArray) (hv : Vals ys its') (hz : ys.length ≤ sizeLine) :
    Inv X pins σ (upd H l (.lst ys)) { s with heap := s.heap.update l (Obj.mapSeq f), toks := t' } := by
  have q := PySem.IsL.update e f
  rw [hf] at q
  refine I.write (x := l) (e := l) (by rw [hH]; exact trivial) (.inl rfl) (fun b' u hb hu => (Heap.get?_update_other s.heap (Obj.mapSeq f) (Ne.symm hb)).trans hu) ⟨_, q⟩ ?_
  exact ⟨hz, its', _, hv, q⟩
theorem Inv.lnew {its : List Value} {t' : Nat} (I : Inv X pins σ H s) (hv : Vals ys its) (hz : ys.length ≤ sizeLine) :
    Inv X pins σ (upd H s.heap.objs.size (.lst ys)) { s with heap := s.heap.push { cls := .type "list", data := .seq its.toArray }, toks := t' } :=
  I.laid (fun _ _ q => Heap.get?_push_of_some _ q) (Nat.le_refl _) ⟨hz, its, 0, hv, Heap.get?_push_size _ rfl⟩
theorem Inv.fresh (I : Inv X pins σ H s) : H s.heap.objs.size = none := I.hok.fresh (Nat.le_refl _)
theorem Inv.lstM (I : Inv X pins σ H s) (hH : H l = some (.lst xs)) : xs.length ≤ sizeLine ∧ ∃ (its : List Value) (n : Nat), Vals xs its ∧ xs.length = its.length ∧ s.heap.get? l = some { cls := .type "list", data := .seq its.toArray n } := by
  obtain ⟨z, its, n, r, e⟩ := I.hok l _ hH
  exact ⟨z, its, n, r, r.length, e⟩
end
section
variable {X : Cx}
noncomputable def rAppend : V → List V → Hp → VK → Prop := fun x vs H Q => ∃ l xs y, x = .ref l ∧ vs = [y] ∧ H l = some (.lst xs) ∧ xs.length < sizeLine ∧ Q .non (upd H l (.lst (xs ++ [y])))
theorem mt_append : MtM X "list.append" rAppend := by
  intro pins s σ H x vs v us Q I rx rv h
  obtain ⟨l, xs, y, rfl, rfl, hH, hz, q⟩ := h
  cases rx
  obtain ⟨u, rfl, ru⟩ := rv.one
  obtain ⟨z, its, n, r, hl, e⟩ := I.lstM hH
  refine call_meets F.slot_list_append ⟨_, e, rfl⟩ F.entry_list_append (F.args_list_append_2 _ _) (PySem.list_append l its.toArray n u (by rw [List.size_toArray]; (clear e z hH; omega))) ⟨e, ?_⟩
  refine ⟨.non, _, I.lset (its' := its ++ [u]) hH e (by simp) (r.append (.cons ru .nil)) ?_, rfl, q⟩
  rw [List.length_append, List.length_singleton]
  (clear e z hH; omega)
end
section
variable {prog : Program} {w : World} {A : Around} {E : Value → Shared → Prop} {s : Shared}
end
section
variable {X : Cx}
end
end L2
namespace L2
open PySem PySem.Spec PyProof.Rows
section
variable {κ : Type} [DecidableEq κ]
noncomputable def valV (kvs : List (κ × V)) (k : κ) : Option V := (kvs.find? fun kv => decide (kv.1 = k)).map (·.2)
noncomputable def putK (kvs : List (κ × V)) (k : κ) (v : V) : List (κ × V) :=
  if (kvs.any fun kv => decide (kv.1 = k)) = true then kvs.map (fun kv => if kv.1 = k then (kv.1, v) else kv) else kvs ++ [(k, v)]
theorem valV_pos {p : κ × V} {r : List (κ × V)} {k : κ} (e : p.1 = k) : valV (p :: r) k = some p.2 := by simp [valV, List.find?_cons, e]
theorem valV_neg {p : κ × V} {r : List (κ × V)} {k : κ} (e : ¬ p.1 = k) : valV (p :: r) k = valV r k := by simp [valV, List.find?_cons, e]
theorem valV_any (k : κ) : ∀ kvs : List (κ × V), (kvs.any fun kv => decide (kv.1 = k)) = (valV kvs k).isSome
  | [] => rfl
  | p :: r => by
    rw [List.any_cons]
    by_cases e : p.1 = k
    · simp only [valV_pos e, decide_eq_true e, Bool.true_or, Option.isSome_some]
    · rw [valV_neg e, decide_eq_false e, Bool.false_or]; exact valV_any k r
theorem length_putK (kvs : List (κ × V)) (k : κ) (v : V) : (putK kvs k v).length ≤ kvs.length + 1 := by
  unfold putK
  split
  · rw [List.length_map]; omega
  · rw [List.length_append, List.length_cons, List.length_nil]; omega
theorem RelO.isSome_eq {o : Option V} {u : Option Value} (r : RelO o u) : o.isSome = u.isSome := by
  cases o with
  | none => cases u with
    | none => rfl
    | some _ => exact (show False from r).elim
  | some _ => cases u with
    | none => exact (show False from r).elim
    | some _ => rfl
theorem KV.val {kvs : List (κ × V)} {vs : List (κ × Value)} (r : KV kvs vs) (k : κ) : RelO (valV kvs k) (valueAt vs k) := by
  unfold KV at r
  induction r with
  | nil => exact True.intro
  | @cons p q ps qs h t ih =>
    obtain ⟨h1, h2⟩ := h
    by_cases e : p.1 = k
    · have e' : q.1 = k := h1.symm.trans e
      have b : valueAt (q :: qs) k = some q.2 := by simp [valueAt, List.find?_cons, e']
      rw [valV_pos e, b]; exact h2
    · have e' : ¬ q.1 = k := fun z => e (h1.trans z)
      have b : valueAt (q :: qs) k = valueAt qs k := by simp [valueAt, List.find?_cons, e']
      rw [valV_neg e, b]; exact ih
theorem KV.any {kvs : List (κ × V)} {vs : List (κ × Value)} (r : KV kvs vs) (k : κ) : (kvs.any fun kv => decide (kv.1 = k)) = vs.any fun kv => decide (kv.1 = k) := by
  unfold KV at r
  induction r with
  | nil => rfl
  | cons h t ih => rw [List.any_cons, List.any_cons, ih, h.1]
theorem KV.repl {kvs : List (κ × V)} {vs : List (κ × Value)} (r : KV kvs vs) (k : κ) {y : V} {u : Value} (ry : RelV y u) :
    KV (kvs.map fun kv => if kv.1 = k then (kv.1, y) else kv) (vs.map fun kv => if kv.1 = k then (kv.1, u) else kv) := by
  unfold KV at r ⊢
  induction r with
  | nil => exact .nil
  | @cons p q ps qs h t ih =>
    rw [List.map_cons, List.map_cons]
    refine .cons ?_ ih
    obtain ⟨h1, h2⟩ := h
    by_cases e : p.1 = k
    · rw [if_pos e, if_pos (h1.symm.trans e)]; exact ⟨h1, ry⟩
    · rw [if_neg e, if_neg (fun z => e (h1.trans z))]; exact ⟨h1, h2⟩
theorem KV.put {kvs : List (κ × V)} {vs : List (κ × Value)} (r : KV kvs vs) (k : κ) {y : V} {u : Value} (ry : RelV y u) : KV (putK kvs k y) (stored vs k u) := by
  unfold putK stored
  rw [r.any k]
  by_cases e : (vs.any fun kv => decide (kv.1 = k)) = true
  · rw [if_pos e, if_pos e]; exact r.repl k ry
  · rw [if_neg e, if_neg e]; exact Paired.snoc r ⟨rfl, ry⟩
theorem KV.length {kvs : List (κ × V)} {vs : List (κ × Value)} (r : KV kvs vs) : kvs.length = vs.length := Paired.length r
end
theorem kV_is {P : Program} {w : World} {k : Key} {u : Value} (r : RelV (kV k) u) : (mixKind P w).is k u = true := by
  cases k with
  | inl i => obtain ⟨t, e⟩ := (show ∃ t, u = Value.int i t from r); subst e; exact mixKind_int P w i t
  | inr x => obtain ⟨t, e⟩ := (show ∃ t, u = Value.str x t from r); subst e; exact mixKind_str P w x t
theorem items_are {P : Program} {w : World} : ∀ {ks : List Key} {us : List Value}, Vals (ks.map kV) us → ItemsAre (mixKind P w) ks us
  | [], _, r => by rw [List.map_nil] at r; cases r; exact .nil
  | k :: ks, _, r => by
    rw [List.map_cons] at r
    cases r with
    | cons h t => exact .cons (kV_is h) (items_are t)
noncomputable abbrev KT (H : Hp) : List (List Key × V) → List (List Key × Addr × Value) → Prop := Paired fun p q => p.1 = q.1 ∧ H q.2.1 = some (.tup (p.1.map kV)) ∧ RelV p.2 q.2.2
theorem KT.val {H : Hp} {kvs : List (List Key × V)} {xs : List (List Key × Addr × Value)} (r : KT H kvs xs) (k : List Key) : RelO (valV kvs k) ((atKey xs k).map (·.2)) := by
  induction r with
  | nil => exact True.intro
  | @cons p q ps qs h t ih =>
    obtain ⟨h1, _, h2⟩ := h
    by_cases e : p.1 = k
    · have e' : q.1 = k := h1.symm.trans e
      have b : atKey (q :: qs) k = some q.2 := by simp [atKey, List.find?_cons, e']
      rw [valV_pos e, b]; exact h2
    · have e' : ¬ q.1 = k := fun z => e (h1.trans z)
      have b : atKey (q :: qs) k = atKey qs k := by simp [atKey, List.find?_cons, e']
      rw [valV_neg e, b]; exact ih
theorem KT.repl {H : Hp} {kvs : List (List Key × V)} {xs : List (List Key × Addr × Value)} (r : KT H kvs xs) (k : List Key) {y : V} {u : Value} (ry : RelV y u) :
    KT H (kvs.map fun kv => if kv.1 = k then (kv.1, y) else kv) (xs.map (putAt k u)) := by
  induction r with
  | nil => exact .nil
  | @cons p q ps qs h t ih =>
    rw [List.map_cons, List.map_cons]
    refine .cons ?_ ih
    obtain ⟨h1, h2, h3⟩ := h
    unfold putAt
    by_cases e : p.1 = k
    · rw [if_pos e, if_pos (h1.symm.trans e)]; exact ⟨h1, h2, ry⟩
    · rw [if_neg e, if_neg (fun z => e (h1.trans z))]; exact ⟨h1, h2, h3⟩
theorem KT.put {H : Hp} {kvs : List (List Key × V)} {xs : List (List Key × Addr × Value)} (r : KT H kvs xs) (k : List Key) {b : Addr} {y : V} {u : Value} (hb : H b = some (.tup (k.map kV))) (ry : RelV y u) :
    KT H (putK kvs k y) (storedH xs k b u) := by
  have e : (kvs.any fun kv => decide (kv.1 = k)) = (atKey xs k).isSome := by
    rw [valV_any, (r.val k).isSome_eq, Option.isSome_map]
  unfold putK storedH
  rw [e]
  by_cases q : (atKey xs k).isSome = true
  · rw [if_pos q, if_pos q]; exact r.repl k ry
  · rw [if_neg q, if_neg q]; exact Paired.snoc r ⟨rfl, hb, ry⟩
theorem KT.keeps {H H' : Hp} {kvs : List (List Key × V)} {xs : List (List Key × Addr × Value)} (r : KT H kvs xs) (ht : ∀ b ys, H b = some (.tup ys) → H' b = some (.tup ys)) : KT H' kvs xs :=
  Paired.mapP r fun _ _ z => ⟨z.1, ht _ _ z.2.1, z.2.2⟩
section
variable {P : Program} {w : World} {H : Hp} {h : Heap} {a : Addr}
theorem rd_of {u : HO} (ok : HOk P w H h) (e : Rd H a u) : ObjOk P w H h a u := e.ok ok
theorem dk_rd {kvs : List (Key × V)} (ok : HOk P w H h) (e : Rd H a (.dK kvs)) : kvs.length ≤ sizeLine ∧ (a == sysModules) = false ∧ ∃ vs, KV kvs vs ∧ h.DictOf (mixKind P w) a vs :=
  show ObjOk P w H h a (.dK kvs) from rd_of ok e
theorem dk_of {kvs : List (Key × V)} (ok : HOk P w H h) (e : H a = some (.dK kvs)) : kvs.length ≤ sizeLine ∧ (a == sysModules) = false ∧ ∃ vs, KV kvs vs ∧ h.DictOf (mixKind P w) a vs := dk_rd ok (.inl e)
theorem key_of {ks : List Key} (ok : HOk P w H h) (e : H a = some (.tup (ks.map kV))) : (tupleKind (mixKind P w)).is h ks a := by
  obtain ⟨_, its, r, o, h1, h2, n, h3⟩ := (show ObjOk P w H h a (.tup (ks.map kV)) from ok a _ e)
  exact ⟨o, its.toArray, n, h1, h2, h3, by simpa using items_are r⟩
theorem dt_rd {kvs : List (List Key × V)} (ok : HOk P w H h) (e : Rd H a (.dT kvs)) : kvs.length ≤ sizeLine ∧ (a == sysModules) = false ∧
    ∃ xs, KT H kvs xs ∧ h.DictOfH (tupleKind (mixKind P w)) a xs := by
  obtain ⟨z, y, xs, r, o, es, ep, h1, h2, h3, h4, h5⟩ := (show ObjOk P w H h a (.dT kvs) from rd_of ok e)
  refine ⟨z, y, xs, r, o, es, ep, h1, h2, h3, h4, fun x hx => ?_, h5⟩
  have all : ∀ {l : List (List Key × V)} {m : List (List Key × Addr × Value)}, KT H l m → ∀ x ∈ m, (tupleKind (mixKind P w)).is h x.1 x.2.1 := by
    intro l m q
    induction q with
    | nil => intro x hx; exact nomatch hx
    | @cons p q ps qs hq t ih =>
      intro x hx
      rcases List.mem_cons.mp hx with e | hx
      · subst e
        exact key_of ok (by rw [← hq.1]; exact hq.2.1)
      · exact ih x hx
  exact all r x hx
theorem dt_of {kvs : List (List Key × V)} (ok : HOk P w H h) (e : H a = some (.dT kvs)) : kvs.length ≤ sizeLine ∧ (a == sysModules) = false ∧
    ∃ xs, KT H kvs xs ∧ h.DictOfH (tupleKind (mixKind P w)) a xs := dt_rd ok (.inl e)
end
noncomputable def DGet (H : Hp) (a : Addr) (y : V) (r : Option V) : Prop :=
  (∃ kvs k, Rd H a (.dK kvs) ∧ y = kV k ∧ r = valV kvs k) ∨ ∃ kvs k b, Rd H a (.dT kvs) ∧ y = .ref b ∧ H b = some (.tup (k.map kV)) ∧ r = valV kvs k
noncomputable def DPut (H : Hp) (a : Addr) (y v : V) (H' : Hp) : Prop :=
  (∃ kvs k, H a = some (.dK kvs) ∧ y = kV k ∧ kvs.length < sizeLine ∧ H' = upd H a (.dK (putK kvs k v))) ∨
  ∃ kvs k b, H a = some (.dT kvs) ∧ y = .ref b ∧ H b = some (.tup (k.map kV)) ∧ kvs.length < sizeLine ∧ H' = upd H a (.dT (putK kvs k v))
theorem DGet.k {H : Hp} {a : Addr} {kvs : List (Key × V)} {k : Key} (e : H a = some (.dK kvs)) : DGet H a (kV k) (valV kvs k) := .inl ⟨kvs, k, .inl e, rfl, rfl⟩
theorem DPut.k {H : Hp} {a : Addr} {kvs : List (Key × V)} {k : Key} {v : V} (e : H a = some (.dK kvs)) (hl : kvs.length < sizeLine) : DPut H a (kV k) v (upd H a (.dK (putK kvs k v))) := .inl ⟨kvs, k, e, rfl, hl, rfl⟩
section
variable {X : Cx} {pins : List (Addr × Obj)} {σ : St} {H : Hp} {s : Shared} {a : Addr} {y v : V} {u r : Value} {o : Option V} {A : Around} {E : Value → Shared → Prop}
theorem Inv.big (I : Inv X pins σ H s) : sysModules < s.heap.objs.size := by
  have h : mainGlobals < s.heap.objs.size := (I.mod.glob.keeps I.bk).lt
  exact Nat.lt_trans (by decide) h
theorem d_getItem {Q : Value → Shared → Prop} (hu : A.units + 1 < cLine) (I : Inv X pins σ H s) (g : DGet H a y (some v)) (ry : RelV y u) (h : ∀ w' s', Inv X pins σ H s' → RelV v w' → Q w' s') :
    wpAny (model X.prog X.w) A (getItem (.ref a) u) Q E s := by
  rcases g with ⟨kvs, k, e, ey, l⟩ | ⟨kvs, k, b, e, ey, eb, l⟩
  · subst ey
    obtain ⟨z, hd, vs, rel, dd⟩ := dk_rd I.hok e
    obtain ⟨w', hw, rw'⟩ := RelO.some_of (v := v) (o := valueAt vs k) (by rw [l]; exact rel.val k)
    exact wpAny_getItem_of (kV_is ry) dd.mapOf hw (h w' _ (I.tok _) rw')
  · subst ey
    cases (show u = Value.ref b from ry)
    obtain ⟨z, hd, xs, rel, dd⟩ := dt_rd I.hok e
    obtain ⟨w', hw, rw'⟩ := RelO.some_of (v := v) (o := (atKey xs k).map (·.2)) (by rw [l]; exact rel.val k)
    obtain ⟨p, hp, hp2⟩ := Option.map_eq_some_iff.mp hw
    refine wpAny_getItem_heap (tupleKind_room_in1 hu) (key_of I.hok eb) dd hp ?_
    rw [hp2]
    exact h w' _ (I.tok _) rw'
theorem d_write {h' : Heap} {t' : Nat} {ob : HO} (I : Inv X pins σ H s) (mu : Mut (H a)) (hs : Heap.SameBut a s.heap h') (he : ∃ q, h'.get? a = some q) (new : ObjOk X.prog X.w (upd H a ob) h' a ob) :
    Inv X pins σ (upd H a ob) { s with heap := h', toks := t' } :=
  I.write (x := a) (e := a) mu (.inl rfl) (fun b q hb z => (hs.2 b hb).trans z) he new
theorem dk_new {P : Program} {w : World} {H' : Hp} {h' : Heap} {kvs : List (Key × V)} {vs : List (Key × Value)} (z : kvs.length ≤ sizeLine) (hd : (a == sysModules) = false) (rel : KV kvs vs) (dd : h'.DictOf (mixKind P w) a vs) :
    ObjOk P w H' h' a (.dK kvs) := ⟨z, hd, vs, rel, dd⟩
theorem d_setItem {H' : Hp} {Q : Unit → Shared → Prop} (hu : A.units + 1 < cLine) (I : Inv X pins σ H s) (g : DPut H a y v H') (ry : RelV y u) (rv : RelV v r) (h : ∀ s', Inv X pins σ H' s' → Q () s') :
    wpAny (model X.prog X.w) A (setItem (.ref a) u r) Q E s := by
  rcases g with ⟨kvs, k, e, ey, l, eH⟩ | ⟨kvs, k, b, e, ey, eb, l, eH⟩
  · subst ey eH
    obtain ⟨z, hd, vs, rel, dd⟩ := dk_of I.hok e
    have hz : vs.length ≤ sizeLine := by rw [← rel.length]; exact z
    have hl : (putK kvs k v).length ≤ sizeLine := by have := length_putK kvs k v; (clear hz hd z e hu; omega)
    refine wpAny_setItem_pairs (hsz := hz) (kV_is ry) dd fun h' dd' hs => h _ ?_
    have he : ∃ q, h'.get? a = some q := let ⟨q, _, _, hq, _⟩ := dd'; ⟨q, hq⟩
    exact d_write I (by rw [e]; exact True.intro) hs he (dk_new hl hd (rel.put k rv) dd')
  · subst ey eH
    cases (show u = Value.ref b from ry)
    obtain ⟨z, hd, xs, rel, dd⟩ := dt_of I.hok e
    have hz : xs.length ≤ sizeLine := by rw [← Paired.length rel]; exact z
    have hl : (putK kvs k v).length ≤ sizeLine := by have := length_putK kvs k v; (clear hz hd z eb e hu; omega)
    refine wpAny_setItem_heap (hsz := hz) (tupleKind_room_in1 hu) (key_of I.hok eb) dd fun h' dd' hs => h _ ?_
    obtain ⟨q, es, ep, hq, h2, h3, h4, _, h5⟩ := dd'
    refine d_write I (by rw [e]; exact True.intro) hs ⟨q, hq⟩ ⟨hl, hd, _, (rel.put k eb rv).keeps fun c ys ec => ?_, q, es, ep, hq, h2, h3, h4, h5⟩
    rw [upd_ne (ne_of ec e (fun z => nomatch z))]
    exact ec
end
section
variable {X : Cx} {pins : List (Addr × Obj)} {σ : St} {H : Hp} {s : Shared} {a : Addr} {kvs : List (Key × V)} {k : Key} {u : Value} {A : Around} {E : Value → Shared → Prop}
end
noncomputable def NoSl (i : Expr) : Prop := ∀ ov iv, subscripted i false ov iv = operate [ov, iv] (getItem ov iv)
theorem subD_of {prog : Program} {w : World} {A : Around} {E : Value → Shared → Prop} {s : Shared} {env : Env} {value slice : Expr} {pos : Pos} {T id : String} {Q : Value → Shared → Prop}
    (hl : typeLookup (.type T) "__getitem__" = pure (some (.builtin id))) (hs : NoSl slice)
    (h : wpAny (model prog w) A (eval value env) (fun o s₁ => wpAny (model prog w) A (eval slice env) (fun i s₂ => s₂.TypeIs o T ∧ wpAny (model prog w) A (getItem o i) Q E s₂) E s₁) E s) :
    wpAny (model prog w) A (eval (.Subscript value slice pos) env) Q E s := by
  refine Subscript_ (wpAny_mono h (fun o s₁ h₁ => wpAny_mono h₁ (fun i s₂ h₂ => ?_) fun _ _ x => x) fun _ _ x => x)
  obtain ⟨hT, h₂⟩ := h₂
  unfold subscriptTail
  refine wpAny_bind ?_
  rw [getitemInPython_of_ne hT.not_modules]
  refine wpAny_bind (wpAny_specialOf hT hl ?_)
  have fin : wpAny (model prog w) A (subscripted slice false o i) (fun r s₃ => wpAny (model prog w) A (letTemporaryGo value o r >>= fun _ => pure r) Q E s₃) E s₂ := by
    rw [hs o i]
    exact wpAny_operating (wpAny_mono h₂ (fun r s₃ h₃ => wpAny_bind (wpAny_letTemporaryGo (wpAny_pure h₃))) fun _ _ x => x)
  first
    | exact wpAny_pure (wpAny_bind fin)
    | exact wpAny_bind (wpAny_pure (wpAny_bind fin))
    | exact wpAny_bind fin
theorem dict_typeIs {X : Cx} {pins : List (Addr × Obj)} {σ : St} {H : Hp} {s : Shared} {a : Addr} {y : V} {o : Option V} (I : Inv X pins σ H s) (g : DGet H a y o) : s.TypeIs (.ref a) "dict" := by
  rcases g with ⟨kvs, k, e, _, _⟩ | ⟨kvs, k, b, e, _, _, _⟩
  · obtain ⟨_, _, vs, _, dd⟩ := dk_rd I.hok e
    exact dd.typeIs
  · obtain ⟨_, _, xs, _, dd⟩ := dt_rd I.hok e
    exact dd.typeIs
noncomputable def tDGet (td ty : TE) : TE := fun σ H Q => td σ H fun x H1 => ty σ H1 fun y H2 => ∃ a v, x = .ref a ∧ DGet H2 a y (some v) ∧ Q v H2
noncomputable def sDPut (td ty tv : TE) : TS := fun D σ H => tv σ H fun v H1 => td σ H1 fun x H2 => ty σ H2 fun y H3 => ∃ a H4, x = .ref a ∧ DPut H3 a y v H4 ∧ D.nx σ H4
section
variable {X : Cx} {o i e value : Expr} {pos pos' tpos : Pos} {td ty tv : TE}
theorem pe_dget (hu : X.A.units + 1 < cLine) (ho : PE X o td) (hi : PE X i ty) (hs : NoSl i) : PE X (.Subscript o i pos) (tDGet td ty) := by
  intro pins s σ H Q I h
  refine subD_of PySem.F.slot_dict_getitem.lookup hs (thn (ho pins s σ H _ I h) fun u s1 ⟨x, H1, I1, rx, q1⟩ => thn (hi pins s1 σ H1 _ I1 q1) fun iv s2 hZq => ?_)
  obtain ⟨y, H2, I2, ry, a, v, ex, g, q2⟩ := hZq
  subst ex
  obtain rfl : u = Value.ref a := rx
  exact ⟨dict_typeIs I2 g, d_getItem hu I2 g ry fun w' s3 I3 rw' => ⟨v, H2, I3, rw', q2⟩⟩
theorem ps_dput (hu : X.A.units + 1 < cLine) (ho : PE X o td) (hi : PE X i ty) (hv : PE X value tv) (hs : swapsWith value (some (.Subscript o i pos')) pos.line X.env = pure false) :
    PS X (.Assign [.Subscript o i pos'] value pos) (sDPut td ty tv) := by
  intro pins s σ H D I h
  refine wpAny_Assign_Subscript (thn (hv pins s σ H _ I h) fun r s1 ⟨v, H1, I1, rv, q1⟩ => thn (ho pins s1 σ H1 _ I1 q1) fun u s2 ⟨x, H2, I2, rx, q2⟩ => thn (hi pins s2 σ H2 _ I2 q2) fun iv s3 hZq => ?_) hs
  obtain ⟨y, H3, I3, ry, a, H4, ex, g, q3⟩ := hZq
  subst ex
  obtain rfl : u = Value.ref a := rx
  exact d_setItem hu I3 g ry rv fun s4 I4 => ⟨σ, H4, I4, q3⟩
end
theorem dk_empty {P : Program} {w : World} {H : Hp} (h : Heap) (hb : sysModules < h.objs.size) : ObjOk P w H (h.push { cls := .type "dict", data := .dict #[] }) h.objs.size (.dK []) :=
  ⟨Nat.zero_le _, beq_eq_false_iff_ne.mpr (Ne.symm (Nat.ne_of_lt hb)), [], .nil, Heap.DictOf.new h⟩
noncomputable def tDNewK : TE := fun _ H Q => ∀ p, H p = none → Q (.ref p) (upd H p (.dK []))
section
variable {X : Cx} {pos : Pos}
theorem pe_dnewK : PE X (.Dict [] [] pos) tDNewK := fun pins s σ H Q I h =>
  wpAny_Dict_empty ⟨.ref s.heap.objs.size, _, I.laid (a := s.heap.objs.size) (o := .dK []) (t' := s.toks) (fun _ _ q => Heap.get?_push_of_some _ q) (Nat.le_refl _) (dk_empty s.heap I.big), rfl, h _ (I.hok.fresh (Nat.le_refl _))⟩
end
noncomputable def tPairs : List (TE × TE) → St → Hp → (List (V × V) → Hp → Prop) → Prop
  | [], _, H, Q => Q [] H
  | (tk, tv) :: r, σ, H, Q => tk σ H fun x H1 => tv σ H1 fun y H2 => tPairs r σ H2 fun ps H3 => Q ((x, y) :: ps) H3
noncomputable abbrev VV : List (V × V) → List (Value × Value) → Prop := Paired fun p q => RelV p.1 q.1 ∧ RelV p.2 q.2
noncomputable def PPs (X : Cx) (pos : Pos) (keys : List (Option Expr)) (values : List Expr) (trs : List (TE × TE)) : Prop :=
  ∀ (pins : List (Addr × Obj)) (s : Shared) (σ : St) (H : Hp) (Q : List (V × V) → Hp → Prop), Inv X pins σ H s → tPairs trs σ H Q →
    wpAny (model X.prog X.w) X.A (evalPairs (pairTrees keys values X.env pos)) (fun vs s' => ∃ ps H', Inv X pins σ H' s' ∧ VV ps vs ∧ Q ps H') X.xe s
theorem pps_nil {X : Cx} {pos : Pos} : PPs X pos [] [] [] := fun pins s σ H Q I h => pairTrees_nil_walk ⟨[], H, I, .nil, h⟩
theorem pps_cons {X : Cx} {pos : Pos} {k v : Expr} {ks : List (Option Expr)} {vs : List Expr} {tk tv : TE} {trs : List (TE × TE)} (hk : PE X k tk) (hv : PE X v tv) (hr : PPs X pos ks vs trs) :
    PPs X pos (some k :: ks) (v :: vs) ((tk, tv) :: trs) := fun pins s σ H Q I h =>
  pairTrees_cons_walk (thn (hk pins s σ H _ I h) fun u s1 ⟨x, H1, I1, rx, q1⟩ => thn (hv pins s1 σ H1 _ I1 q1) fun w2 s2 ⟨y, H2, I2, ry, q2⟩ =>
    thn (hr pins s2 σ H2 _ I2 q2) fun ws s3 ⟨ps, H3, I3, rel, q3⟩ => ⟨(x, y) :: ps, H3, I3, .cons ⟨rx, ry⟩ rel, q3⟩)
noncomputable def mergeK (kvs more : List (Key × V)) : List (Key × V) := more.foldl (fun acc kv => putK acc kv.1 kv.2) kvs
theorem KV.merge : ∀ {more : List (Key × V)} {rs : List (Key × Value)} {kvs : List (Key × V)} {vs : List (Key × Value)}, KV more rs → KV kvs vs → KV (mergeK kvs more) (merged vs rs) := by
  intro more rs kvs vs r
  unfold KV at r
  induction r generalizing kvs vs with
  | nil => intro q; exact q
  | @cons p q ps qs h t ih =>
    intro r0
    have e : KV (putK kvs p.1 p.2) (stored vs q.1 q.2) := by
      have := r0.put p.1 h.2
      rw [← h.1]; exact this
    exact ih e
theorem length_mergeK : ∀ (more kvs : List (Key × V)), (mergeK kvs more).length ≤ kvs.length + more.length
  | [], kvs => by show kvs.length ≤ kvs.length + 0; omega
  | p :: r, kvs => by
    have h1 := length_mergeK r (putK kvs p.1 p.2)
    have h2 := length_putK kvs p.1 p.2
    show (mergeK (putK kvs p.1 p.2) r).length ≤ _
    rw [List.length_cons]; omega
theorem carries_of {P : Program} {w : World} : ∀ {kvs : List (Key × V)} {ws : List (Value × Value)}, VV (kvs.map fun kv => (kV kv.1, kv.2)) ws → ∃ rs, Carries (mixKind P w) ws rs ∧ KV kvs rs
  | [], _, r => by rw [List.map_nil] at r; cases r; exact ⟨[], True.intro, .nil⟩
  | p :: kvs, _, r => by
    rw [List.map_cons] at r
    cases r with
    | @cons a b as bs h t =>
      obtain ⟨rs, c, q⟩ := carries_of (P := P) (w := w) t
      obtain ⟨b1, b2⟩ := b
      exact ⟨(p.1, b2) :: rs, ⟨kV_is h.1, rfl, c⟩, .cons ⟨rfl, h.2⟩ q⟩
noncomputable def tDisp (trs : List (TE × TE)) : TE := fun σ H Q => ∀ p, H p = none → tPairs trs σ (upd H p (.dK [])) fun ps H2 => H2 p = some (.dK []) ∧ ∃ kvs : List (Key × V), ps = kvs.map (fun kv => (kV kv.1, kv.2)) ∧ kvs.length ≤ 15 ∧ Q (.ref p) (upd H2 p (.dK (mergeK [] kvs)))
theorem pe_disp {X : Cx} {pos : Pos} {keys : List (Option Expr)} {values : List Expr} {trs : List (TE × TE)} (h : PPs X pos keys values trs) (hall : keys.all (·.isSome) = true) (hl : keys.length = values.length) (h0 : keys ≠ [])
    (h15 : keys.length ≤ 15) : PE X (.Dict keys values pos) (tDisp trs) := by
  intro pins s σ H Q I q
  have hn := I.hok.fresh (Nat.le_refl s.heap.objs.size)
  have I1 := I.laid (a := s.heap.objs.size) (o := .dK []) (h' := s.heap.push { cls := .type "dict", data := .dict #[] }) (t' := s.toks) (fun _ _ q => Heap.get?_push_of_some _ q) (Nat.le_refl _) (dk_empty s.heap I.big)
  refine wpAny_Dict_walk (knd := mixKind X.prog X.w) hall hl h0 h15 (thn (h pins _ σ _ _ I1 (q _ hn)) fun ws s2 hZq => ?_)
  obtain ⟨ps, H2, I2, rel, e, kvs, ep, lk, q2⟩ := hZq
  subst ep
  obtain ⟨rs, c, rk⟩ := carries_of (P := X.prog) (w := X.w) rel
  obtain ⟨z, hd, vs0, r0, dd⟩ := dk_of I2.hok e
  cases r0
  refine ⟨rs, c, dd, fun h' dd' hs => ⟨.ref s.heap.objs.size, _, ?_, rfl, q2⟩⟩
  have hz : (mergeK [] kvs).length ≤ sizeLine := by
    have h1 := length_mergeK kvs []
    rw [List.length_nil] at h1
    rw [sizeLine_eq]; (clear hd z e hn h15 h0 hl hall; omega)
  have he : ∃ q, h'.get? s.heap.objs.size = some q := let ⟨q, _, _, hq, _⟩ := dd'; ⟨q, hq⟩
  exact d_write I2 (by rw [e]; exact True.intro) hs he (dk_new hz hd (rk.merge .nil) dd')
noncomputable def IsD (H : Hp) (a : Addr) : Prop := (∃ kvs, Rd H a (.dK kvs)) ∨ ∃ kvs, Rd H a (.dT kvs)
theorem isD_at {X : Cx} {pins : List (Addr × Obj)} {σ : St} {H : Hp} {s : Shared} {a : Addr} (I : Inv X pins σ H s) (d : IsD H a) :
    s.TypeIs (.ref a) "dict" ∧ (∀ b, Value.ref a = .ref b → ∃ ob, s.heap.get? b = some ob ∧ ob.dict = none) ∧ (a == sysModules) = false := by
  rcases d with ⟨kvs, e⟩ | ⟨kvs, e⟩
  · obtain ⟨_, hd, vs, _, dd⟩ := dk_rd I.hok e
    refine ⟨dd.typeIs, fun b q => ?_, hd⟩
    cases q
    obtain ⟨ob, _, _, h1, h2, _⟩ := dd
    exact ⟨ob, h1, h2.2.1⟩
  · obtain ⟨_, hd, xs, _, dd⟩ := dt_rd I.hok e
    refine ⟨dd.typeIs, fun b q => ?_, hd⟩
    cases q
    obtain ⟨ob, _, _, h1, h2, _⟩ := dd
    exact ⟨ob, h1, h2.2.1⟩
section
variable {X : Cx} {pins : List (Addr × Obj)} {σ : St} {H : Hp} {s : Shared} {a : Addr} {y d : V} {u r : Value} {o : Option V} {A : Around} {E : Value → Shared → Prop}
end
section
variable {X : Cx} {o e f : Expr} {apos cpos : Pos} {td ty tx : TE}
end
section
variable {X : Cx} {pins : List (Addr × Obj)} {σ : St} {H : Hp} {s : Shared} {a : Addr} {kvs : List (Key × V)} {A : Around} {E : Value → Shared → Prop}
end
section
variable {X : Cx} {pins : List (Addr × Obj)} {σ : St} {H : Hp} {s : Shared} {a : Addr} {y : V} {u : Value} {A : Around} {E : Value → Shared → Prop}
end
end L2
namespace Att
open PySem PySem.W PySem.Calls PyProof.Rows
theorem ints_of_wellAll {P : Params} {h : Heap} : ∀ (ns : List Int) (vs : List Value), WellAll P h vs (ns.map WData.int) → IntsAre vs ns := by
  intro ns
  induction ns with
  | nil =>
    intro vs w
    rw [List.map_nil] at w
    cases w
    exact .nil
  | cons n ns ih =>
    intro vs w
    rw [List.map_cons] at w
    cases w with
    | cons a b =>
      cases a
      exact .cons _ _ (ih _ b)
theorem script_of {l : OpenLaw} {n : Nat} (hn : l.most = some n) {P : Params} {h : Heap} {args : List WData} {vals : List Value}
    (hpre : l.row.toRowW.claim.pre args = true) (hwl : WellAll P h vals args) :
    ∃ a vs ns, vals = [Value.ref a] ∧ args = [WData.list (ns.map WData.int)] ∧ h.get? a = some { cls := .type "list", data := .seq vs.toArray } ∧ IntsAre vs ns ∧ ns.length ≤ n := by
  have hsh : WShape.hasAll [] args [.list .int] = true := (pre_splitW hpre).1
  have hc : l.pre.holds [] { args := args } = true := (pre_splitW hpre).2
  obtain ⟨d, r, rfl, h1, h2⟩ := hasAllW_cons hsh
  obtain rfl := hasAllW_nil h2
  obtain ⟨xs, rfl, h3⟩ := hasW_list h1
  obtain ⟨ns, rfl⟩ := items_int h3
  have hlen : ns.length ≤ n := by
    unfold OpenLaw.pre at hc
    have h4 : (WTm.not (.lt (.lit (.int (n : Int))) (.len (.arg 0)))).holds [] { args := [.list (ns.map .int)] } = true := by
      have h4 := (holds_andW hc).1
      rw [hn] at h4
      exact h4
    have h5 := condW_of h4 (w_not (w_lt w_lit (w_len_list (w_arg rfl))))
    rw [List.length_map] at h5
    refine Nat.le_of_not_lt fun q => ?_
    have q' : (n : Int) < ((ns.length : Nat) : Int) := by first | assumption | decide | (clear h5 h4 hc hsh hpre h1 h3 h2 hn; omega)
    first
      | (rw [decide_eq_true q'] at h5; exact absurd h5 (by decide))
      | (simp at h5; omega)
  cases hwl with
  | cons w1 w2 =>
    cases w2
    cases w1 with
    | list ho hall => exact ⟨_, _, ns, rfl, rfl, ho, ints_of_wellAll ns _ hall, hlen⟩
theorem post_true (l : OpenLaw) (args : List WData) : l.row.toRowW.claim.post args (.bool true) args = true :=
  postW_of (r := l.row.toRowW) (X := (true == true))
    (show WShape.has [] (.bool true) .bool = true by first | rfl | decide | simp [WShape.has, WShape.arms, WShape.armsAll])
    (show (WTm.eq .res (.lit (.bool true))).value [] { args := args, res := some (.bool true), after := args } = some (.bool (true == true)) from w_eq_bool (w_res rfl) w_lit) rfl
theorem attach_call {l : OpenLaw} {n : Nat} {q : Program} {loose : List Str} {XP : (Str → Option Value) → Heap → Prop} {YP : World → Heap → Prop} {d : DefRec}
    (hn : l.most = some n) (hdf : d.params.defaults = [])
    (call : ∀ (w : World) (s₀ s₁ : Shared) (mg mb : Str → Option Value) (fa : Addr) (o : Obj) (pm cd doc : Value) (a : Addr) (vs : List Value) (ns : List Int),
      Ground q loose [] XP w s₀ mg mb s₁.heap → YP w s₁.heap →
      s₁.heap.get? fa = some o → o.data = .func (docDef d.name d.params d.body d.scope pm cd doc) → s₁.heap.CodeRec cd d.name → mg d.name = some (.ref fa) →
      s₁.heap.get? a = some { cls := .type "list", data := .seq vs.toArray } → IntsAre vs ns → ns.length ≤ n → s₁.gens = #[] →
      codeAny (model l.prog w) callerA (.call (.ref fa) ⟨[.ref a], []⟩) (fun r s' => r = .ok (.ret (.bool true)) ∧ OldK s₁.heap s'.heap ∧ s'.os = s₁.os ∧ AllBare s'.gens) s₁) :
    WalkO q loose XP YP l.row.toRowW d [] (fun f vs => PySem.call f vs) := by
  intro w s₀ s₁ mg mb G Y fa o pm cd doc dV kV ho hd hcd hD hmg hg args vals as hpre hlay hrd hwl hlo
  obtain rfl : dV = .none := Dflts.none hD hdf
  obtain rfl : kV = .none := Dflts.noKw hD
  obtain ⟨a, vs, ns, rfl, rfl, hobj, hints, hlen⟩ := script_of hn hpre hwl
  refine enter_call (codeAny_mono (call w s₀ s₁ mg mb fa o pm cd doc a vs ns G Y ho (fd_plain hd) hcd hmg hobj hints hlen hg) fun r s' hq => ?_)
  obtain ⟨rfl, h2, h3, h4⟩ := hq
  exact ⟨.inl ⟨.bool true, .bool true, [], rfl, fun _ => rfl, .bool true, post_true l _, fun _ => ⟨List.Pairwise.nil, fun _ hm => (nomatch hm)⟩⟩, h2, h3, h4⟩
section
variable {prog : Program} {w : World} {A : Around} {E : Value → Shared → Prop} {s : Shared} {K : Frag}
end
end Att
namespace L2
open PySem PySem.Spec PyProof.Rows
theorem vals_ints : ∀ {vs : List Value} {ns : List Int}, IntsAre vs ns → Vals (ns.map V.int) vs
  | _, _, .nil => .nil
  | _, _, .cons n t h => .cons ⟨t, rfl⟩ (vals_ints h)
noncomputable def Only (H : Hp) : Prop := ∀ b, H b = none ∨ ∃ o xs, H b = some (.frz o (.lst xs))
theorem law_call {P : Program} {w : World} {K : PySem.W.Frag} {mg mb : Str → Option Value} {CX : CXT} {k : Nat} {fa a : Addr} {fd : FuncData} {x : Str} {sp : Sp} {s₁ : Shared} {vs : List Value} {ns : List Int}
    (KX : K.In s₁.heap) (hns : s₁.heap.Ns mainGlobals mg) (hb : s₁.heap.Ns builtinsNs mb) (hbb : ∀ x : Str, x ≠ "__name__" → mb x = bootBuiltins x) (hlim : s₁.heap.NoLimit) (hg : s₁.gens = #[])
    (ha : s₁.heap.get? a = some { cls := .type "list", data := .seq vs.toArray }) (hi : IntsAre vs ns) (hl : ns.length ≤ sizeLine) (hr : Room k callerA)
    (F : ∀ base : Heap, K.In base → base.Ns mainGlobals mg → FnOk P w K mg base CX k fa fd [x] sp) (hbind : ∀ (s : Shared) (u : Value), BindsTo s fd ⟨[u], []⟩ [(x, u)])
    (hsp : ∀ H : Hp, Only H → SqL K H a (ns.map V.int) → sp [.ref a] H (fun v _ => v = .bl true) fun _ _ _ => False)
    (hCX : ∀ H e s', CX [] H s₁ (fun _ _ _ => False) e s' → False) :
    codeAny (model P w) callerA (.call (.ref fa) ⟨[.ref a], []⟩) (fun r s' => r = .ok (.ret (.bool true)) ∧ OldK s₁.heap s'.heap ∧ s'.os = s₁.os ∧ AllBare s'.gens) s₁ := by
  have rv := vals_ints hi
  have lenV := hi.length
  have core : ∀ H : Hp, Only H → SqL K H a (ns.map V.int) → HOk P w H s₁.heap → (∀ b, H b ≠ none → b = a) → (H a ≠ none → K.lookup a = none) →
      codeAny (model P w) callerA (.call (.ref fa) ⟨[.ref a], []⟩) (fun r s' => r = .ok (.ret (.bool true)) ∧ OldK s₁.heap s'.heap ∧ s'.os = s₁.os ∧ AllBare s'.gens) s₁ := by
    intro H hO hS hok hA hK
    have base_of : ∀ {b : Addr} {o : Obj}, s₁.heap.get? b = some o → H b = none → (hidT s₁.heap H).get? b = some o := fun e n => hidT_get e n
    have noA : ∀ {b : Addr} {o : Obj} {es : Array DictEntry} {ep : Nat}, s₁.heap.get? b = some o → o.data = .dict es ep → H b = none := fun {b o es ep} e d => by
      cases q : H b with
      | none => rfl
      | some u =>
        have e' : b = a := hA b (by rw [q]; simp)
        subst e'
        rw [ha] at e; cases e
        have d' : Data.seq vs.toArray _ = Data.dict es ep := d
        cases d'
    have nsK : ∀ {b : Addr} {m : Str → Option Value}, s₁.heap.Ns b m → (hidT s₁.heap H).Ns b m := fun {b m} ⟨o, es, ep, e, d, r⟩ => ⟨o, es, ep, base_of e (noA e d), d, r⟩
    have hKb : K.In (hidT s₁.heap H) := fun b o e => base_of (KX b o e) (by
      cases q : H b with
      | none => rfl
      | some u =>
        have e' : b = a := hA b (by rw [q]; simp)
        subst e'
        rw [hK (by rw [q]; simp)] at e; cases e)
    have hM : Mod K mg (hidT s₁.heap H) := ⟨hKb, nsK hns, ⟨mb, nsK hb, hbb⟩, let ⟨mc, h1, h2⟩ := hlim; ⟨mc, nsK h1, h2⟩⟩
    have e0 : Env0 P w K mg (hidT s₁.heap H) callerA [] s₁ H := ⟨rfl, hM, fun b o e => of_hidT e, Nat.le_of_eq (hidT_size _ _), trivial, fun b hb => absurd (show b ∈ ([] : List Addr) from hb) (by simp), hok, .of_eq hg⟩
    refine codeAny_mono ((F _ hKb (nsK hns)).run callerA [] s₁ H ⟨[.ref a], []⟩ [.ref a] [.ref a] _ _ hr e0 (hbind s₁ (.ref a)) (.cons rfl .nil) (hsp H hO hS)) fun r s' h => ?_
    cases r with
    | error e => exact (hCX H e s' h).elim
    | ok fl =>
      cases fl with
      | next => exact False.elim h
      | brk => exact False.elim h
      | cont => exact False.elim h
      | ret u =>
        obtain ⟨v, H', os, bare, un, hok', r', q⟩ := h
        have q' : v = .bl true := q
        subst q'
        obtain rfl : u = Value.bool true := r'
        refine ⟨rfl, OldK.of_keep fun b o e => ?_, os, bare⟩
        cases q : H b with
        | none => exact un.keep b o e q (by intro z; exact absurd (show b ∈ ([] : List Addr) from z) (by simp)) (by simp)
        | some u =>
          rcases hO b with z | ⟨ob, xs, z⟩
          · rw [q] at z; cases z
          · have z2 := un.frzs b ob _ z
            obtain ⟨e1, _⟩ := hok b _ z
            obtain ⟨e2, _⟩ := hok' b _ z2
            rw [e] at e1; cases e1
            exact e2
  cases hk : K.lookup a with
  | some o =>
    have e := KX a o hk
    rw [ha] at e
    cases e
    refine core (fun _ => none) (fun _ => .inl rfl) (.inr ⟨_, vs.toArray, _, hk, rfl, rfl, rfl, by rw [List.size_toArray, lenV]; exact hl, by simpa using rv⟩) (fun b u z => by have z' : (none : Option HO) = some u := z; cases z') (fun b z => absurd rfl z) fun z => absurd rfl z
  | none =>
    refine core (fun b => if b = a then some (.frz { cls := .type "list", data := .seq vs.toArray } (.lst (ns.map V.int))) else none) (fun b => ?_) (.inl (.inr ⟨{ cls := .type "list", data := .seq vs.toArray }, if_pos rfl⟩)) (fun b u z => ?_) (fun b z => ?_) fun _ => hk
    · by_cases hb : b = a
      · exact .inr ⟨_, _, if_pos hb⟩
      · exact .inl (if_neg hb)
    · by_cases hb : b = a
      · have z' := (if_pos hb).symm.trans z
        cases z'
        subst hb
        exact ⟨ha, by rw [List.length_map]; exact hl, vs, _, rv, ha⟩
      · have z' := (if_neg hb).symm.trans z
        cases z'
    · by_cases hb : b = a
      · exact hb
      · exact absurd (if_neg hb) z
end L2
namespace L2
open PySem PySem.Spec PyProof.Rows
noncomputable abbrev KOf {K : PySem.W.Frag} {h : Heap} (_ : K.In h) : PySem.W.Frag := K
theorem walk_of {l : PySem.W.OpenLaw} {n k : Nat} {q : Program} {loose : List Str} {XP : (Str → Option Value) → Heap → Prop} {YP : World → Heap → Prop} {d : DefRec} {K : Params → PySem.W.Frag} {CX : World → CXT} {sp : World → Sp} {x : Str}
    (hn : l.most = some n) (hn2 : n ≤ sizeLine) (hdf : d.params.defaults = []) (hr : Room k callerA)
    (hY : ∀ (w : World) (h : Heap), YP w h → (K w.params).In h)
    (F : ∀ (w : World) (mg : Str → Option Value) (fa : Addr) (h : Heap), (K w.params).In h → h.Ns mainGlobals mg → mg d.name = some (.ref fa) →
      ∃ fd : FuncData, (∀ (s : Shared) (u : Value), BindsTo s fd ⟨[u], []⟩ [(x, u)]) ∧
        ∀ base : Heap, (K w.params).In base → base.Ns mainGlobals mg → FnOk l.prog w (K w.params) mg base (CX w) k fa fd [x] (sp w))
    (hsp : ∀ (w : World) (H : Hp) (a : Addr) (ns : List Int), ns.length ≤ n → Only H → SqL (K w.params) H a (ns.map V.int) → sp w [.ref a] H (fun v _ => v = .bl true) fun _ _ _ => False)
    (hCX : ∀ (w : World) (H : Hp) (s : Shared) (e : Value) (s' : Shared), CX w [] H s (fun _ _ _ => False) e s' → False) :
    PySem.W.WalkO q loose XP YP l.row.toRowW d [] (fun f vs => PySem.call f vs) := by
  refine Att.attach_call hn hdf fun w s₀ s₁ mg mb fa o pm cd doc a vs ns G Y ho hd hcd hmg hobj hints hlen hg => ?_
  have KX := hY w _ Y
  obtain ⟨fd, hb, hF⟩ := F w mg fa _ KX G.T.g hmg
  exact law_call KX G.T.g G.T.b G.T.builtins G.T.nolimit hg hobj hints (Nat.le_trans hlen hn2) hr hF hb (fun H hO hS => hsp w H a ns hlen hO hS) fun H e s' => hCX w H s₁ e s'
theorem walk_ofK {l : PySem.W.OpenLaw} {n k : Nat} {q : Program} {loose : List Str} {XP : (Str → Option Value) → Heap → Prop} {YP : World → Heap → Prop} {d : DefRec} {K : Params → PySem.W.Frag} {CX : CXT} {sp : PySem.W.Frag → Sp} {x : Str}
    (hn : l.most = some n) (hn2 : n ≤ sizeLine) (hdf : d.params.defaults = []) (hr : Room k callerA)
    (hY : ∀ (w : World) (h : Heap), YP w h → (K w.params).In h)
    (F : ∀ (w : World) (mg : Str → Option Value) (fa : Addr) (h : Heap), (K w.params).In h → h.Ns mainGlobals mg → mg d.name = some (.ref fa) →
      ∃ fd : FuncData, (∀ (s : Shared) (u : Value), BindsTo s fd ⟨[u], []⟩ [(x, u)]) ∧
        ∀ base : Heap, (K w.params).In base → base.Ns mainGlobals mg → FnOk l.prog w (K w.params) mg base CX k fa fd [x] (sp (K w.params)))
    (hsp : ∀ (K : PySem.W.Frag) (H : Hp) (a : Addr) (ns : List Int), ns.length ≤ n → Only H → SqL K H a (ns.map V.int) → sp K [.ref a] H (fun v _ => v = .bl true) fun _ _ _ => False)
    (hCX : ∀ (H : Hp) (s : Shared) (e : Value) (s' : Shared), CX [] H s (fun _ _ _ => False) e s' → False) :
    PySem.W.WalkO q loose XP YP l.row.toRowW d [] (fun f vs => PySem.call f vs) :=
  walk_of (K := K) (CX := fun _ => CX) (sp := fun w => sp (K w.params)) hn hn2 hdf hr hY F (fun w H a ns h1 h2 h3 => hsp (K w.params) H a ns h1 h2 h3) fun _ H s e s' => hCX H s e s'
end L2
namespace L2
open PySem PySem.Spec PyProof.Rows
noncomputable def defArgs (s : Stmt) : Arguments := match s with
  | .FunctionDef _ a _ _ _ _ _ _ _ _ => a
  | _ => { posonlyargs := [], args := [], vararg := none, kwonlyargs := [], kw_defaults := [], kwarg := none, defaults := [] }
noncomputable def defBody (s : Stmt) : List Stmt := match s with
  | .FunctionDef _ _ b _ _ _ _ _ _ _ => b
  | _ => []
noncomputable def defScope (s : Stmt) : Scope := match s with
  | .FunctionDef _ _ _ _ _ _ sc _ _ _ => sc
  | _ => { kind := .function, names := [], isGenerator := false, isCoroutine := false }
noncomputable abbrev CX0 : CXT := fun _ _ _ _ _ _ => False
noncomputable abbrev E0 : XK := fun _ _ _ => False
theorem pass0 {X : Cx} : Passes CX0 X E0 := fun _ _ _ _ _ _ _ h => h.elim
structure Fun (K : PySem.W.Frag) (x qual : Str) (st : Stmt) (f : Addr) (fd : FuncData) : Prop where
  ex : ∃ (oc : Value) (od : Option Addr) (kV doc pm : Value) (an : Option Addr) (cdv ct : Value) (osl : Array (Option Value)),
    fd = PySem.W.fnOf x qual (defArgs st) (defBody st) (defScope st) .none kV doc pm an cdv ct ∧ K.lookup f = some ⟨oc, od, .func fd, osl⟩ ∧ PySem.W.codeIn K cdv qual = true
  kp : PySem.W.keepIn K (.ref f) = true
section
variable {P : Program} {w : World} {K : PySem.W.Frag} {mg : Str → Option Value} {base : Heap}
theorem Fun.ok {x qual : Str} {st : Stmt} {f : Addr} {fd : FuncData} {N ps : List Str} {k : Nat} {sp : Sp} (F : Fun K x qual st f fd) (S : FnScope N ps (defScope st)) (len : ∀ vs H Q E, sp vs H Q E → vs.length = ps.length)
    (hbody : ∀ (cdv : Value) (A : Around) (outer : List Env) (s : Shared) (H : Hp) (vs : List V) (Q : VK) (E : XK), Room k (A.deeper (envOfC qual (defScope st) s.heap.objs.size f cdv)) → sp vs H Q E →
      ∃ t, PSs (cxOf CX0 P w K mg base N qual (defScope st) f cdv A outer s H E).nox (defBody st) t ∧ t { nx := fun _ H' => Q .non H', rt := Q } (start N vs) H) : FnOk P w K mg base CX0 (k + 1) f fd ps sp := by
  obtain ⟨oc, od, kV, doc, pm, an, cdv, ct, osl, rfl, lk, hcd⟩ := F.ex
  refine fn_of lk hcd S len fun A outer s H vs Q E hr hsp => ?_
  obtain ⟨t, h, q⟩ := hbody cdv A outer s H vs Q E hr hsp
  exact ⟨t, h.nox, q⟩
theorem fun_mk {x qual : Str} {st : Stmt} {f : Addr} {oc : Value} {od an : Option Addr} {osl : Array (Option Value)} {kV doc pm cdv ct : Value} (l : K.lookup f = some ⟨oc, od, .func (PySem.W.fnOf x qual (defArgs st) (defBody st) (defScope st) .none kV doc pm an cdv ct), osl⟩)
    (c : PySem.W.codeIn K cdv qual = true) (k : PySem.W.keepIn K (.ref f) = true) : Fun K x qual st f (PySem.W.fnOf x qual (defArgs st) (defBody st) (defScope st) .none kV doc pm an cdv ct) := ⟨⟨oc, od, kV, doc, pm, an, cdv, ct, osl, rfl, l, c⟩, k⟩
end
theorem hu_of {A : Around} {k : Nat} (hr : Room k A) : A.units + 1 < cLine := Nat.lt_of_le_of_lt (Nat.add_le_add_left (by decide : 1 ≤ 64) _) hr.units
theorem small1000 {n : Nat} (h : n ≤ 1000) : n < sizeLine := Nat.lt_of_le_of_lt h (by decide)
section
variable {X : Cx}
theorem pv (i : Nat) {x : Str} {pos : Pos} (hN : X.N[i]? = some x := by rfl) (hv : Vis X.env.scope x := by first | exact Or.inl rfl | exact Or.inr (Or.inl rfl) | exact Or.inr (Or.inr rfl)) (hd : (x == ("__debug__" : Str)) = false := by decide)
    (hcd : (x == ("__classdict__" : Str)) = false := by decide) : PE X (.Name x pos) (tVar i) := pe_var hN hv hd hcd
end
theorem ite2 {c A B : Prop} [Decidable c] (h1 : c → A) (h2 : ¬ c → B) : if c then A else B := by
  by_cases h : c
  · rw [if_pos h]
    exact h1 h
  · rw [if_neg h]
    exact h2 h
noncomputable def Same (H H' : Hp) : Prop := ∀ b o, H b = some o → H' b = some o
theorem Same.refl (H : Hp) : Same H H := fun _ _ h => h
theorem Same.trans {H H1 H2 : Hp} (a : Same H H1) (b : Same H1 H2) : Same H H2 := fun c o h => b c o (a c o h)
theorem Same.free {H H' : Hp} (e : Same H H') {l : Addr} (h : H' l = Option.none) : H l = Option.none := by
  cases q : H l with
  | none => rfl
  | some o =>
    rw [e l o q] at h
    cases h
theorem Same.seq {K : PySem.W.Frag} {H H' : Hp} {a : Addr} {xs : List V} (e : Same H H') (h : SqL K H a xs) : SqL K H' a xs := by
  rcases h with (h | ⟨o, h⟩) | h
  · exact .inl (.inl (e _ _ h))
  · exact .inl (.inr ⟨o, e _ _ h⟩)
  · exact .inr h
section
variable {κ : Type} [DecidableEq κ]
end
end L2
set_option Elab.async false
set_option linter.all false
set_option maxRecDepth 100000
namespace L2
open PySem PySem.Spec PyProof.Rows
noncomputable def closIn (cells : List (Str × Addr)) : List (Str × NameKind) → List (Str × Addr) → List (Str × Addr)
  | [], cs => cs
  | (n, k) :: r, cs => closIn cells r (if k == .free then (match cells.lookup n with | some c => (n, c) :: cs | none => cs) else cs)
noncomputable def closOf (scope : Scope) (env : Env) : List (Str × Addr) := closIn env.cells scope.names []
theorem closIn_run (env : Env) : ∀ (names : List (Str × NameKind)) (cs : List (Str × Addr)), (∀ x ∈ names, x.2 = .free → ∃ c, env.cells.lookup x.1 = some c) →
    (forIn names cs fun (x : Str × NameKind) (r : List (Str × Addr)) => (if (x.2 == .free) = true then (do let a ← cellOf env x.1; pure (ForInStep.yield ((x.1, a) :: r))) else pure (ForInStep.yield r) : Sem (ForInStep (List (Str × Addr))))) = pure (closIn env.cells names cs) := by
  intro names
  induction names with
  | nil => intro cs _; rfl
  | cons x r ih =>
    intro cs h
    obtain ⟨n, k⟩ := x
    rw [List.forIn_cons]
    have hr : ∀ y ∈ r, y.2 = .free → ∃ c, env.cells.lookup y.1 = some c := fun y hy => h y (List.mem_cons_of_mem _ hy)
    unfold closIn
    by_cases hk : k = .free
    · subst hk
      obtain ⟨c, hc⟩ := h (n, .free) List.mem_cons_self rfl
      have e : cellOf env n = pure c := by unfold cellOf; rw [hc]
      rw [if_pos (show (NameKind.free == NameKind.free) = true from rfl), if_pos (show (NameKind.free == NameKind.free) = true from rfl), hc]
      show (cellOf env n >>= fun a => _) >>= _ = _
      rw [e]
      exact ih _ hr
    · have hb : (k == NameKind.free) = false := by simpa using hk
      rw [if_neg (show ¬ (k == NameKind.free) = true by rw [hb]; exact Bool.false_ne_true), if_neg (show ¬ (k == NameKind.free) = true by rw [hb]; exact Bool.false_ne_true)]
      exact ih _ hr
theorem closureFor_of {scope : Scope} {env : Env} (h : ∀ x ∈ scope.names, x.2 = .free → ∃ c, env.cells.lookup x.1 = some c) : closureFor scope env = pure (closOf scope env) := by
  have run := closIn_run env scope.names [] h
  unfold closureFor closOf
  have e : (forIn scope.names ([] : List (Str × Addr)) fun (x : Str × NameKind) (r : List (Str × Addr)) => (match x with
      | (name, kind) => if (kind == NameKind.free) = true then (do let a ← cellOf env name; pure (ForInStep.yield ((name, a) :: r))) else pure (ForInStep.yield r) : Sem (ForInStep (List (Str × Addr))))) = pure (closIn env.cells scope.names []) := run
  show (forIn scope.names ([] : List (Str × Addr)) _ >>= fun cs => pure cs) = _
  exact (congrArg (fun m : Sem (List (Str × Addr)) => m >>= fun cs => pure cs) e)
theorem closIn_old (cells : List (Str × Addr)) : ∀ (names : List (Str × NameKind)) (cs : List (Str × Addr)), (∀ p ∈ cs, cells.lookup p.1 = some p.2) → ∀ p ∈ closIn cells names cs, cells.lookup p.1 = some p.2
  | [], cs, h => h
  | (n, k) :: r, cs, h => by
    unfold closIn
    refine closIn_old cells r _ fun p hp => ?_
    by_cases hk : (k == NameKind.free) = true
    · rw [if_pos hk] at hp
      cases e : cells.lookup n with
      | none => rw [e] at hp; exact h p hp
      | some c =>
        rw [e] at hp
        rcases List.mem_cons.mp hp with rfl | hp
        · exact e
        · exact h p hp
    · rw [if_neg hk] at hp
      exact h p hp
theorem closOf_old {scope : Scope} {env : Env} {x : Str} {c : Addr} (h : (closOf scope env).lookup x = some c) : env.cells.lookup x = some c :=
  closIn_old env.cells scope.names [] (fun _ z => nomatch z) (x, c) (PySem.mem_of_lookup h)
theorem lookup_isSome_of_mem {cs : List (Str × Addr)} {x : Str} {c : Addr} (h : (x, c) ∈ cs) : ∃ d, cs.lookup x = some d := by
  induction cs with
  | nil => cases h
  | cons p r ih =>
    obtain ⟨y, d⟩ := p
    by_cases e : x == y
    · exact ⟨d, by rw [List.lookup_cons, e]⟩
    · rcases List.mem_cons.mp h with z | z
      · cases z; simp at e
      · obtain ⟨d', q⟩ := ih z
        exact ⟨d', by simp only [Bool.not_eq_true] at e; rw [List.lookup_cons, e]; exact q⟩
theorem closIn_mono (cells : List (Str × Addr)) : ∀ (names : List (Str × NameKind)) (cs : List (Str × Addr)) (p : Str × Addr), p ∈ cs → p ∈ closIn cells names cs
  | [], _, _, h => h
  | (n, k) :: r, cs, p, h => by
    unfold closIn
    refine closIn_mono cells r _ p ?_
    split
    · split
      · exact List.mem_cons_of_mem _ h
      · exact h
    · exact h
theorem closIn_new (cells : List (Str × Addr)) {x : Str} {c : Addr} (hc : cells.lookup x = some c) : ∀ (names : List (Str × NameKind)) (cs : List (Str × Addr)), (x, NameKind.free) ∈ names → (x, c) ∈ closIn cells names cs
  | [], _, h => nomatch h
  | (n, k) :: r, cs, h => by
    unfold closIn
    rcases List.mem_cons.mp h with z | z
    · cases z
      refine closIn_mono cells r _ _ ?_
      rw [if_pos (show (NameKind.free == NameKind.free) = true from rfl), hc]
      exact List.mem_cons_self
    · exact closIn_new cells hc r _ z
theorem closOf_new {scope : Scope} {env : Env} {x : Str} {c : Addr} (h : (x, NameKind.free) ∈ scope.names) (hc : env.cells.lookup x = some c) : (closOf scope env).lookup x = some c := by
  obtain ⟨d, e⟩ := lookup_isSome_of_mem (closIn_new env.cells hc scope.names [] h)
  have e' : (closOf scope env).lookup x = some d := e
  rw [e', ← closOf_old e', hc]
noncomputable def blk (X : Cx) (scope : Scope) (N : List Str) (s : Shared) (H : Hp) (C : Addr) (fp : List Addr) : Cx where
  prog := X.prog
  w := X.w
  K := X.K
  mg := X.mg
  base := X.base
  A := X.A
  N := N
  s₀ := s
  H₀ := H
  env := compEnvC scope (closOf scope X.env) C X.env
  outer := X.stack
  stack := X.stack
  ex := fp
  fn := fun _ => false
  calm := X.calm
  pn := []
  xe := fun _ _ => False
noncomputable def capt (σ : St) (js : List Nat) : St := js.map fun j => (σ[j]?).getD none
noncomputable def capN (N : List Str) (js : List Nat) : List Str := js.map fun j => (N[j]?).getD ""
noncomputable def bst (n : Nat) (σ : St) (js : List Nat) : St := List.replicate n none ++ capt σ js
theorem bst_len {n : Nat} {σ : St} {js : List Nat} : (bst n σ js).length = n + js.length := by unfold bst capt; simp
end L2
set_option Elab.async false
set_option linter.all false
set_option maxRecDepth 100000
namespace L2
open PySem PySem.Spec PyProof.Rows
section
variable {P : Program} {w : World} {A : Around} {R : Result → Shared → Prop} {s : Shared}
theorem compLoop_by {elt tg iter : Expr} {ifs : List Expr} {scope : Scope} {pos : Pos} {it acc : Value} {env : Env} (J : Nat → Shared → Prop)
    (turn : ∀ n s, J n s → wpAny (model P w) A (pyNext it) (fun r s1 => match r with
      | none => R (.ok .next) s1
      | some v => wpAny (model P w) A (letOwnedTupleGo tg it v) (fun _ s2 => wpAny (model P w) A (assign tg env v) (fun _ s3 =>
          wpAny (model P w) A (forIn ifs true fun c r => if r = true then do let ok ← isTrue c env (eval c env); pure (ForInStep.yield ok) else pure (ForInStep.yield r)) (fun ok s4 =>
            if ok = true then wpAny (model P w) A (eval elt env) (fun x s5 => wpAny (model P w) A (call (.builtin "list.append") [acc, x]) (fun _ s6 => ∃ m, m < n ∧ J m s6) (fun _ _ => False) s5) (fun _ _ => False) s4
            else ∃ m, m < n ∧ J m s4) (fun _ _ => False) s3) (fun _ _ => False) s2) (fun _ _ => False) s1) (fun _ _ => False) s)
    (n : Nat) (h : J n s) : codeAny (model P w) A (.compLoop (.ListComp elt [⟨tg, iter, ifs, 0⟩] scope pos) 0 it acc env) R s := by
  have no : ∀ {α : Type} {t : Sem α} {Q Q' : α → Shared → Prop} {E : Value → Shared → Prop} {s : Shared}, wpAny (model P w) A t Q (fun _ _ => False) s → (∀ a s, Q a s → Q' a s) → wpAny (model P w) A t Q' E s :=
    fun h hq => wpAny_mono h hq fun _ _ f => f.elim
  refine codeAny_loop rfl J (fun n s hJ => ?_) n h
  show wpAny _ A ((compTurn (.ListComp elt [⟨tg, iter, ifs, 0⟩] scope pos) 0 it acc env).onRaise (fun x => do noteFrame x env; theTreesLotGoes x)) _ _ s
  refine wpAny_noted ?_
  rw [compTurn_list]
  refine wpAny_bind (wpAny_standAt (wpAny_bind (no (turn n s hJ) fun r s1 h1 => ?_)))
  cases r with
  | none => exact wpAny_pure h1
  | some v =>
    refine wpAny_bind (no h1 fun _ s2 h2 => wpAny_bind (no h2 fun _ s3 h3 => wpAny_bind (no h3 fun ok s4 h4 => ?_)))
    cases ok with
    | false => exact wpAny_pure ⟨rfl, h4⟩
    | true => exact wpAny_bind (wpAny_bind (no h4 fun x s5 h5 => wpAny_bind (no h5 fun _ s6 h6 => wpAny_pure (wpAny_pure ⟨rfl, h6⟩))))
end
noncomputable def PTs (X : Cx) (ifs : List Expr) (t : TT) : Prop :=
  ∀ (pins : List (Addr × Obj)) (s : Shared) (σ : St) (H : Hp) (Q : Bool → Hp → Prop), Inv X pins σ H s → t σ H Q →
    wpAny (model X.prog X.w) X.A (forIn ifs true fun c r => if r = true then do let ok ← isTrue c X.env (eval c X.env); pure (ForInStep.yield ok) else pure (ForInStep.yield r)) (TP X pins σ Q) X.xe s
noncomputable def tAll : TT := fun _ H Q => Q true H
theorem pts_nil {X : Cx} : PTs X [] tAll := fun _ _ _ H _ I h => wpAny_tests_nil ⟨H, I, h⟩
theorem pts_one {X : Cx} {c : Expr} {t : TT} (h : PT X c t) : PTs X [c] t := fun pins s σ H Q I hq => wpAny_tests_one (h pins s σ H Q I hq)
noncomputable def CompW (J : It) (n : Nat) (js : List Nat) (g : TG) (tc : TT) (te : TE) (Q : VK) (σ : St) (H1 : Hp) : Prop := ∃ W : Nat → Nat → List V → Hp → Prop, (∃ m, W 0 m [] H1) ∧ ∀ i m ys H, W i m ys H →
  (J.stop i H ∧ ys.length ≤ sizeLine ∧ ∀ l, H l = none → Q (.ref l) (upd H l (.lst ys))) ∨
  (J.go i H ∧ ys.length < sizeLine ∧ ∃ N : List V → Hp → Prop, (∀ zs H', N zs H' → ∃ m', m' < m ∧ W (i + 1) m' zs H') ∧ ∀ x H', J.yld i H x H' → g x (bst n σ js) H' fun σ2 H2 => σ2.drop n = capt σ js ∧ tc σ2 H2 fun b H3 =>
    if b = true then te σ2 H3 fun v H4 => N (ys ++ [v]) H4 else N ys H3)
noncomputable def tComp (n : Nat) (js : List Nat) (wi : TI) (g : TG) (tc : TT) (te : TE) : TE := fun σ H Q => wi σ H fun J H1 => CompW J n js g tc te Q σ H1
section
variable {X : Cx}
structure Blk (X : Cx) (scope : Scope) (own : List Str) (js : List Nat) : Prop where
  kind : scope.kind = .function
  nocell : ∀ y ∈ scope.names, y.2 ≠ .cell
  names : ∀ y ∈ scope.names, y.2 = .local → scope.names.lookup y.1 = some .local
  free : ∀ y ∈ scope.names, y.2 = .free → X.env.kindOf y.1 = some .cell ∨ X.env.kindOf y.1 = some .free
  uniq : ∀ x, (x, NameKind.free) ∈ scope.names → scope.names.lookup x = some .free
  nd : (own ++ capN X.N js).Nodup
  cap : ∀ j ∈ js, j < X.N.length ∧ ((X.N[j]?).getD "", NameKind.free) ∈ scope.names
noncomputable def blkB (sc : Scope) (N : List Str) (scope : Scope) (own : List Str) (js : List Nat) : Bool :=
  scope.kind == .function && scope.names.all (fun y => y.2 != .cell) && scope.names.all (fun y => y.2 != .local || scope.names.lookup y.1 == some .local) &&
  scope.names.all (fun y => y.2 != .free || sc.names.lookup y.1 == some .cell || sc.names.lookup y.1 == some .free) && scope.names.all (fun y => y.2 != .free || scope.names.lookup y.1 == some .free) &&
  decide (own ++ capN N js).Nodup && js.all (fun j => decide (j < N.length) && scope.names.any fun y => y.1 == (N[j]?).getD "" && y.2 == .free)
theorem Blk.of {scope : Scope} {own : List Str} {js : List Nat} (sc : Scope) (N : List Str) (h : blkB sc N scope own js = true := by decide +kernel) (e1 : X.env.scope = sc := by rfl) (e2 : X.N = N := by rfl) : Blk X scope own js := by
  subst e1 e2
  unfold blkB at h
  simp only [Bool.and_eq_true, List.all_eq_true, decide_eq_true_eq, beq_iff_eq] at h
  obtain ⟨⟨⟨⟨⟨⟨h1, h2⟩, h3⟩, h4⟩, h5⟩, h6⟩, h7⟩ := h
  refine ⟨h1, fun y hy => by simpa using h2 y hy, fun y hy e => ?_, fun y hy e => ?_, fun x hx => ?_, h6, fun j hj => ?_⟩
  · have := h3 y hy
    simpa [e] using this
  · have := h4 y hy
    simp only [e, bne_self_eq_false, Bool.false_or, Bool.or_eq_true, beq_iff_eq] at this
    exact this
  · have := h5 _ hx
    simpa using this
  · obtain ⟨a, b⟩ := h7 j hj
    refine ⟨a, ?_⟩
    obtain ⟨y, hy, e⟩ := List.any_eq_true.mp b
    simp only [Bool.and_eq_true, beq_iff_eq] at e
    obtain ⟨e1, e2⟩ := e
    rw [← e1, ← e2]
    exact hy
theorem lookup_relabel {env : Env} : ∀ {names : List (Str × NameKind)} {x : Str} {k : NameKind},
    (names.map fun (n, k) => if (k == NameKind.free && env.scope.kind == .function && env.kindOf n == some .cell) then (n, NameKind.cell) else (n, k)).lookup x = some k → names.lookup x = some k ∨ (k = .cell ∧ names.lookup x = some .free)
  | [], _, _, h => by simp at h
  | (n, q) :: r, x, k, h => by
    have ih := @lookup_relabel env r x k
    cases hx : x == n with
    | true =>
      by_cases hc : (q == NameKind.free && env.scope.kind == .function && env.kindOf n == some .cell) = true
      · simp only [List.map_cons, if_pos hc, List.lookup_cons, hx] at h
        cases h
        simp only [Bool.and_eq_true, beq_iff_eq] at hc
        obtain ⟨⟨hq, _⟩, _⟩ := hc
        subst hq
        exact .inr ⟨rfl, by rw [List.lookup_cons, hx]⟩
      · simp only [List.map_cons, if_neg hc, List.lookup_cons, hx] at h
        cases h
        exact .inl (by rw [List.lookup_cons, hx])
    | false =>
      have h' : (r.map fun (n, k) => if (k == NameKind.free && env.scope.kind == .function && env.kindOf n == some .cell) then (n, NameKind.cell) else (n, k)).lookup x = some k := by
        by_cases hc : (q == NameKind.free && env.scope.kind == .function && env.kindOf n == some .cell) = true
        · simp only [List.map_cons, if_pos hc, List.lookup_cons, hx] at h
          exact h
        · simp only [List.map_cons, if_neg hc, List.lookup_cons, hx] at h
          exact h
      rcases ih h' with z | ⟨z, z'⟩
      · exact .inl (by rw [List.lookup_cons, hx]; exact z)
      · exact .inr ⟨z, by rw [List.lookup_cons, hx]; exact z'⟩
theorem blk_inv {scope : Scope} {own : List Str} {js : List Nat} {pins : List (Addr × Obj)} {σ : St} {H : Hp} {s : Shared} {fp : List Addr} {C : Addr} {h1 : Heap} {tk : Nat} (B : Blk X scope own js) (I : Inv X pins σ H s)
    (hfp : ∀ b ∈ fp, FpOk X pins H b) (hfo : ∀ b ∈ fp, ∃ o, s.heap.get? b = some o) (hC : s.heap.objs.size ≤ C) (hns : h1.Ns C fun _ => none) (hk : ∀ b o, s.heap.get? b = some o → h1.get? b = some o) :
    Inv (blk X scope (own ++ capN X.N js) s H C fp) [] (bst own.length σ js) H { s with heap := h1, toks := tk } := by
  have kindC : ∀ x, (blk X scope (own ++ capN X.N js) s H C fp).env.kindOf x = some .cell ∨ (blk X scope (own ++ capN X.N js) s H C fp).env.kindOf x = some .free → (x, NameKind.free) ∈ scope.names := fun x hx => by
    have hx' : (relabel scope X.env).names.lookup x = some .cell ∨ (relabel scope X.env).names.lookup x = some .free := hx
    rcases hx' with z | z
    · rcases lookup_relabel z with q | ⟨_, q⟩
      · exact absurd rfl (B.nocell _ (PySem.mem_of_lookup q))
      · exact PySem.mem_of_lookup q
    · rcases lookup_relabel z with q | ⟨_, q⟩
      · exact PySem.mem_of_lookup q
      · exact PySem.mem_of_lookup q
  have has : ∀ x, (x, NameKind.free) ∈ scope.names → ∃ c, X.env.cells.lookup x = some c := fun x hx => I.ok.has x (B.free (x, .free) hx rfl)
  have old : ∀ {x c}, (closOf scope X.env).lookup x = some c → X.env.cells.lookup x = some c := fun e => closOf_old e
  have cellLt : ∀ {x c}, X.env.cells.lookup x = some c → c < s.heap.objs.size := fun {x c} e => by
    obtain ⟨v, o, ho, _⟩ := I.cell x c e
    exact Heap.lt_size ho
  have fpLt : ∀ b ∈ fp, b < s.heap.objs.size := fun b hb => let ⟨_, e⟩ := hfo b hb; Heap.lt_size e
  have fsOk : ∀ b ∈ frs X.stack, b ∈ X.env.locals :: X.fs := I.stkSub
  refine ⟨⟨I.ok.mod, ?_, I.ok.glob, I.ok.blt, hC, fun x y c e1 e2 => I.ok.inj x y c (old e1) (old e2), fun x hx => ?_, fun x c z _ => absurd z Bool.false_ne_true, I.ok.hd, I.ok.frames, .inl rfl, fun b hb => ⟨?_, fun x c e => ?_⟩, I.bs, Nat.le_trans I.ok.bsz I.sz,
      fun b o e hb => ?_, fun b hb hf => ?_, I.stack, I.stkFree⟩, rfl, I.bare, Un.kept hk, ⟨_, hns, fun i x v e1 e2 e3 => ?_⟩, fun x c e => ?_, ?_, fun x c e => I.freeC x c (old e), fun p hp => absurd hp (by show p ∉ [] ++ []; simp), I.hok.kept hk, ?_⟩
  · show (relabel scope X.env).kind = .function
    exact B.kind
  · obtain ⟨c, e⟩ := has x (kindC x hx)
    exact ⟨c, closOf_new (kindC x hx) e⟩
  · exact Nat.ne_of_lt (Nat.lt_of_lt_of_le (fpLt b hb) hC)
  · exact (hfp b hb).2.2.2.2.1 x c (old e)
  · have e1 := I.bs b o e
    obtain ⟨f0, f1, f2, f3, f4, f5⟩ := hfp b hb
    rcases f3 with z | z
    · exact I.ok.noex b o e z
    · exact absurd (Nat.lt_of_lt_of_le (Heap.lt_size (I.ok.bs b o e).1) z) (Nat.lt_irrefl _)
  · obtain ⟨f0, f1, f2, f3, f4, f5⟩ := hfp b hb
    rcases List.mem_cons.mp (fsOk b hf) with z | z
    · exact f1 z
    · exact f2 z
  · -- a captured name's value
    have hi : own.length ≤ i := by
      rcases Nat.lt_or_ge i own.length with z | z
      · exfalso
        have e2' : (List.replicate own.length (none : Option V) ++ capt σ js)[i]? = some (some v) := e2
        rw [List.getElem?_append_left (by simpa using z), List.getElem?_replicate] at e2'
        split at e2' <;> cases e2'
      · exact z
    have e1' : (own ++ capN X.N js)[i]? = some x := e1
    have e2' : (List.replicate own.length (none : Option V) ++ capt σ js)[i]? = some (some v) := e2
    rw [List.getElem?_append_right hi] at e1'
    rw [List.getElem?_append_right (by simpa using hi), List.length_replicate] at e2'
    unfold capN at e1'
    unfold capt at e2'
    rw [List.getElem?_map] at e1' e2'
    cases ej : js[i - own.length]? with
    | none => rw [ej] at e1'; cases e1'
    | some j =>
      rw [ej] at e1' e2'
      have e1'' : (X.N[j]?).getD "" = x := Option.some.inj e1'
      have e2'' : (σ[j]?).getD none = some v := Option.some.inj e2'
      obtain ⟨hj, hm⟩ := B.cap j (List.mem_of_getElem? ej)
      have eN : X.N[j]? = some x := by
        rw [List.getElem?_eq_getElem hj] at e1'' ⊢
        exact congrArg some e1''
      have eS : σ[j]? = some (some v) := by
        cases q : σ[j]? with
        | none => rw [q] at e2''; cases e2''
        | some u => rw [q] at e2''; exact congrArg some e2''
      rw [e1''] at hm
      obtain ⟨m, _, hl⟩ := I.loc
      have hv : Vis X.env.scope x := by
        rcases B.free (x, .free) hm rfl with z | z
        · exact .inr (.inl z)
        · exact .inr (.inr z)
      obtain ⟨u, r, l⟩ := hl j x v eN eS hv
      obtain ⟨c, hc⟩ := has x hm
      refine ⟨u, r, .inr ⟨?_, c, closOf_new hm hc, ?_⟩⟩
      · rcases e3 with z | z | z
        · exfalso
          have z' : (relabel scope X.env).names.lookup x = some .local := z
          rcases lookup_relabel z' with q | ⟨q, _⟩
          · rw [B.uniq x hm] at q
            cases q
          · cases q
        · exact .inl z
        · exact .inr z
      · rcases l with ⟨k1, _⟩ | ⟨k2, c2, e2, ic⟩
        · rcases B.free (x, .free) hm rfl with t | t <;> (rw [k1] at t; cases t)
        · rw [hc] at e2; cases e2
          obtain ⟨o, ho, hd⟩ := ic
          exact ⟨o, hk c o ho, hd⟩
  · obtain ⟨v, o, ho, hd⟩ := I.cell x c (old e)
    exact ⟨v, o, hk c o ho, hd⟩
  · exact I.hok.fresh hC
  · rw [bst_len]
    show _ = (own ++ capN X.N js).length
    unfold capN
    simp
end
end L2
set_option Elab.async false
set_option linter.all false
set_option maxRecDepth 100000
namespace L2
open PySem PySem.Spec PyProof.Rows
section
variable {X : Cx}
theorem Inv.young {pins : List (Addr × Obj)} {σ : St} {H : Hp} {s : Shared} {h' : Heap} {c : Addr} (I : Inv X pins σ H s) (hs : Heap.SameBut c s.heap h') (hn : H c = none) (h1 : X.s₀.heap.objs.size ≤ c) (hL : c ≠ X.env.locals)
    (h2 : ∀ x d, X.env.cells.lookup x = some d → d ≠ c) (h3 : ∀ p ∈ X.pn ++ pins, p.1 ≠ c) : Inv X pins σ H { s with heap := h' } :=
  I.turned (t' := s.toks) (fun b o hb e => (hs.2 b hb).trans e) hn hL (.inr h1) h2 h3
theorem Inv.track {pins : List (Addr × Obj)} {σ : St} {H : Hp} {s : Shared} {D : Addr} {ys : List V} {its : List Value} {n : Nat} (I : Inv X pins σ H s) (hn : H D = none) (h1 : X.s₀.heap.objs.size ≤ D) (hL : D ≠ X.env.locals)
    (h2 : ∀ x d, X.env.cells.lookup x = some d → d ≠ D) (h3 : ∀ p ∈ X.pn ++ pins, p.1 ≠ D) (hz : ys.length ≤ sizeLine) (r : Vals ys its) (e : s.heap.get? D = some { cls := .type "list", data := .seq its.toArray n }) :
    Inv X pins σ (upd H D (.lst ys)) s := by
  have ne : ∀ {b u}, H b = some u → b ≠ D := fun {b u} q => ne_of_none q hn
  refine ⟨I.ok, I.os, I.bare, ⟨I.base.keep, I.base.slot, fun b o q z hx => ?_, I.base.there, fun b xs q => ?_, fun b o u q => ?_, fun b ps q => ?_⟩, I.loc, I.cell, ?_, fun x c q => ?_, fun p hp => ?_, fun b o q => ?_, I.len⟩
  · rw [upd_ne (Nat.ne_of_lt (Nat.lt_of_lt_of_le (Heap.lt_size q) h1))]
    exact I.base.free b o q z hx
  · have q' := I.base.tups b xs q
    rw [upd_ne (ne q')]; exact q'
  · have q' := I.base.frzs b o u q
    rw [upd_ne (ne q')]; exact q'
  · obtain ⟨more, q'⟩ := I.base.tbls b ps q
    exact ⟨more, by rw [upd_ne (ne q')]; exact q'⟩
  · rw [upd_ne (Ne.symm hL)]; exact I.free
  · rw [upd_ne (h2 x c q)]; exact I.freeC x c q
  · obtain ⟨a1, a2, a3⟩ := I.pin p hp
    exact ⟨a1, by rw [upd_ne (h3 p hp)]; exact a2, a3⟩
  · by_cases hb : b = D
    · subst hb
      rw [upd_same] at q
      cases q
      exact ⟨hz, its, n, r, e⟩
    · rw [upd_ne hb] at q
      refine (I.hok b o q).stay (fun _ _ _ z => z) (fun c z => ?_) fun c xs z => ?_
      · rw [upd_ne (ne z)]; exact z
      · rw [upd_ne (ne z)]; exact z
noncomputable def Behind (X : Cx) (pins : List (Addr × Obj)) (σ : St) (Q : VK) (C : Addr) (acc : Value) (s' : Shared) : Prop :=
  ∃ (D : Addr) (H : Hp) (m : Str → Option Value), acc = .ref D ∧ s'.heap.Ns C m ∧ Inv X pins σ H s' ∧ H C = none ∧ X.s₀.heap.objs.size ≤ C ∧ C ≠ X.env.locals ∧ (∀ x d, X.env.cells.lookup x = some d → d ≠ C) ∧ (∀ p ∈ X.pn ++ pins, p.1 ≠ C) ∧ Q (.ref D) H
theorem comp_block {elt tg iter : Expr} {ifs : List Expr} {scope : Scope} {pos : Pos} {own : List Str} {js : List Nat} {g : TG} {tc : TT} {te : TE} {Q : VK} {pins : List (Addr × Obj)} {σ : St} {s2 : Shared} {itv : Value} {E : Value → Shared → Prop}
    {RR : Value → Addr → Result → Shared → Prop} (hc : X.calm = true) (B : Blk X scope own js) (hg : ∀ s H C fp, (own ++ capN X.N js).Nodup → PG (blk X scope (own ++ capN X.N js) s H C fp) tg g) (ht : ∀ s H C fp, PTs (blk X scope (own ++ capN X.N js) s H C fp) ifs tc)
    (he : ∀ s H C fp, PE (blk X scope (own ++ capN X.N js) s H C fp) elt te)
    (h : PIE X pins σ tg (fun J H1 => CompW J own.length js g tc te Q σ H1) itv s2)
    (hR : ∀ C acc s', Behind X pins σ Q C acc s' → RR acc C (.ok .next) s') :
    wpAny (model X.prog X.w) X.A (newList []) (fun acc s3 => wpAny (model X.prog X.w) X.A (newFunctionEnv scope X.env.globals (closOf scope X.env) [] X.env.qual none .none (some X.env)) (fun cenv s4 =>
      codeAny (model X.prog X.w) X.A (.compStart (.ListComp elt [⟨tg, iter, ifs, 0⟩] scope pos) 0 itv acc { cenv with scope := relabel scope X.env }) (RR acc cenv.locals) s4) E s3) E s2 := by
  obtain ⟨it, fp, tn, J, H2, rfl, I2, T, st2, f2, W, ⟨m0, w0⟩, turn⟩ := h
  refine wpAny_newObj_type (wpAny_newFunctionEnv B.nocell (by intro y hy; simp at hy) (fun h1 hns1 hsb1 => ?_) B.kind)
  generalize hPu : s2.heap.push { cls := .type "list", dict := none, data := .seq ([] : List Value).toArray } = Pu at hns1 hsb1 ⊢
  dsimp only at hns1 hsb1 ⊢
  have hDC : Pu.objs.size = s2.heap.objs.size + 1 := by rw [← hPu, Heap.size_push]
  generalize hD : s2.heap.objs.size = D at hDC ⊢
  have gD : Pu.get? D = some { cls := .type "list", dict := none, data := .seq ([] : List Value).toArray } := by
    rw [← hPu, ← hD]; exact Heap.get?_push_size _ rfl
  generalize hC : Pu.objs.size = C at hns1 hsb1 hDC ⊢
  have ltDC : D < C := by rw [hDC]; exact Nat.lt_succ_self D
  have neDC : D ≠ C := Nat.ne_of_lt ltDC
  have keep1 : ∀ b o, s2.heap.get? b = some o → h1.get? b = some o := fun b o e => by
    have hb : b < D := by rw [← hD]; exact Heap.lt_size e
    have hb2 : b ≠ C := Nat.ne_of_lt (Nat.lt_trans hb ltDC)
    refine (hsb1.2 b hb2).trans (Heap.get?_push_of_some _ ?_)
    rw [← hPu]
    exact Heap.get?_push_of_some _ e
  have gD1 : h1.get? D = some { cls := .type "list", dict := none, data := .seq ([] : List Value).toArray } := (hsb1.2 D neDC).trans (Heap.get?_push_of_some _ gD)
  have szD : s2.heap.objs.size ≤ D := Nat.le_of_eq hD
  have szC : s2.heap.objs.size ≤ C := Nat.le_trans szD (Nat.le_of_lt ltDC)
  have old : ∀ {b : Addr}, b < s2.heap.objs.size → b ≠ D ∧ b ≠ C := fun hb => ⟨Nat.ne_of_lt (Nat.lt_of_lt_of_le hb szD), Nat.ne_of_lt (Nat.lt_of_lt_of_le hb szC)⟩
  have fpo : ∀ b ∈ fp, ∃ o, s2.heap.get? b = some o := fun b hb => let ⟨o, e, _⟩ := T.obj 0 _ st2 b hb; ⟨o, e⟩
  have fpD : ∀ b ∈ fp, b ≠ D ∧ b ≠ C := fun b hb => by
    obtain ⟨o, e⟩ := fpo b hb
    exact old (Heap.lt_size e)
  have clD : ∀ x d, X.env.cells.lookup x = some d → d ≠ D ∧ d ≠ C := fun x d e => by
    obtain ⟨v, o, ho, _⟩ := I2.cell x d e
    exact old (Heap.lt_size ho)
  have pinD : ∀ p ∈ X.pn ++ pins, p.1 ≠ D ∧ p.1 ≠ C := fun p hp => by
    exact old (Heap.lt_size (I2.pin p hp).1)
  have locD : D ≠ X.env.locals ∧ C ≠ X.env.locals := by
    exact ⟨(old I2.lt).1.symm, (old I2.lt).2.symm⟩
  let Y := blk X scope (own ++ capN X.N js) s2 H2 C fp
  have IB : Inv Y [] (bst own.length σ js) H2 { s2 with heap := h1, toks := s2.toks + ([] : List (Str × Value)).length } := blk_inv B I2 f2 fpo szC hns1 keep1
  have fpB : ∀ {H' : Hp} {pl : List (Addr × Obj)}, (∀ b ∈ fp, H' b = none) → (∀ p ∈ pl, p.1 = D) → ∀ b ∈ fp, FpOk Y pl H' b := fun {H' pl} hn hp b hb => by
    obtain ⟨f0, f1, f3, f4, f5, f6⟩ := f2 b hb
    refine ⟨hn b hb, (fpD b hb).2, fun z => ?_, .inl hb, fun x c e => f5 x c (closOf_old e), fun p q => ?_⟩
    · rcases List.mem_cons.mp (I2.stkSub b z) with z | z
      · exact f1 z
      · exact f3 z
    · have q' : p ∈ pl := by simpa [Y, blk] using q
      rw [hp p q']
      exact (fpD b hb).1.symm
  have clB : ∀ x d, Y.env.cells.lookup x = some d → d ≠ D := fun x d e => (clD x d (closOf_old e)).1
  have notFs : D ∉ Y.fs := fun z => by
    obtain ⟨_, o, ho, _⟩ := IB.ok.funs.mem z
    exact (old (Heap.lt_size (show s2.heap.get? D = some o from ho))).1 rfl
  have loop : ∀ s3 : Shared, s3 = { s2 with heap := h1, toks := s2.toks + ([] : List (Str × Value)).length } →
      codeAny (model X.prog X.w) X.A (.compLoop (.ListComp elt [⟨tg, iter, ifs, 0⟩] scope pos) 0 (.ref it) (.ref D) (compEnvC scope (closOf scope X.env) C X.env)) (RR (.ref D) C) s3 := by
    rintro s3 rfl
    refine compLoop_by (fun n s' => ∃ (i : Nat) (ys : List V) (its : List Value) (k : Nat) (H' : Hp), Inv Y [] (bst own.length σ js) H' s' ∧ tn i s'.heap ∧ (∀ b ∈ fp, H' b = none) ∧ H' D = none ∧ Vals ys its ∧
      s'.heap.get? D = some { cls := .type "list", data := .seq its.toArray k } ∧ W i n ys H') ?_ m0 ⟨0, [], [], 0, H2, IB, T.keep 0 _ _ st2 (fun b hb o e => keep1 b o e), fun b hb => (f2 b hb).1, I2.hok.fresh szD, .nil, gD1, w0⟩
    rintro n s3 ⟨i, ys, its, k, H3, I3, st3, fr3, hD3, r3, g3, w3⟩
    have I3p : Inv Y [(D, { cls := .type "list", data := .seq its.toArray k })] (bst own.length σ js) H3 s3 := I3.pins_of fun p hp => by
      have e : p = (D, { cls := .type "list", data := .seq its.toArray k }) := by simpa using hp
      subst e
      exact ⟨g3, hD3, neDC, notFs, fun v z => by cases z⟩
    have f3 : ∀ b ∈ fp, FpOk Y [(D, { cls := .type "list", data := .seq its.toArray k })] H3 b := fpB fr3 fun p hp => by
      have e : p = (D, { cls := .type "list", data := .seq its.toArray k }) := by simpa using hp
      rw [e]
    rcases turn i n ys H3 w3 with ⟨stop, hz, qn⟩ | ⟨go, hz, N, hN, step⟩
    · refine thn (T.done Y rfl rfl rfl hc i _ s3 _ H3 (fun _ _ => False) I3p f3 st3 stop) fun r s4 hZq => ?_
      obtain ⟨hr, I4⟩ := hZq
      subst hr
      refine hR C _ s4 ?_
      have g4 := (I4.pin (D, { cls := .type "list", data := .seq its.toArray k }) (by simp [Y, blk])).1
      obtain ⟨m, hn4, _⟩ := id I4.loc
      have un : Un (frs X.stack) fp H2 H3 s2.heap s4.heap := I4.base
      have I5 : Inv X pins σ H3 s4 := I2.call' I4.os un I4.hok I4.bare fun b hb => let ⟨_, b1, _, b3, b4, b5⟩ := f2 b hb; ⟨b3, b1, b4, b5⟩
      have I6 := I5.track (ys := ys) (its := its) (n := k) hD3 (Nat.le_trans I2.sz szD) locD.1 (fun x d e => (clD x d e).1) (fun p hp => (pinD p hp).1) hz r3 g4
      refine ⟨D, _, m, rfl, hn4, I6, ?_, Nat.le_trans I2.sz szC, locD.2, fun x d e => (clD x d e).2, fun p hp => (pinD p hp).2, qn D hD3⟩
      rw [upd_ne (Ne.symm neDC)]
      exact I4.free
    · refine thn (T.item Y rfl rfl rfl hc i _ s3 _ H3 (fun _ _ => False) I3p f3 st3 go) fun r s4 hZq => ?_
      obtain ⟨u, hr, h4⟩ := hZq
      subst hr
      refine thn h4 fun _ s5 hZq => ?_
      obtain ⟨x, H5, I5, r5, y5, st5, fr5⟩ := hZq
      have f5 : ∀ b ∈ fp, FpOk Y [(D, { cls := .type "list", data := .seq its.toArray k })] H5 b := fun b hb => ⟨fr5 b hb, (f3 b hb).2⟩
      have I5' := I5.pinned f5 (T.obj _ _ st5)
      refine thn (hg s2 H2 C fp B.nd _ s5 _ H5 x u _ I5' r5 (step x H5 y5)) fun _ s6 hZq => ?_
      obtain ⟨σ6, H6, I6, d6, q6⟩ := hZq
      refine thn (ht s2 H2 C fp _ s6 σ6 H6 _ I6 q6) fun ok s7 hZq => ?_
      obtain ⟨H7, I7, q7⟩ := hZq
      have after : ∀ {s8 : Shared} {H8 : Hp}, Inv Y ([(D, { cls := .type "list", data := .seq its.toArray k })] ++ pinsAt fp s5.heap) σ6 H8 s8 →
          s8.heap.get? D = some { cls := .type "list", data := .seq its.toArray k } ∧ H8 D = none ∧ tn (i + 1) s8.heap ∧ (∀ b ∈ fp, H8 b = none) ∧ Inv Y [] (bst own.length σ js) H8 s8 := fun {s8 H8} I8 => by
        have p8 := I8.pin (D, { cls := .type "list", data := .seq its.toArray k }) (by simp [Y, blk])
        refine ⟨p8.1, p8.2.1, T.keep _ _ _ st5 fun b hb o e => (I8.pin (b, o) (List.mem_append_right _ (List.mem_append_right _ (mem_pinsAt hb e)))).1, fun b hb => ?_, ?_⟩
        · obtain ⟨o, e, _⟩ := T.obj _ _ st5 b hb
          exact (I8.pin (b, o) (List.mem_append_right _ (List.mem_append_right _ (mem_pinsAt hb e)))).2.1
        · refine (I8.pins_of (pins' := []) fun p hp => absurd hp (by simp [Y, blk])).weak ?_ fun j v e => ?_
          · rw [I8.len, bst_len]
            show _ = (own ++ capN X.N js).length
            unfold capN
            simp
          · rcases Nat.lt_or_ge j own.length with z | z
            · exfalso
              unfold bst at e
              rw [List.getElem?_append_left (by simpa using z), List.getElem?_replicate] at e
              split at e <;> cases e
            · unfold bst at e
              rw [List.getElem?_append_right (by simpa using z), List.length_replicate, ← d6, List.getElem?_drop] at e
              rw [← e]
              congr 1
              (clear e p8 d6 hz g3 hD3 notFs locD szC szD gD1 neDC ltDC hDC hC gD hD hPu hc; omega)
      cases ok with
      | false =>
        rw [if_neg Bool.false_ne_true] at q7 ⊢
        obtain ⟨m', hm, w7⟩ := hN _ _ q7
        obtain ⟨a1, a2, a3, a4, a5⟩ := after I7
        exact ⟨m', hm, i + 1, ys, its, k, H7, a5, a3, a4, a2, r3, a1, w7⟩
      | true =>
        rw [if_pos rfl] at q7 ⊢
        refine thn (he s2 H2 C fp _ s7 σ6 H7 _ I7 q7) fun u8 s8 hZq => ?_
        obtain ⟨v8, H8, I8, r8, n8⟩ := hZq
        obtain ⟨m', hm, w8⟩ := hN _ _ n8
        obtain ⟨a1, a2, a3, a4, a5⟩ := after I8
        have hsz : its.toArray.size < sizeLine := by rw [List.size_toArray, ← r3.length]; exact hz
        refine call_meets F.slot_list_append ⟨_, a1, rfl⟩ F.entry_list_append (F.args_list_append_2 _ _) (PySem.list_append D its.toArray k u8 (by first | assumption | decide | (clear a2 a1 hm d6 hz g3 hD3 notFs locD szC szD gD1 neDC ltDC hDC hC gD hD hPu hc; omega))) ⟨a1, ?_⟩
        have q9 := PySem.IsL.update a1 (fun xs => xs.push u8)
        have sb : Heap.SameBut D s8.heap (s8.heap.update D (Obj.mapSeq fun xs => xs.push u8)) := Heap.SameBut.update ..
        have I9 := a5.young sb a2 szD neDC clB (fun p hp => absurd hp (by show p ∉ [] ++ []; simp))
        have fin : ∃ k', (s8.heap.update D (Obj.mapSeq fun xs => xs.push u8)).get? D = some { cls := .type "list", data := .seq (its ++ [u8]).toArray k' } := ⟨_, by
          rw [show (its ++ [u8]).toArray = its.toArray.push u8 by simp]
          exact q9⟩
        obtain ⟨k', fin⟩ := fin
        exact ⟨m', hm, i + 1, ys ++ [v8], its ++ [u8], k', H8, I9, T.keep _ _ _ a3 (fun b hb o e => (sb.2 b (fpD b hb).1).trans e), a4, a2, r3.append (.cons r8 .nil), fin, w8⟩
  exact codeAny_compStart_list (loop _ rfl) (T.self _ 0 _ _ _ (T.keep 0 _ _ st2 fun b hb o e => keep1 b o e) (loop _ rfl))
theorem pe_comp {elt tg iter : Expr} {ifs : List Expr} {scope : Scope} {pos : Pos} (own : List Str) (js : List Nat) {wi : TI} {g : TG} {tc : TT} {te : TE} (hc : X.calm = true) (B : Blk X scope own js) (hi : PI X tg iter wi)
    (hg : ∀ s H C fp, (own ++ capN X.N js).Nodup → PG (blk X scope (own ++ capN X.N js) s H C fp) tg g) (ht : ∀ s H C fp, PTs (blk X scope (own ++ capN X.N js) s H C fp) ifs tc) (he : ∀ s H C fp, PE (blk X scope (own ++ capN X.N js) s H C fp) elt te)
    (hs : ∀ x, foldedSetIterable iter X.env x = pure x := by intro _; rfl) : PE X (.ListComp elt [⟨tg, iter, ifs, 0⟩] scope pos) (tComp own.length js wi g tc te) := by
  intro pins s σ H Q I h
  have hcl : closureFor scope X.env = pure (closOf scope X.env) := closureFor_of fun x hx hf => I.ok.has x.1 (B.free x hx hf)
  rw [eval_ListComp]
  refine wpAny_comprehension_free (use := none) rfl hs hcl B.kind B.names (thn (hi pins s σ H _ I h) fun v s1 h1 => thn h1 fun itv s2 h2 => ?_)
  refine comp_block (RR := fun acc C => compPost (model X.prog X.w) X.A X.xe none (EP X pins σ Q) acc C) hc B hg ht he h2 fun C acc s' hb => ?_
  obtain ⟨D, H', m, rfl, hn, I', c1, c2, c3, c4, c5, q⟩ := hb
  exact ⟨m, hn, fun h' hs' => ⟨.ref D, H', I'.young hs' c1 c2 c3 c4 c5, rfl, q⟩⟩
theorem ps_setC {elt tg iter : Expr} {ifs : List Expr} {scope : Scope} {pos pos' spos : Pos} {i : Nat} {x : Str} (own : List Str) (js : List Nat) {wi : TI} {g : TG} {tc : TT} {te : TE} (hN : X.N.Nodup) (hi : X.N[i]? = some x) (hx : Loc X.env.scope x)
    (hc : X.calm = true) (B : Blk X scope own js) (hit : PI X tg iter wi)
    (hg : ∀ s H C fp, (own ++ capN X.N js).Nodup → PG (blk X scope (own ++ capN X.N js) s H C fp) tg g) (ht : ∀ s H C fp, PTs (blk X scope (own ++ capN X.N js) s H C fp) ifs tc) (he : ∀ s H C fp, PE (blk X scope (own ++ capN X.N js) s H C fp) elt te)
    (hf : X.fn x = true ∨ X.env.scope.names.lookup x = some .local := by first | exact .inl rfl | exact .inr rfl | assumption)
    (hw : swapsWith (.ListComp elt [⟨tg, iter, ifs, 0⟩] scope pos) (some (.Name x pos')) spos.line X.env = pure true := by rfl)
    (hs : ∀ x, foldedSetIterable iter X.env x = pure x := by intro _; rfl) :
    PS X (.Assign [.Name x pos'] (.ListComp elt [⟨tg, iter, ifs, 0⟩] scope pos) spos) (fun D σ H => tComp own.length js wi g tc te σ H fun v H' => D.nx (σ.set i (some v)) H') := by
  intro pins s σ H D I h
  have hcl : closureFor scope X.env = pure (closOf scope X.env) := closureFor_of fun x hx hf => I.ok.has x.1 (B.free x hx hf)
  rw [exec_Assign_Name_used _ _ _ _ hw]
  refine wpAny_bind (wpAny_standAt (wpAny_bind ?_))
  show wpAny _ X.A (do let _ ← comprehension (.ListComp elt [⟨tg, iter, ifs, 0⟩] scope pos) scope X.env _ (newList []) false (eval iter X.env) (some (assign (.Name x pos') X.env))) _ _ s
  refine wpAny_bind (thn (Q := fun _ s' => SP X pins D .next s') (wpAny_comprehension_free (use := some (assign (.Name x pos') X.env)) rfl hs hcl B.kind B.names (thn (hit pins s σ H _ I h) fun v s1 h1 => thn h1 fun itv s2 h2 => ?_)) fun _ s' q => wpAny_pure (wpAny_pure q))
  refine comp_block (Q := fun v H' => D.nx (σ.set i (some v)) H') (RR := fun acc C => compPost (model X.prog X.w) X.A X.xe (some (assign (.Name x pos') X.env)) (fun _ s' => SP X pins D .next s') acc C) hc B hg ht he h2 fun C acc s' hb => ?_
  obtain ⟨l, H', m, rfl, hn, I', c1, c2, c3, c4, c5, q⟩ := hb
  show wpAny _ X.A (assign (.Name x pos') X.env (.ref l)) _ _ _
  refine wpAny_assign_Name (store_ok2 (v := .ref l) I' hN hi hx rfl (fun s3 I3 hZq => ?_) hf)
  obtain ⟨a, sb, ha⟩ := hZq
  have ne : C ≠ a := by
    rcases ha with z | z
    · rw [z]; exact c3
    · exact (c4 x a z).symm
  exact ⟨m, hn.sameBut sb ne, fun h' hs' => ⟨_, H', I3.young hs' c1 c2 c3 c4 c5, q⟩⟩
end
end L2
set_option Elab.async false
set_option linter.all false
set_option maxRecDepth 100000
namespace L2
open PySem PySem.Spec PyProof.Rows
section
variable {X : Cx}
noncomputable def Dv (j : Int) : Prop := 0 < j ∧ j.natAbs.log2 < 9000
theorem Dv.small {j : Int} (h : 0 < j) (h2 : j < 1073741824) : Dv j := ⟨h, by
  have e : j.natAbs ≠ 0 := by first | assumption | decide | omega
  have : j.natAbs.log2 < 30 := (Nat.log2_lt e).mpr (by first | assumption | decide | (clear e; omega))
  (clear e h2 h; omega)⟩
theorem op_fdivL : OpR X (binaryOp .FloorDiv) (rI (fun _ j => Dv j) fun i j => .int (i / j)) := opI fun i j _ _ _ _ _ hc q => by
  rw [← Int.fdiv_eq_ediv_of_nonneg i (Int.le_of_lt hc.1)] at q
  exact floordiv_int (Int.ne_of_gt hc.1) q (.inl (PyProof.noPylong_of_log2 hc.2))
theorem mt_bits : MtR X "int.bit_length" (fun x xs H Q => ∃ i, x = .int i ∧ xs = [] ∧ Q (.int (Builtin.Int.intBits i : Nat)) H) := by
  intro pins s σ H x xs v us Q I rx rv h
  obtain ⟨i, rfl, rfl, q⟩ := h
  obtain ⟨t, rfl⟩ := rx
  cases rv
  exact call_int_bit_length ⟨.int (Builtin.Int.intBits i : Nat), H, I.tok _, ⟨_, rfl⟩, q⟩
theorem pe_ty {x : Str} {T : String} {pos : Pos} (hg : Gl X x) (hm : X.mg x = none) (hv : bootBuiltins x = some (.type T)) (hn : x ≠ "__name__" := by decide) (hd : (x == ("__debug__" : Str)) = false := by decide) : PE X (.Name x pos) (tC (.ty T)) :=
  pe_bltn hg hm hv rfl hn hd
structure OkN (P : Program) (w : World) (K : PySem.W.Frag) (mg : Str → Option Value) (base : Heap) (k : Nat) (x : Str) (ps : List Str) (sp : Sp) : Prop where
  ex : ∃ f fd, mg x = some (.ref f) ∧ PySem.W.keepIn K (.ref f) = true ∧ Binds K fd ps [] ∧ (∃ oc od osl, K.lookup f = some ⟨oc, od, .func fd, osl⟩) ∧ FnOk P w K mg base CX0 k f fd ps sp
theorem pe_fn {k : Nat} {x : Str} {ps : List Str} {sp : Sp} {p pos : Pos} {e : Expr} {es : List Expr} {t : TA} (F : OkN X.prog X.w X.K X.mg X.base k x ps sp) (hr : Room k X.A) (ha : PA X (e :: es) t) (hg : Gl X x := by rfl)
    (hdb : (x == ("__debug__" : Str)) = false := by decide) (he : starEach (e :: es) X.env = (false, eval e X.env) :: starEach es X.env := by rfl) (hpl : (backTo pos (starEach es X.env)).any (·.1) = false := by rfl) :
    PE X (.Call (.Name x p) (e :: es) [] pos) (tCall sp [] E0 t) := by
  obtain ⟨f, fd, hm, hk, hb, lk, F⟩ := F.ex
  exact pe_call F hr hg hm hk hb .nil pass0 ha hdb he hpl
structure DefN (K : PySem.W.Frag) (mg : Str → Option Value) (x : Str) (st : Stmt) (ps : List Str) : Prop where
  ex : ∃ f fd, mg x = some (.ref f) ∧ Fun K x x st f fd ∧ ∀ us : List Value, us.length = ps.length → bindArgs fd ⟨us, []⟩ = pure (ps.zip us)
theorem DefN.ok {P : Program} {w : World} {K : PySem.W.Frag} {mg : Str → Option Value} {base : Heap} {x : Str} {st : Stmt} {N ps : List Str} {k : Nat} {sp : Sp} (D : DefN K mg x st ps) (S : FnScope N ps (defScope st)) (len : ∀ vs H Q E, sp vs H Q E → vs.length = ps.length)
    (hbody : ∀ (f : Addr) (cdv : Value) (A : Around) (outer : List Env) (s : Shared) (H : Hp) (vs : List V) (Q : VK) (E : XK), Room k (A.deeper (envOfC x (defScope st) s.heap.objs.size f cdv)) → sp vs H Q E →
      ∃ t, PSs (cxOf CX0 P w K mg base N x (defScope st) f cdv A outer s H E).nox (defBody st) t ∧ t { nx := fun _ H' => Q .non H', rt := Q } (start N vs) H) : OkN P w K mg base (k + 1) x ps sp := by
  obtain ⟨f, fd, hm, F, hb⟩ := D.ex
  refine ⟨f, fd, hm, F.kp, .all hb, ?_, F.ok S len fun cdv A outer s H vs Q E hr h => hbody f cdv A outer s H vs Q E hr h⟩
  obtain ⟨oc, od, kV, doc, pm, an, cdv, ct, osl, _, lk, _⟩ := F.ex
  exact ⟨oc, od, osl, lk⟩
theorem def_mk {K : PySem.W.Frag} {mg : Str → Option Value} {h : Heap} {x : Str} {st : Stmt} {ps : List Str} {f : Addr} {oc : Value} {od an : Option Addr} {osl : Array (Option Value)} {kV doc pm cdv ct : Value} (KX : K.In h) (G : h.Ns mainGlobals mg)
    (a : PySem.W.nsIn K mainGlobals x = some (some (.ref f))) (l : K.lookup f = some ⟨oc, od, .func (PySem.W.fnOf x x (defArgs st) (defBody st) (defScope st) .none kV doc pm an cdv ct), osl⟩)
    (c : PySem.W.codeIn K cdv x = true) (k : PySem.W.keepIn K (.ref f) = true)
    (hb : ∀ (kV doc pm : Value) (an : Option Addr) (cdv ct : Value) (us : List Value), us.length = ps.length → bindArgs (PySem.W.fnOf x x (defArgs st) (defBody st) (defScope st) .none kV doc pm an cdv ct) ⟨us, []⟩ = pure (ps.zip us)) : DefN K mg x st ps :=
  ⟨f, _, PySem.W.mg_of KX G a, fun_mk l c k, fun us hl => hb kV doc pm an cdv ct us hl⟩
theorem law_fin {P : Program} {w : World} {K : PySem.W.Frag} {mg : Str → Option Value} {x p : Str} {st : Stmt} {k : Nat} {fa : Addr} {sp : Sp} (D : DefN K mg x st [p]) (hfa : mg x = some (.ref fa))
    (F : ∀ base : Heap, OkN P w K mg base k x [p] sp) : ∃ fd : FuncData, (∀ (s : Shared) (v : Value), BindsTo s fd ⟨[v], []⟩ [(p, v)]) ∧ ∀ base : Heap, K.In base → base.Ns mainGlobals mg → FnOk P w K mg base CX0 k fa fd [p] sp := by
  obtain ⟨f, fd, hm, F0, hb⟩ := D.ex
  obtain ⟨oc, od, kV, doc, pm, an, cdv, ct, osl, _, lk, _⟩ := F0.ex
  refine ⟨fd, fun s v => .of_eq (hb [v] rfl), fun base _ _ => ?_⟩
  obtain ⟨f', fd', hm', _, _, ⟨oc', od', osl', lk'⟩, G⟩ := (F base).ex
  rw [hfa] at hm'
  cases hm'
  rw [hfa] at hm
  cases hm
  rw [lk] at lk'
  cases lk'
  exact G
end
end L2
set_option Elab.async false
set_option linter.all false
set_option maxRecDepth 100000
namespace L2
open PySem PySem.Spec PyProof.Rows
structure BI (mg : Str → Option Value) : Prop where
  len_ : mg "len" = none
  range_ : mg "range" = none
  isinstance_ : mg "isinstance" = none
  int_ : mg "int" = none
  bool_ : mg "bool" = none
  list_ : mg "list" = none
  tuple_ : mg "tuple" = none
  str_ : mg "str" = none
  sum_ : mg "sum" = none
  all_ : mg "all" = none
  max_ : mg "max" = none
  min_ : mg "min" = none
  sorted_ : mg "sorted" = none
  set_ : mg "set" = none
  zip_ : mg "zip" = none
  enumerate_ : mg "enumerate" = none
  reversed_ : mg "reversed" = none
  dict_ : mg "dict" = none
theorem bi_mk {K : PySem.W.Frag} {mg : Str → Option Value} {h : Heap} (KX : K.In h) (G : h.Ns mainGlobals mg)
    (len_ : PySem.W.nsIn K mainGlobals "len" = some none) (range_ : PySem.W.nsIn K mainGlobals "range" = some none) (isinstance_ : PySem.W.nsIn K mainGlobals "isinstance" = some none) (int_ : PySem.W.nsIn K mainGlobals "int" = some none) (bool_ : PySem.W.nsIn K mainGlobals "bool" = some none) (list_ : PySem.W.nsIn K mainGlobals "list" = some none) (tuple_ : PySem.W.nsIn K mainGlobals "tuple" = some none) (str_ : PySem.W.nsIn K mainGlobals "str" = some none) (sum_ : PySem.W.nsIn K mainGlobals "sum" = some none) (all_ : PySem.W.nsIn K mainGlobals "all" = some none) (max_ : PySem.W.nsIn K mainGlobals "max" = some none) (min_ : PySem.W.nsIn K mainGlobals "min" = some none) (sorted_ : PySem.W.nsIn K mainGlobals "sorted" = some none) (set_ : PySem.W.nsIn K mainGlobals "set" = some none) (zip_ : PySem.W.nsIn K mainGlobals "zip" = some none) (enumerate_ : PySem.W.nsIn K mainGlobals "enumerate" = some none) (reversed_ : PySem.W.nsIn K mainGlobals "reversed" = some none) (dict_ : PySem.W.nsIn K mainGlobals "dict" = some none) : BI mg :=
  ⟨PySem.W.mg_none_of KX G len_, PySem.W.mg_none_of KX G range_, PySem.W.mg_none_of KX G isinstance_, PySem.W.mg_none_of KX G int_, PySem.W.mg_none_of KX G bool_, PySem.W.mg_none_of KX G list_, PySem.W.mg_none_of KX G tuple_, PySem.W.mg_none_of KX G str_, PySem.W.mg_none_of KX G sum_, PySem.W.mg_none_of KX G all_, PySem.W.mg_none_of KX G max_, PySem.W.mg_none_of KX G min_, PySem.W.mg_none_of KX G sorted_, PySem.W.mg_none_of KX G set_, PySem.W.mg_none_of KX G zip_, PySem.W.mg_none_of KX G enumerate_, PySem.W.mg_none_of KX G reversed_, PySem.W.mg_none_of KX G dict_⟩
noncomputable def Grow (t : Addr) (H H' : Hp) : Prop := ∀ b o, H b = some o → b ≠ t → H' b = some o
theorem Grow.refl {t : Addr} {H : Hp} : Grow t H H := fun _ _ h _ => h
theorem Grow.upd {t : Addr} {H H' : Hp} (g : Grow t H H') (o : HO) : Grow t H (L2.upd H' t o) := fun b u h n => by rw [upd_ne n]; exact g b u h n
theorem Same.new {H H' : Hp} {l : Addr} {o : HO} (s : Same H H') (h : H' l = none) : Same H (L2.upd H' l o) := fun b u e => by
  have := s b u e
  rw [upd_ne (ne_of_none this h)]; exact this
theorem Same.seqT {K : PySem.W.Frag} {H H' : Hp} {a : Addr} {xs : List V} (e : Same H H') (h : SqT K H a xs) : SqT K H' a xs := by
  rcases h with (h | ⟨o, h⟩) | h
  · exact .inl (.inl (e _ _ h))
  · exact .inl (.inr ⟨o, e _ _ h⟩)
  · exact .inr h
theorem Grow.seq {K : PySem.W.Frag} {t : Addr} {H H' : Hp} {a : Addr} {xs : List V} {kvs : List (Key × V)} (g : Grow t H H') (ht : H t = some (.dK kvs)) (h : SqL K H a xs) : SqL K H' a xs := by
  rcases h with (h | ⟨o, h⟩) | h
  · exact .inl (.inl (g _ _ h (ne_of h ht (by intro z; cases z))))
  · exact .inl (.inr ⟨o, g _ _ h (ne_of h ht (by intro z; cases z))⟩)
  · exact .inr h
noncomputable def tapeK (c : Addr) (sp lf : Int) : List (Key × V) := [(Sum.inr "cells", .ref c), (Sum.inr "spot", .int sp), (Sum.inr "left", .int lf)]
theorem cs_ne : ¬ ((Sum.inr ("cells" : Str) : Key) = Sum.inr ("spot" : Str)) := by decide +kernel
theorem cl_ne : ¬ ((Sum.inr ("cells" : Str) : Key) = Sum.inr ("left" : Str)) := by decide +kernel
theorem sl_ne : ¬ ((Sum.inr ("spot" : Str) : Key) = Sum.inr ("left" : Str)) := by decide +kernel
theorem tape_cells {c : Addr} {sp lf : Int} : valV (tapeK c sp lf) (Sum.inr "cells" : Key) = some (.ref c) := by
  simp [valV, tapeK]
theorem tape_spot {c : Addr} {sp lf : Int} : valV (tapeK c sp lf) (Sum.inr "spot" : Key) = some (.int sp) := by
  simp only [valV, tapeK, List.find?_cons, decide_eq_false cs_ne, decide_true, Option.map_some]
theorem tape_left {c : Addr} {sp lf : Int} : valV (tapeK c sp lf) (Sum.inr "left" : Key) = some (.int lf) := by
  simp only [valV, tapeK, List.find?_cons, decide_eq_false cl_ne, decide_eq_false sl_ne, decide_true, Option.map_some]
theorem put_left {c : Addr} {sp lf x : Int} : putK (tapeK c sp lf) (Sum.inr "left" : Key) (.int x) = tapeK c sp x := by
  unfold putK
  rw [if_pos (by simp [tapeK])]
  simp only [tapeK, List.map_cons, List.map_nil, if_neg cl_ne, if_neg sl_ne, if_pos]
theorem put_spot {c : Addr} {sp lf x : Int} : putK (tapeK c sp lf) (Sum.inr "spot" : Key) (.int x) = tapeK c x lf := by
  unfold putK
  rw [if_pos (by simp [tapeK])]
  simp only [tapeK, List.map_cons, List.map_nil, if_neg cs_ne, if_pos, if_neg (show ¬ ((Sum.inr ("left" : Str) : Key) = Sum.inr ("spot" : Str)) from fun e => sl_ne e.symm)]
theorem tape_made {c : Addr} : mergeK [] [((Sum.inr ("cells" : Str) : Key), V.ref c), ((Sum.inr ("spot" : Str) : Key), V.int 0), ((Sum.inr ("left" : Str) : Key), V.int 0)] = tapeK c 0 0 := by
  simp only [mergeK, List.foldl_cons, List.foldl_nil]
  have e1 : putK ([] : List (Key × V)) (Sum.inr ("cells" : Str)) (V.ref c) = [((Sum.inr ("cells" : Str) : Key), V.ref c)] := by simp [putK]
  have e2 : putK [((Sum.inr ("cells" : Str) : Key), V.ref c)] (Sum.inr ("spot" : Str)) (V.int 0) = [((Sum.inr ("cells" : Str) : Key), V.ref c), ((Sum.inr ("spot" : Str) : Key), V.int 0)] := by
    unfold putK
    rw [if_neg (by simp only [List.any_cons, List.any_nil, decide_eq_false cs_ne]; simp)]
    rfl
  have e3 : putK [((Sum.inr ("cells" : Str) : Key), V.ref c), ((Sum.inr ("spot" : Str) : Key), V.int 0)] (Sum.inr ("left" : Str)) (V.int 0) = tapeK c 0 0 := by
    unfold putK
    rw [if_neg (by simp only [List.any_cons, List.any_nil, decide_eq_false cl_ne, decide_eq_false sl_ne]; simp)]
    rfl
  rw [e1, e2, e3]
theorem cut63 {ns : List Int} : cutV (ns.map V.int) none (some 63) = (ns.take 63).map V.int := by
  unfold cutV
  have e0 : HT.sIx (ns.map V.int).length 0 none = 0 := rfl
  rw [e0, List.drop_zero, Nat.sub_zero, List.map_take]
  show List.take (HT.sIx _ _ (some ((63 : Nat) : Int))) _ = _
  rw [HT.sIx_nat]
  rcases Nat.le_total 63 (ns.map V.int).length with h | h
  · rw [Nat.min_eq_left h]
  · rw [Nat.min_eq_right h, List.take_of_length_le (Nat.le_refl _), List.take_of_length_le h]
end L2
namespace L2
theorem drawn {Q : Int → Hp → Prop} {m x : Int} {H' : Hp} (hm : 0 < m) (k : ∀ r : Nat, (r : Int) < m → Q (r : Nat) H') : Q (x % m) H' := by
  obtain ⟨r, e⟩ := Int.eq_ofNat_of_zero_le (Int.emod_nonneg x (Int.ne_of_gt hm))
  have := Int.emod_lt_of_pos x hm
  rw [e] at this ⊢
  exact k r this
theorem seedOk {y : Int} : -(2 ^ 64) < y % 2147483647 ∧ y % 2147483647 < 2 ^ 64 := by first | assumption | decide | omega
theorem dv64 : Dv 64 := Dv.small (by decide) (by decide)
end L2
set_option Elab.async false
set_option linter.all false
set_option maxRecDepth 100000
namespace L2
open PySem PySem.Spec PyProof.Rows
theorem and_nat (a b : Nat) : Builtin.bitAnd (a : Int) (b : Int) = ((a &&& b : Nat) : Int) := by
  unfold Builtin.bitAnd
  rw [decide_eq_true (Int.natCast_nonneg a), decide_eq_true (Int.natCast_nonneg b)]
  simp
theorem shr_nat (a k : Nat) : (a : Int) / 2 ^ ((k : Int).toNat) = ((a >>> k : Nat) : Int) := by
  rw [Int.toNat_natCast, Nat.shiftRight_eq_div_pow]
  exact (Int.natCast_ediv a (2 ^ k)).symm.trans (by norm_cast) |>.symm ▸ (by simp)
theorem bit_nat (a k : Nat) : Builtin.bitAnd ((a : Int) / 2 ^ ((k : Int).toNat)) 1 = if a.testBit k then 1 else 0 := by
  rw [shr_nat, show (1 : Int) = ((1 : Nat) : Int) from rfl, and_nat]
  have : (a >>> k) &&& 1 = (a.testBit k).toNat := by
    rw [Nat.and_one_is_mod, Nat.testBit]
    rw [Nat.one_and_eq_mod_two]
    rcases Nat.mod_two_eq_zero_or_one (a >>> k) with p | p <;> simp [p]
  rw [this]
  cases a.testBit k <;> rfl
theorem shl_nat (k : Nat) : (1 : Int) * (2 : Int) ^ ((k : Int).toNat) = ((1 <<< k : Nat) : Int) := by
  rw [Int.toNat_natCast, Nat.shiftLeft_eq, Int.one_mul, Nat.one_mul]
  simp
noncomputable def bitsN (n : Nat) : Nat := if n = 0 then 0 else n.log2 + 1
theorem bits_nat (n : Nat) : Builtin.Int.intBits (n : Int) = bitsN n := by
  unfold Builtin.Int.intBits bitsN
  by_cases h : n = 0
  · subst h; rfl
  · rw [if_neg (by simp; omega), if_neg h]; simp
noncomputable def givens (n : Nat) : List Nat := (List.range (bitsN n)).filter n.testBit
end L2
set_option Elab.async false
set_option linter.all false
namespace L2
open PySem PySem.Spec PyProof.Rows
noncomputable def spLaw (K : PySem.W.Frag) : Sp := fun vs H Q _ => ∃ (a : Addr) (ns : List Int), vs = [.ref a] ∧ SqL K H a (ns.map V.int) ∧ ns.length ≤ 63 ∧ ∀ H', Q (.bl true) H'
end L2
set_option Elab.async false
set_option linter.all false
set_option maxRecDepth 100000
namespace L2
open PySem PySem.Spec PyProof.Rows
theorem bt_len : bootBuiltins "len" = some (.builtin "len") := by decide +kernel
theorem bt_range : bootBuiltins "range" = some (.type "range") := by decide +kernel
theorem bt_isinstance : bootBuiltins "isinstance" = some (.builtin "isinstance") := by decide +kernel
theorem bt_list : bootBuiltins "list" = some (.type "list") := by decide +kernel
theorem bt_tuple : bootBuiltins "tuple" = some (.type "tuple") := by decide +kernel
theorem bt_max : bootBuiltins "max" = some (.builtin "max") := by decide +kernel
theorem bt_min : bootBuiltins "min" = some (.builtin "min") := by decide +kernel
section
variable {X : Cx} {a b e o : Expr} {es : List Expr} {ta tb te to : TE} {t : TA} {pos apos cpos : Pos} (K : PySem.W.Frag)
theorem pt_truthK (ha : PE X a ta) (he : ∀ whole, isTrue a X.env whole = (do let v ← whole; standAt a.pos; holding [v] (truthy v))) (hK : X.K = K := by rfl) :
    PT X a (fun σ H Q => ta σ H fun x H' => ∃ k, TruV K x H' k ∧ Q k H') := by subst hK; exact pt_truth ha he
theorem ix_seqK (hK : X.K = K := by rfl) : IxR X (rIx K) := by subst hK; exact ix_seq
theorem sl_listK (hK : X.K = K := by rfl) : SlR X (rSlL K) := by subst hK; exact sl_list
theorem call_lenK (hK : X.K = K := by rfl) : CallR X (.builtin "len") (fun xs H Q => ∃ p ys, xs = [.ref p] ∧ (SqL K H p ys ∨ SqT K H p ys) ∧ Q (.int ys.length) H) := by subst hK; exact call_len_seq
theorem call_listK (hK : X.K = K := by rfl) : CallR X (.type "list") (fun xs H Q => ∃ p ys, xs = [.ref p] ∧ (SqL K H p ys ∨ SqT K H p ys) ∧ ∀ l, H l = none → Q (.ref l) (upd H l (.lst ys))) := by subst hK; exact call_list_of
theorem call_tupleK (hK : X.K = K := by rfl) : CallR X (.type "tuple") (fun xs H Q => ∃ p ys, xs = [.ref p] ∧ ((SqL K H p ys ∧ ∀ l, H l = none → Q (.ref l) (upd H l (.tup ys))) ∨ (SqT K H p ys ∧ Q (.ref p) H))) := by subst hK; exact call_tuple_of
variable {name : Str} {T id : String} {r : V → List V → Hp → VK → Prop}
theorem pe_bm0K (pa : PlainAttrs T) (slot : Slot T name id) (hty : typeOf (.builtin id) = pure (.type "method_descriptor")) (hm : MtR X id r) (ho : PE X o to)
    (hbase : attributeBase o name X.env (eval o X.env) = eval o X.env := by rfl) (hline : (apos.endLine == cpos.line) = true := by rfl) (hK : X.K = K := by rfl) : PE X (.Call (.Attribute o name apos) [] [] cpos) (tBM0 K T r to) := by
  subst hK; exact pe_bm0 pa slot hty hm ho hbase hline
theorem pe_bmK (pa : PlainAttrs T) (slot : Slot T name id) (hty : typeOf (.builtin id) = pure (.type "method_descriptor")) (hm : MtR X id r) (ho : PE X o to) (ha : PA X (e :: es) t)
    (hbase : attributeBase o name X.env (eval o X.env) = eval o X.env := by rfl)
    (hfew : ((backTo cpos (starEach (e :: es) X.env)).all (fun x => !x.1) && (backToKw cpos (keywordEach [] X.env)).all (fun x => x.1.isSome) && decide ((e :: es).length + ([] : List Keyword).length + (if ([] : List Keyword).isEmpty then 0 else 1) < 30)) = true := by rfl)
    (hline : (apos.endLine == cpos.line) = true := by rfl) (he : starEach (e :: es) X.env = (false, eval e X.env) :: starEach es X.env := by rfl) (hpl : (backTo cpos (starEach es X.env)).any (·.1) = false := by rfl)
    (hK : X.K = K := by rfl) : PE X (.Call (.Attribute o name apos) (e :: es) [] cpos) (tBM K T r to t) := by
  subst hK
  exact pe_bm pa slot hty hm ho ha hbase hfew hline he hpl
end
end L2
set_option Elab.async false
set_option linter.all false
set_option maxRecDepth 100000
namespace L2
open PySem PySem.Spec PyProof.Rows
inductive D where
  | non | bl (b : Bool) | int (i : Int) | str (x : Str) | tup (ds : List D) | lst (ds : List D)
mutual
noncomputable def RepD (K : PySem.W.Frag) (H : Hp) : V → D → Prop
  | v, .non => v = .non
  | v, .bl b => v = .bl b
  | v, .int i => v = .int i
  | v, .str x => v = .str x
  | v, .tup ds => ∃ a vs, v = .ref a ∧ SqT K H a vs ∧ RepDs K H vs ds
  | v, .lst ds => ∃ a vs, v = .ref a ∧ SqL K H a vs ∧ RepDs K H vs ds
noncomputable def RepDs (K : PySem.W.Frag) (H : Hp) : List V → List D → Prop
  | [], [] => True
  | v :: vs, d :: ds => RepD K H v d ∧ RepDs K H vs ds
  | _, _ => False
end
mutual
noncomputable def eqD : D → D → Bool
  | .non, .non => true
  | .bl a, .bl b => a == b
  | .bl a, .int b => (if a then 1 else 0) == b
  | .int a, .bl b => a == (if b then 1 else 0)
  | .int a, .int b => a == b
  | .str a, .str b => a == b
  | .tup ds, .tup es => eqDs ds es
  | .lst ds, .lst es => eqDs ds es
  | _, _ => false
noncomputable def eqDs : List D → List D → Bool
  | [], [] => true
  | d :: ds, e :: es => eqD d e && eqDs ds es
  | _, _ => false
end
mutual
noncomputable def D.depth : D → Nat
  | .tup ds => depths ds + 1
  | .lst ds => depths ds + 1
  | _ => 0
noncomputable def depths : List D → Nat
  | [] => 0
  | d :: ds => max d.depth (depths ds)
end
section
variable {K : PySem.W.Frag} {H H' : Hp}
theorem RepDs.length : ∀ {vs : List V} {ds : List D}, RepDs K H vs ds → vs.length = ds.length
  | [], [], _ => rfl
  | v :: vs, d :: ds, h => by
    unfold RepDs at h
    rw [List.length_cons, List.length_cons, RepDs.length h.2]
  | [], d :: ds, h => by unfold RepDs at h; exact h.elim
  | v :: vs, [], h => by unfold RepDs at h; exact h.elim
theorem RepDs.get : ∀ {vs : List V} {ds : List D} {i : Nat} {d : D}, RepDs K H vs ds → ds[i]? = some d → ∃ v, vs[i]? = some v ∧ RepD K H v d
  | [], [], _, _, _, e => by simp at e
  | v :: vs, d :: ds, 0, _, h, e => by
    unfold RepDs at h
    simp at e; subst e
    exact ⟨v, rfl, h.1⟩
  | v :: vs, d :: ds, i + 1, _, h, e => by
    unfold RepDs at h
    obtain ⟨u, a, b⟩ := RepDs.get (i := i) h.2 (by simpa using e)
    exact ⟨u, by simpa using a, b⟩
  | [], d :: ds, _, _, h, _ => by unfold RepDs at h; exact h.elim
  | v :: vs, [], _, _, h, _ => by unfold RepDs at h; exact h.elim
theorem RepDs.getV : ∀ {vs : List V} {ds : List D} {i : Nat} {v : V}, RepDs K H vs ds → vs[i]? = some v → ∃ d, ds[i]? = some d ∧ RepD K H v d
  | [], [], _, _, _, e => by simp at e
  | v :: vs, d :: ds, 0, _, h, e => by
    unfold RepDs at h
    simp at e; subst e
    exact ⟨d, rfl, h.1⟩
  | v :: vs, d :: ds, i + 1, _, h, e => by
    unfold RepDs at h
    obtain ⟨u, a, b⟩ := RepDs.getV (i := i) h.2 (by simpa using e)
    exact ⟨u, by simpa using a, b⟩
  | [], d :: ds, _, _, h, _ => by unfold RepDs at h; exact h.elim
  | v :: vs, [], _, _, h, _ => by unfold RepDs at h; exact h.elim
theorem RepDs.append : ∀ {vs ws : List V} {ds es : List D}, RepDs K H vs ds → RepDs K H ws es → RepDs K H (vs ++ ws) (ds ++ es)
  | [], ws, [], es, _, h => h
  | v :: vs, ws, d :: ds, es, h, h' => by
    unfold RepDs at h
    show RepDs K H (v :: (vs ++ ws)) (d :: (ds ++ es))
    unfold RepDs
    exact ⟨h.1, RepDs.append h.2 h'⟩
  | [], _, d :: ds, _, h, _ => by unfold RepDs at h; exact h.elim
  | v :: vs, _, [], _, h, _ => by unfold RepDs at h; exact h.elim
theorem RepDs.one {v : V} {d : D} (h : RepD K H v d) : RepDs K H [v] [d] := by unfold RepDs; exact ⟨h, by unfold RepDs; trivial⟩
theorem RepDs.nil : RepDs K H [] [] := by unfold RepDs; trivial
theorem RepDs.cons {v : V} {d : D} {vs : List V} {ds : List D} (h : RepD K H v d) (t : RepDs K H vs ds) : RepDs K H (v :: vs) (d :: ds) := by unfold RepDs; exact ⟨h, t⟩
theorem repInts : ∀ {vs : List V} {ns : List Int}, RepDs K H vs (ns.map D.int) ↔ vs = ns.map V.int
  | [], [] => by simp [RepDs]
  | v :: vs, n :: ns => by
    have ih := @repInts vs ns
    rw [List.map_cons, List.map_cons]
    unfold RepDs RepD
    rw [ih]
    constructor
    · rintro ⟨rfl, rfl⟩; rfl
    · intro h; injection h with h1 h2; exact ⟨h1, h2⟩
  | [], n :: ns => by rw [List.map_cons]; unfold RepDs; simp
  | v :: vs, [] => by rw [List.map_nil]; unfold RepDs; simp
mutual
theorem RepD.keep (hl : ∀ a vs, SqL K H a vs → SqL K H' a vs) (ht : ∀ a vs, SqT K H a vs → SqT K H' a vs) : ∀ {v : V} {d : D}, RepD K H v d → RepD K H' v d
  | v, .non, h => by unfold RepD at h ⊢; exact h
  | v, .bl b, h => by unfold RepD at h ⊢; exact h
  | v, .int i, h => by unfold RepD at h ⊢; exact h
  | v, .str x, h => by unfold RepD at h ⊢; exact h
  | v, .tup ds, h => by
    unfold RepD at h ⊢
    obtain ⟨a, vs, e, h1, h2⟩ := h
    exact ⟨a, vs, e, ht _ _ h1, RepDs.keep hl ht h2⟩
  | v, .lst ds, h => by
    unfold RepD at h ⊢
    obtain ⟨a, vs, e, h1, h2⟩ := h
    exact ⟨a, vs, e, hl _ _ h1, RepDs.keep hl ht h2⟩
theorem RepDs.keep (hl : ∀ a vs, SqL K H a vs → SqL K H' a vs) (ht : ∀ a vs, SqT K H a vs → SqT K H' a vs) : ∀ {vs : List V} {ds : List D}, RepDs K H vs ds → RepDs K H' vs ds
  | [], [], _ => RepDs.nil
  | v :: vs, d :: ds, h => by
    unfold RepDs at h ⊢
    exact ⟨RepD.keep hl ht h.1, RepDs.keep hl ht h.2⟩
  | [], d :: ds, h => by unfold RepDs at h; exact h.elim
  | v :: vs, [], h => by unfold RepDs at h; exact h.elim
end
theorem RepD.same {v : V} {d : D} (h : RepD K H v d) (s : Same H H') : RepD K H' v d := h.keep (fun _ _ q => s.seq q) fun _ _ q => s.seqT q
theorem RepDs.same {vs : List V} {ds : List D} (h : RepDs K H vs ds) (s : Same H H') : RepDs K H' vs ds := h.keep (fun _ _ q => s.seq q) fun _ _ q => s.seqT q
end
mutual
theorem eqD_refl : ∀ d : D, eqD d d = true
  | .non => by simp [eqD]
  | .bl b => by simp [eqD]
  | .int i => by simp [eqD]
  | .str x => by simp [eqD]
  | .tup ds => by unfold eqD; exact eqDs_refl ds
  | .lst ds => by unfold eqD; exact eqDs_refl ds
theorem eqDs_refl : ∀ ds : List D, eqDs ds ds = true
  | [] => by simp [eqDs]
  | d :: ds => by unfold eqDs; rw [eqD_refl d, eqDs_refl ds]; rfl
end
section
variable {X : Cx} {pins : List (Addr × Obj)} {σ : St} {H : Hp} {s : Shared}
mutual
theorem repD_inj (I : Inv X pins σ H s) : ∀ {v : V} {d e : D}, RepD X.K H v d → RepD X.K H v e → d = e
  | v, .non, e, h, h' => by
    unfold RepD at h; subst h
    cases e <;> (unfold RepD at h'; first | rfl | (obtain ⟨_, _, z, _⟩ := h'; cases z) | cases h')
  | v, .bl b, e, h, h' => by
    unfold RepD at h; subst h
    cases e <;> (unfold RepD at h'; first | (cases h'; rfl) | (obtain ⟨_, _, z, _⟩ := h'; cases z) | cases h')
  | v, .int b, e, h, h' => by
    unfold RepD at h; subst h
    cases e <;> (unfold RepD at h'; first | (cases h'; rfl) | (obtain ⟨_, _, z, _⟩ := h'; cases z) | cases h')
  | v, .str b, e, h, h' => by
    unfold RepD at h; subst h
    cases e <;> (unfold RepD at h'; first | (cases h'; rfl) | (obtain ⟨_, _, z, _⟩ := h'; cases z) | cases h')
  | v, .tup ds, e, h, h' => by
    unfold RepD at h
    obtain ⟨a, vs, rfl, h1, h2⟩ := h
    cases e with
    | tup es =>
      unfold RepD at h'
      obtain ⟨b, ws, z, g1, g2⟩ := h'
      cases z
      rw [I.tuple_inj g1 h1] at g2
      rw [repDs_inj I h2 g2]
    | lst es =>
      unfold RepD at h'
      obtain ⟨b, ws, z, g1, g2⟩ := h'
      cases z
      obtain ⟨_, _, ⟨o, n, e1, c1, _⟩, _⟩ := I.list g1
      obtain ⟨_, _, ⟨o', e2, c2, _⟩, _⟩ := I.tuple h1
      rw [e1] at e2; cases e2
      rw [c1] at c2
      exact absurd c2 (by decide)
    | non => unfold RepD at h'; cases h'
    | bl _ => unfold RepD at h'; cases h'
    | int _ => unfold RepD at h'; cases h'
    | str _ => unfold RepD at h'; cases h'
  | v, .lst ds, e, h, h' => by
    unfold RepD at h
    obtain ⟨a, vs, rfl, h1, h2⟩ := h
    cases e with
    | lst es =>
      unfold RepD at h'
      obtain ⟨b, ws, z, g1, g2⟩ := h'
      cases z
      rw [I.list_inj g1 h1] at g2
      rw [repDs_inj I h2 g2]
    | tup es =>
      unfold RepD at h'
      obtain ⟨b, ws, z, g1, g2⟩ := h'
      cases z
      obtain ⟨_, _, ⟨o, n, e1, c1, _⟩, _⟩ := I.list h1
      obtain ⟨_, _, ⟨o', e2, c2, _⟩, _⟩ := I.tuple g1
      rw [e1] at e2; cases e2
      rw [c1] at c2
      exact absurd c2 (by decide)
    | non => unfold RepD at h'; cases h'
    | bl _ => unfold RepD at h'; cases h'
    | int _ => unfold RepD at h'; cases h'
    | str _ => unfold RepD at h'; cases h'
theorem repDs_inj (I : Inv X pins σ H s) : ∀ {vs : List V} {ds es : List D}, RepDs X.K H vs ds → RepDs X.K H vs es → ds = es
  | [], [], [], _, _ => rfl
  | v :: vs, d :: ds, e :: es, h, h' => by
    unfold RepDs at h h'
    rw [repD_inj I h.1 h'.1, repDs_inj I h.2 h'.2]
  | [], d :: ds, _, h, _ => by unfold RepDs at h; exact h.elim
  | v :: vs, [], _, h, _ => by unfold RepDs at h; exact h.elim
  | [], _, d :: ds, _, h => by unfold RepDs at h; exact h.elim
  | v :: vs, _, [], _, h => by unfold RepDs at h; exact h.elim
end
end
theorem in1_units (A : Around) : A.in1.units = A.units + 1 := rfl
theorem depths_get : ∀ {ds : List D} {j : Nat} {d : D}, ds[j]? = some d → d.depth ≤ depths ds
  | [], _, _, h => by simp at h
  | d :: ds, 0, _, h => by simp at h; subst h; unfold depths; omega
  | d :: ds, j + 1, e, h => by
    have := depths_get (ds := ds) (j := j) (by simpa using h)
    unfold depths; (clear h; omega)
noncomputable def eqAtI (ds es : List D) (j : Nat) : Bool := match ds[j]?, es[j]? with
  | some d, some e => eqD d e
  | _, _ => true
theorem eqDs_range : ∀ {ds es : List D}, ds.length = es.length → (List.range ds.length).all (eqAtI ds es) = eqDs ds es
  | [], [], _ => by simp [eqDs]
  | d :: ds, e :: es, h => by
    have ih := eqDs_range (ds := ds) (es := es) (by simpa using h)
    rw [List.length_cons, List.range_succ_eq_map, List.all_cons, List.all_map]
    unfold eqDs
    rw [← ih]
    congr 1
  | [], _ :: _, h => by simp at h
  | _ :: _, [], h => by simp at h
theorem eqDs_lengths : ∀ {ds es : List D}, ds.length ≠ es.length → eqDs ds es = false
  | [], [], h => absurd rfl h
  | [], _ :: _, _ => by simp [eqDs]
  | _ :: _, [], _ => by simp [eqDs]
  | d :: ds, e :: es, h => by
    unfold eqDs
    rw [eqDs_lengths (ds := ds) (es := es) (by simpa using h), Bool.and_false]
section
variable {X : Cx} {pins : List (Addr × Obj)} {σ : St} {H : Hp} {s : Shared}
theorem items_eq (I : Inv X pins σ H s) {m : Nat} (ih : ∀ {A : Around} {v u : V} {vv uu : Value} {d e : D}, d.depth ≤ m → A.units + m < cLine → RelV v vv → RelV u uu → RepD X.K H v d → RepD X.K H u e → SeqAt.EqAt A s vv uu (eqD d e)) {A : Around} (hu : A.units + m < cLine)
    {vs us : List V} {vvs uus : List Value} {ds es : List D} (hd : depths ds ≤ m) (rv : Vals vs vvs) (ru : Vals us uus) (hv : RepDs X.K H vs ds) (he : RepDs X.K H us es) :
    ∀ j (h1 : j < vvs.toArray.size) (h2 : j < uus.toArray.size), SeqAt.EqAt A s vvs.toArray[j] uus.toArray[j] (eqAtI ds es j) := by
  intro j h1 h2
  rw [List.size_toArray] at h1 h2
  have l1 := rv.length
  have l2 := ru.length
  have g1 : vs[j]? = some vs[j] := List.getElem?_eq_getElem (by first | assumption | decide | (clear l2 h2 hd hu; omega))
  have g2 : us[j]? = some us[j] := List.getElem?_eq_getElem (by first | assumption | decide | (clear g1 l1 h1 hd hu; omega))
  obtain ⟨x, ex, rx⟩ := rv.get g1
  obtain ⟨y, ey, ry⟩ := ru.get g2
  obtain ⟨d, ed, rd⟩ := hv.getV g1
  obtain ⟨e, ee, re⟩ := he.getV g2
  rw [List.getElem?_eq_getElem h1] at ex
  rw [List.getElem?_eq_getElem h2] at ey
  cases ex
  cases ey
  have : eqAtI ds es j = eqD d e := by unfold eqAtI; rw [ed, ee]
  rw [this, List.getElem_toArray, List.getElem_toArray]
  exact ih (Nat.le_trans (depths_get ed) hd) hu rx ry rd re
theorem rcStep (I : Inv X pins σ H s) (n : Nat) (ih : 0 < n → ∀ {A : Around} {v u : V} {vv uu : Value} {d e : D}, d.depth ≤ n - 1 → A.units + (n - 1) < cLine → RelV v vv → RelV u uu → RepD X.K H v d → RepD X.K H u e → SeqAt.EqAt A s vv uu (eqD d e))
    {A : Around} {v u : V} {vv uu : Value} {d e : D} (hd : d.depth ≤ n) (hu : A.units + n < cLine) (rv : RelV v vv) (ru : RelV u uu) (hv : RepD X.K H v d) (he : RepD X.K H u e) : SeqAt.RcAt A s vv uu (eqD d e) ∧ SeqAt.EqAt A s vv uu (eqD d e) := by
  have hu0 : A.units < cLine := by first | assumption | decide | omega
  have isL : ∀ {a xs}, SqL X.K H a xs → ∃ its : List Value, Vals xs its ∧ s.heap.IsList a its.toArray := fun q => by
    obtain ⟨its, r, p, _⟩ := I.list q
    exact ⟨its, r, p.isList⟩
  have isT : ∀ {a xs}, SqT X.K H a xs → ∃ its : List Value, Vals xs its ∧ s.heap.IsTuple a its.toArray := fun q => by
    obtain ⟨its, r, p, _⟩ := I.tuple q
    exact ⟨its, r, p⟩
  cases d with
  | non =>
    unfold RepD at hv; subst hv; cases rv
    cases e with
    | non => unfold RepD at he; subst he; cases ru; exact ⟨.none_none, .same _⟩
    | bl b => unfold RepD at he; subst he; cases ru; exact ⟨.none_bool _, .none_bool _⟩
    | int b => unfold RepD at he; subst he; obtain ⟨t, rfl⟩ := ru; exact ⟨.none_int _ _, .none_int _ _⟩
    | str b => unfold RepD at he; subst he; obtain ⟨t, rfl⟩ := ru; exact ⟨.none_str _ _, .none_str _ _⟩
    | tup es => unfold RepD at he; obtain ⟨a, vs, rfl, q, _⟩ := he; cases ru; obtain ⟨its, _, q⟩ := isT q; exact ⟨.none_tuple q hu0, .none_tuple q hu0⟩
    | lst es => unfold RepD at he; obtain ⟨a, vs, rfl, q, _⟩ := he; cases ru; obtain ⟨its, _, q⟩ := isL q; exact ⟨.none_list q hu0, .none_list q hu0⟩
  | bl x =>
    unfold RepD at hv; subst hv; cases rv
    cases e with
    | non => unfold RepD at he; subst he; cases ru; exact ⟨.bool_none _, .bool_none _⟩
    | bl b => unfold RepD at he; subst he; cases ru; exact ⟨.bool_bool _ _, .bool_bool _ _⟩
    | int b => unfold RepD at he; subst he; obtain ⟨t, rfl⟩ := ru; exact ⟨.bool_int _ _ _, .bool_int _ _ _⟩
    | str b => unfold RepD at he; subst he; obtain ⟨t, rfl⟩ := ru; exact ⟨.bool_str _ _ _, .bool_str _ _ _⟩
    | tup es => unfold RepD at he; obtain ⟨a, vs, rfl, q, _⟩ := he; cases ru; obtain ⟨its, _, q⟩ := isT q; exact ⟨.bool_tuple _ q hu0, .bool_tuple _ q hu0⟩
    | lst es => unfold RepD at he; obtain ⟨a, vs, rfl, q, _⟩ := he; cases ru; obtain ⟨its, _, q⟩ := isL q; exact ⟨.bool_list _ q hu0, .bool_list _ q hu0⟩
  | int x =>
    unfold RepD at hv; subst hv; obtain ⟨t0, rfl⟩ := rv
    cases e with
    | non => unfold RepD at he; subst he; cases ru; exact ⟨.int_none _ _, .int_none _ _⟩
    | bl b => unfold RepD at he; subst he; cases ru; exact ⟨.int_bool _ _ _, .int_bool _ _ _⟩
    | int b => unfold RepD at he; subst he; obtain ⟨t, rfl⟩ := ru; exact ⟨.int_int _ _ _ _, .int_int _ _ _ _⟩
    | str b => unfold RepD at he; subst he; obtain ⟨t, rfl⟩ := ru; exact ⟨.int_str _ _ _ _, .int_str _ _ _ _⟩
    | tup es => unfold RepD at he; obtain ⟨a, vs, rfl, q, _⟩ := he; cases ru; obtain ⟨its, _, q⟩ := isT q; exact ⟨.int_tuple _ _ q hu0, .int_tuple _ _ q hu0⟩
    | lst es => unfold RepD at he; obtain ⟨a, vs, rfl, q, _⟩ := he; cases ru; obtain ⟨its, _, q⟩ := isL q; exact ⟨.int_list _ _ q hu0, .int_list _ _ q hu0⟩
  | str x =>
    unfold RepD at hv; subst hv; obtain ⟨t0, rfl⟩ := rv
    cases e with
    | non => unfold RepD at he; subst he; cases ru; exact ⟨.str_none _ _, .str_none _ _⟩
    | bl b => unfold RepD at he; subst he; cases ru; exact ⟨.str_bool _ _ _, .str_bool _ _ _⟩
    | int b => unfold RepD at he; subst he; obtain ⟨t, rfl⟩ := ru; exact ⟨.str_int _ _ _ _, .str_int _ _ _ _⟩
    | str b => unfold RepD at he; subst he; obtain ⟨t, rfl⟩ := ru; exact ⟨.str_str _ _ _ _, .str_str _ _ _ _⟩
    | tup es => unfold RepD at he; obtain ⟨a, vs, rfl, q, _⟩ := he; cases ru; obtain ⟨its, _, q⟩ := isT q; exact ⟨.str_tuple _ _ q hu0, .str_tuple _ _ q hu0⟩
    | lst es => unfold RepD at he; obtain ⟨a, vs, rfl, q, _⟩ := he; cases ru; obtain ⟨its, _, q⟩ := isL q; exact ⟨.str_list _ _ q hu0, .str_list _ _ q hu0⟩
  | tup ds =>
    have hv0 := hv
    unfold RepD at hv
    obtain ⟨a, vs, rfl, q, hq⟩ := hv
    cases rv
    obtain ⟨its, r1, q1⟩ := isT q
    cases e with
    | non => unfold RepD at he; subst he; cases ru; exact ⟨.tuple_none q1 hu0, .tuple_none q1 hu0⟩
    | bl b => unfold RepD at he; subst he; cases ru; exact ⟨.tuple_bool _ q1 hu0, .tuple_bool _ q1 hu0⟩
    | int b => unfold RepD at he; subst he; obtain ⟨t, rfl⟩ := ru; exact ⟨.tuple_int _ _ q1 hu0, .tuple_int _ _ q1 hu0⟩
    | str b => unfold RepD at he; subst he; obtain ⟨t, rfl⟩ := ru; exact ⟨.tuple_str _ _ q1 hu0, .tuple_str _ _ q1 hu0⟩
    | lst es => unfold RepD at he; obtain ⟨b, ws, rfl, g, _⟩ := he; cases ru; obtain ⟨its2, _, g1⟩ := isL g; exact ⟨.tuple_list q1 g1 hu0, .tuple_list q1 g1 hu0⟩
    | tup es =>
      have he0 := he
      unfold RepD at he
      obtain ⟨b, ws, rfl, g, hg⟩ := he
      cases ru
      obtain ⟨its2, r2, g1⟩ := isT g
      have hd' : depths ds + 1 ≤ n := by simpa [D.depth] using hd
      have l1 := r1.length
      have l2 := r2.length
      have m1 := hq.length
      have m2 := hg.length
      have rc : SeqAt.RcAt A s (.ref a) (.ref b) (eqD (.tup ds) (.tup es)) := by
        have := SeqAt.RcAt.tuples (e := eqAtI ds es) q1 g1 hu0 (items_eq I (fun {A} {v} {u} {vv} {uu} {d} {e} => ih (by first | assumption | decide | (clear m2 m1 l2 l1 hd hu0 hu; omega)) (A := A)) (A := A.in1) (by rw [in1_units]; (clear m2 m1 l2 l1 hd hu0; omega)) (m := n - 1) (by first | assumption | decide | (clear m2 m1 l2 l1 hd hu0 hu; omega)) r1 r2 hq hg)
        rw [List.size_toArray, List.size_toArray] at this
        unfold eqD
        by_cases hl : ds.length = es.length
        · have z : (its.length == its2.length) = true := by rw [beq_iff_eq]; (clear hd' hd hu0 hu; omega)
          have mm : min its.length its2.length = ds.length := by first | assumption | decide | (clear z hd' hd hu0 hu; omega)
          rw [z, Bool.and_true, mm, eqDs_range hl] at this
          exact this
        · have z : (its.length == its2.length) = false := by rw [beq_eq_false_iff_ne]; (clear hd' hd hu0 hu; omega)
          rw [z, Bool.and_false] at this
          rw [eqDs_lengths hl]
          exact this
      refine ⟨rc, ?_⟩
      by_cases hab : a = b
      · subst hab
        rw [repD_inj I hv0 he0, eqD_refl]
        exact .same _
      · exact .of_refs hab rc
  | lst ds =>
    have hv0 := hv
    unfold RepD at hv
    obtain ⟨a, vs, rfl, q, hq⟩ := hv
    cases rv
    obtain ⟨its, r1, q1⟩ := isL q
    cases e with
    | non => unfold RepD at he; subst he; cases ru; exact ⟨.list_none q1 hu0, .list_none q1 hu0⟩
    | bl b => unfold RepD at he; subst he; cases ru; exact ⟨.list_bool _ q1 hu0, .list_bool _ q1 hu0⟩
    | int b => unfold RepD at he; subst he; obtain ⟨t, rfl⟩ := ru; exact ⟨.list_int _ _ q1 hu0, .list_int _ _ q1 hu0⟩
    | str b => unfold RepD at he; subst he; obtain ⟨t, rfl⟩ := ru; exact ⟨.list_str _ _ q1 hu0, .list_str _ _ q1 hu0⟩
    | tup es => unfold RepD at he; obtain ⟨b, ws, rfl, g, _⟩ := he; cases ru; obtain ⟨its2, _, g1⟩ := isT g; exact ⟨.list_tuple q1 g1 hu0, .list_tuple q1 g1 hu0⟩
    | lst es =>
      have he0 := he
      unfold RepD at he
      obtain ⟨b, ws, rfl, g, hg⟩ := he
      cases ru
      obtain ⟨its2, r2, g1⟩ := isL g
      have hd' : depths ds + 1 ≤ n := by simpa [D.depth] using hd
      have l1 := r1.length
      have l2 := r2.length
      have m1 := hq.length
      have m2 := hg.length
      have rc : SeqAt.RcAt A s (.ref a) (.ref b) (eqD (.lst ds) (.lst es)) := by
        unfold eqD
        by_cases hl : ds.length = es.length
        · have := SeqAt.RcAt.lists (e := eqAtI ds es) q1 g1 (by rw [List.size_toArray, List.size_toArray]; (clear hd' hd hu0 hu; omega)) hu0 (items_eq I (fun {A} {v} {u} {vv} {uu} {d} {e} => ih (by first | assumption | decide | (clear hl m2 m1 l2 l1 hd hu0 hu; omega)) (A := A)) (A := A.in1) (by rw [in1_units]; (clear hl m2 m1 l2 l1 hd hu0; omega)) (m := n - 1) (by first | assumption | decide | (clear hl m2 m1 l2 l1 hd hu0 hu; omega)) r1 r2 hq hg)
          rw [List.size_toArray, show its.length = ds.length by first | assumption | decide | (clear hl m2 l2 hd' hd hu0 hu; omega), eqDs_range hl] at this
          exact this
        · rw [eqDs_lengths hl]
          exact SeqAt.RcAt.lists_lengths q1 g1 (by rw [List.size_toArray, List.size_toArray, bne_iff_ne]; (clear hd' hd hu0 hu; omega)) hu0
      refine ⟨rc, ?_⟩
      by_cases hab : a = b
      · subst hab
        rw [repD_inj I hv0 he0, eqD_refl]
        exact .same _
      · exact .of_refs hab rc
theorem rcAt_D (I : Inv X pins σ H s) : ∀ (n : Nat) {A : Around} {v u : V} {vv uu : Value} {d e : D}, d.depth ≤ n → A.units + n < cLine → RelV v vv → RelV u uu → RepD X.K H v d → RepD X.K H u e →
    SeqAt.RcAt A s vv uu (eqD d e) ∧ SeqAt.EqAt A s vv uu (eqD d e) := by
  intro n
  induction n with
  | zero => exact fun hd hu => rcStep I 0 (fun hlt => absurd hlt (by first | assumption | decide | omega)) hd hu
  | succ n ih => exact fun hd hu => rcStep I (n + 1) (fun _ A v u vv uu d e h1 h2 h3 h4 h5 h6 => (ih (A := A) h1 h2 h3 h4 h5 h6).2) hd hu
end
end L2
set_option Elab.async false
set_option linter.all false
set_option maxRecDepth 100000
namespace L2
open PySem PySem.Spec PyProof.Rows
section
variable {X : Cx} (K : PySem.W.Frag)
noncomputable def rEqD (K : PySem.W.Frag) : R2 := fun x y H Q => ∃ d e, RepD K H x d ∧ RepD K H y e ∧ d.depth ≤ 60 ∧ Q (.bl (eqD d e)) H
noncomputable def rNeD (K : PySem.W.Frag) : R2 := fun x y H Q => ∃ d e, RepD K H x d ∧ RepD K H y e ∧ d.depth ≤ 60 ∧ Q (.bl (!eqD d e)) H
theorem op_eqD (hu : X.A.units + 64 < cLine) (hK : X.K = K := by rfl) : OpR X (compareOp .Eq) (rEqD K) := by
  subst hK
  intro pins s σ H x y v u Q I rx ry h
  obtain ⟨d, e, hd, he, hz, q⟩ := h
  exact (rcAt_D I 60 hz (by first | assumption | decide | (clear hz; omega)) rx ry hd he).1 X.prog X.w _ _ ⟨.bl _, H, I, rfl, q⟩
theorem rcne_D {pins : List (Addr × Obj)} {σ : St} {H : Hp} {s : Shared} (I : Inv X pins σ H s) {A : Around} {v u : V} {vv uu : Value} {d e : D} (hd : d.depth ≤ 60) (hu : A.units + 61 < cLine) (rv : RelV v vv) (ru : RelV u uu) (hv : RepD X.K H v d) (he : RepD X.K H u e) :
    SeqAt.RcNeAt A s vv uu (!eqD d e) := by
  have hu0 : A.units < cLine := by first | assumption | decide | (clear hd; omega)
  have isL : ∀ {a xs}, SqL X.K H a xs → ∃ its : List Value, Vals xs its ∧ s.heap.IsList a its.toArray := fun q => by
    obtain ⟨its, r, p, _⟩ := I.list q
    exact ⟨its, r, p.isList⟩
  have isT : ∀ {a xs}, SqT X.K H a xs → ∃ its : List Value, Vals xs its ∧ s.heap.IsTuple a its.toArray := fun q => by
    obtain ⟨its, r, p, _⟩ := I.tuple q
    exact ⟨its, r, p⟩
  cases d with
  | non =>
    unfold RepD at hv; subst hv; cases rv
    cases e with
    | non => unfold RepD at he; subst he; cases ru; exact .none_none
    | bl b => unfold RepD at he; subst he; cases ru; exact .none_bool _
    | int b => unfold RepD at he; subst he; obtain ⟨t, rfl⟩ := ru; exact .none_int _ _
    | str b => unfold RepD at he; subst he; obtain ⟨t, rfl⟩ := ru; exact .none_str _ _
    | tup es => unfold RepD at he; obtain ⟨a, vs, rfl, q, _⟩ := he; cases ru; obtain ⟨its, _, q⟩ := isT q; exact .none_tuple q hu0
    | lst es => unfold RepD at he; obtain ⟨a, vs, rfl, q, _⟩ := he; cases ru; obtain ⟨its, _, q⟩ := isL q; exact .none_list q hu0
  | bl x =>
    unfold RepD at hv; subst hv; cases rv
    cases e with
    | non => unfold RepD at he; subst he; cases ru; exact .bool_none _
    | bl b => unfold RepD at he; subst he; cases ru; exact .bool_bool _ _
    | int b => unfold RepD at he; subst he; obtain ⟨t, rfl⟩ := ru; exact .bool_int _ _ _
    | str b => unfold RepD at he; subst he; obtain ⟨t, rfl⟩ := ru; exact .bool_str _ _ _
    | tup es => unfold RepD at he; obtain ⟨a, vs, rfl, q, _⟩ := he; cases ru; obtain ⟨its, _, q⟩ := isT q; exact .bool_tuple _ q hu0
    | lst es => unfold RepD at he; obtain ⟨a, vs, rfl, q, _⟩ := he; cases ru; obtain ⟨its, _, q⟩ := isL q; exact .bool_list _ q hu0
  | int x =>
    unfold RepD at hv; subst hv; obtain ⟨t0, rfl⟩ := rv
    cases e with
    | non => unfold RepD at he; subst he; cases ru; exact .int_none _ _
    | bl b => unfold RepD at he; subst he; cases ru; exact .int_bool _ _ _
    | int b => unfold RepD at he; subst he; obtain ⟨t, rfl⟩ := ru; exact .int_int _ _ _ _
    | str b => unfold RepD at he; subst he; obtain ⟨t, rfl⟩ := ru; exact .int_str _ _ _ _
    | tup es => unfold RepD at he; obtain ⟨a, vs, rfl, q, _⟩ := he; cases ru; obtain ⟨its, _, q⟩ := isT q; exact .int_tuple _ _ q hu0
    | lst es => unfold RepD at he; obtain ⟨a, vs, rfl, q, _⟩ := he; cases ru; obtain ⟨its, _, q⟩ := isL q; exact .int_list _ _ q hu0
  | str x =>
    unfold RepD at hv; subst hv; obtain ⟨t0, rfl⟩ := rv
    cases e with
    | non => unfold RepD at he; subst he; cases ru; exact .str_none _ _
    | bl b => unfold RepD at he; subst he; cases ru; exact .str_bool _ _ _
    | int b => unfold RepD at he; subst he; obtain ⟨t, rfl⟩ := ru; exact .str_int _ _ _ _
    | str b => unfold RepD at he; subst he; obtain ⟨t, rfl⟩ := ru; exact .str_str _ _ _ _
    | tup es => unfold RepD at he; obtain ⟨a, vs, rfl, q, _⟩ := he; cases ru; obtain ⟨its, _, q⟩ := isT q; exact .str_tuple _ _ q hu0
    | lst es => unfold RepD at he; obtain ⟨a, vs, rfl, q, _⟩ := he; cases ru; obtain ⟨its, _, q⟩ := isL q; exact .str_list _ _ q hu0
  | tup ds =>
    unfold RepD at hv
    obtain ⟨a, vs, rfl, q, hq⟩ := hv
    cases rv
    obtain ⟨its, r1, q1⟩ := isT q
    cases e with
    | non => unfold RepD at he; subst he; cases ru; exact .tuple_none q1 hu0
    | bl b => unfold RepD at he; subst he; cases ru; exact .tuple_bool _ q1 hu0
    | int b => unfold RepD at he; subst he; obtain ⟨t, rfl⟩ := ru; exact .tuple_int _ _ q1 hu0
    | str b => unfold RepD at he; subst he; obtain ⟨t, rfl⟩ := ru; exact .tuple_str _ _ q1 hu0
    | lst es => unfold RepD at he; obtain ⟨b, ws, rfl, g, _⟩ := he; cases ru; obtain ⟨its2, _, g1⟩ := isL g; exact .tuple_list q1 g1 hu0
    | tup es =>
      unfold RepD at he
      obtain ⟨b, ws, rfl, g, hg⟩ := he
      cases ru
      obtain ⟨its2, r2, g1⟩ := isT g
      have hd' : depths ds + 1 ≤ 60 := by simpa [D.depth] using hd
      have l1 := r1.length
      have l2 := r2.length
      have m1 := hq.length
      have m2 := hg.length
      have := SeqAt.RcNeAt.tuples (e := eqAtI ds es) q1 g1 hu0 (items_eq I (fun {A} {v} {u} {vv} {uu} {d} {e} a1 a2 a3 a4 a5 a6 => (rcAt_D I 60 a1 a2 a3 a4 a5 a6).2) (A := A.in1) (by rw [in1_units]; (clear m2 m1 l2 l1 hd' hd hu0; omega)) (m := 60) (by first | assumption | decide | (clear m2 m1 l2 l1 hd hu0 hu; omega)) r1 r2 hq hg)
      rw [List.size_toArray, List.size_toArray] at this
      unfold eqD
      by_cases hl : ds.length = es.length
      · have z : (its.length == its2.length) = true := by rw [beq_iff_eq]; (clear hd' hd hu0 hu; omega)
        have mm : min its.length its2.length = ds.length := by first | assumption | decide | (clear z hd' hd hu0 hu; omega)
        rw [z, Bool.and_true, mm, eqDs_range hl] at this
        exact this
      · have z : (its.length == its2.length) = false := by rw [beq_eq_false_iff_ne]; (clear hd' hd hu0 hu; omega)
        rw [z, Bool.and_false] at this
        rw [eqDs_lengths hl]
        exact this
  | lst ds =>
    unfold RepD at hv
    obtain ⟨a, vs, rfl, q, hq⟩ := hv
    cases rv
    obtain ⟨its, r1, q1⟩ := isL q
    cases e with
    | non => unfold RepD at he; subst he; cases ru; exact .list_none q1 hu0
    | bl b => unfold RepD at he; subst he; cases ru; exact .list_bool _ q1 hu0
    | int b => unfold RepD at he; subst he; obtain ⟨t, rfl⟩ := ru; exact .list_int _ _ q1 hu0
    | str b => unfold RepD at he; subst he; obtain ⟨t, rfl⟩ := ru; exact .list_str _ _ q1 hu0
    | tup es => unfold RepD at he; obtain ⟨b, ws, rfl, g, _⟩ := he; cases ru; obtain ⟨its2, _, g1⟩ := isT g; exact .list_tuple q1 g1 hu0
    | lst es =>
      unfold RepD at he
      obtain ⟨b, ws, rfl, g, hg⟩ := he
      cases ru
      obtain ⟨its2, r2, g1⟩ := isL g
      have hd' : depths ds + 1 ≤ 60 := by simpa [D.depth] using hd
      have l1 := r1.length
      have l2 := r2.length
      have m1 := hq.length
      have m2 := hg.length
      unfold eqD
      by_cases hl : ds.length = es.length
      · have := SeqAt.RcNeAt.lists (e := eqAtI ds es) q1 g1 (by rw [List.size_toArray, List.size_toArray]; (clear hd' hd hu0 hu; omega)) hu0 (items_eq I (fun {A} {v} {u} {vv} {uu} {d} {e} a1 a2 a3 a4 a5 a6 => (rcAt_D I 60 a1 a2 a3 a4 a5 a6).2) (A := A.in1) (by rw [in1_units]; (clear hl m2 m1 l2 l1 hd' hd hu0; omega)) (m := 60) (by first | assumption | decide | (clear hl m2 m1 l2 l1 hd hu0 hu; omega)) r1 r2 hq hg)
        rw [List.size_toArray, show its.length = ds.length by first | assumption | decide | (clear hl m2 l2 hd' hd hu0 hu; omega), eqDs_range hl] at this
        exact this
      · rw [eqDs_lengths hl]
        exact SeqAt.RcNeAt.lists_lengths q1 g1 (by rw [List.size_toArray, List.size_toArray, bne_iff_ne]; (clear hd' hd hu0 hu; omega)) hu0
theorem op_neD (hu : X.A.units + 64 < cLine) (hK : X.K = K := by rfl) : OpR X (compareOp .NotEq) (rNeD K) := by
  subst hK
  intro pins s σ H x y v u Q I rx ry h
  obtain ⟨d, e, hd, he, hz, q⟩ := h
  exact rcne_D I hz (by first | assumption | decide | (clear hz; omega)) rx ry hd he X.prog X.w _ _ ⟨.bl _, H, I, rfl, q⟩
end
end L2
set_option Elab.async false
set_option linter.all false
set_option maxRecDepth 100000
namespace L2
open PySem PySem.Spec PyProof.Rows
noncomputable abbrev natsV (ks : List Nat) : List V := ks.map fun j => V.int (j : Nat)
noncomputable abbrev natsD (ks : List Nat) : List D := ks.map fun j => D.int (j : Nat)
theorem repNats {K : PySem.W.Frag} {H : Hp} : ∀ {vs : List V} {ks : List Nat}, RepDs K H vs (natsD ks) ↔ vs = natsV ks := by
  intro vs ks
  have := @repInts K H vs (ks.map fun j => ((j : Nat) : Int))
  rw [List.map_map, List.map_map] at this
  exact this
end L2
set_option Elab.async false
set_option linter.all false
namespace L2
open PySem PySem.Spec PyProof.Rows
end L2
set_option Elab.async false
set_option linter.all false
set_option maxRecDepth 100000
namespace L2
open PySem PySem.Spec PyProof.Rows
section
variable {X : Cx}
theorem call_rangeO : CallR X (.type "range") (fun xs H Q => ∃ j : Int, xs = [.int j] ∧ ∀ p, H p = none → Q (.ref p) (upd H p (.rng 0 j))) := by
  intro pins s σ H xs us Q I r h
  obtain ⟨j, rfl, q⟩ := h
  obtain ⟨u, rfl, t, rfl⟩ := vals1 r
  refine call_range_1 ?_
  exact ⟨.ref s.heap.objs.size, upd H s.heap.objs.size (.rng 0 j), I.laid (fun b u e => Heap.get?_push_of_some _ e) (Nat.le_refl _) ⟨_, _, _, Heap.get?_push_size _ rfl⟩, rfl, q _ (I.hok.fresh (Nat.le_refl _))⟩
theorem call_listR (hc : X.calm = true) : CallR X (.type "list") (fun xs H Q => ∃ (p : Addr) (n : Nat), xs = [.ref p] ∧ H p = some (.rng 0 (n : Nat)) ∧ n ≤ 1000000 ∧ ∀ l, H l = none → Q (.ref l) (upd H l (.lst (natsV (List.range n))))) := by
  intro pins s σ H xs us Q I r h
  obtain ⟨p, n, rfl, hp, hn, q⟩ := h
  obtain ⟨u, rfl, ru⟩ := vals1 r
  cases ru
  obtain ⟨t, u, v, e⟩ := (show ObjOk X.prog X.w H s.heap p (.rng 0 (n : Nat)) from I.hok p _ hp)
  have hsz : Builtin.Range.rangeSize 0 (n : Int) 1 = (n : Nat) := by rw [rangeSize_one]; split <;> (clear e hp hc; omega)
  refine call_list_range (I.ok.hd hc) (show IsRange s.heap p 0 n 1 t u v from e) (small_one (by first | assumption | decide | omega) (by first | assumption | decide | omega) (by first | assumption | decide | (clear e hp hc; omega)) (by first | assumption | decide | (clear e hp hc; omega))) hsz (Nat.le_trans hn (by decide)) fun h' tk acc c hk hl hi => ?_
  have hv : Vals (natsV (List.range n)) acc.toList := by
    obtain ⟨h1, h2⟩ := hi
    have gen : ∀ (m : Nat) (us : List Value), us.length = m → (∀ (i : Nat) (v : Value), us[i]? = some v → ∃ t, v = Value.int (0 + (i : Int) * 1) t) → Vals (natsV (List.range m)) us := by
      intro m
      induction m with
      | zero => intro us e _; cases us with | nil => exact .nil | cons _ _ => cases e
      | succ m ih =>
        intro us e hx
        have e1 : us = us.take m ++ [us[m]] := by
          rw [List.take_append_getElem]
          exact (List.take_of_length_le (by first | assumption | decide | (clear h1 hl hsz hn hp hc; omega))).symm
        rw [e1, List.range_succ]
        unfold natsV
        rw [List.map_append]
        refine Vals.append (ih _ (by rw [List.length_take]; (clear e1 h1 hl hsz hn hp hc; omega)) fun i v hv => ?_) ?_
        · rw [List.getElem?_take] at hv
          split at hv
          · exact hx i v hv
          · cases hv
        · obtain ⟨t, ht⟩ := hx m us[m] (List.getElem?_eq_getElem (by first | assumption | decide | (clear e1 h1 hl hsz hn hp hc; omega)))
          rw [ht]
          exact .cons ⟨t, by simp⟩ .nil
    refine gen n acc.toList (by simpa using h1) fun i v hv => ?_
    have hv' : acc[i]? = some v := by simpa using hv
    exact h2 i v hv'
  refine ⟨.ref s.heap.objs.size, upd H s.heap.objs.size (.lst (natsV (List.range n))), I.laid (t' := tk) (fun b o e => hk b o e) (Nat.le_refl _) ?_, rfl, q _ (I.hok.fresh (Nat.le_refl _))⟩
  refine ⟨?_, acc.toList, c, hv, by simpa using hl⟩
  rw [List.length_map, List.length_range]
  exact Nat.le_trans hn (by decide)
end
end L2
set_option Elab.async false
set_option linter.all false
namespace L2
open PySem PySem.Spec PyProof.Rows
end L2
set_option Elab.async false
set_option linter.all false
set_option maxRecDepth 100000
namespace L2
open PySem PySem.Spec PyProof.Rows
section
variable {X : Cx}
theorem op_isB : OpR X (compareOp .Is) (fun x y H Q => ∃ a b, x = .bl a ∧ y = .bl b ∧ Q (.bl (a == b)) H) := by
  intro pins s σ H x y v u Q I rx ry h
  obtain ⟨a, b, rfl, rfl, q⟩ := h
  cases rx
  cases ry
  refine wpAny_is_plain rfl (fin_bl I q ?_)
  cases a <;> cases b <;> rfl
theorem pe_gc {x : Str} {v : V} {pos : Pos} (h : ∃ u, X.mg x = some u ∧ RelV v u) (hg : Gl X x) (hd : (x == ("__debug__" : Str)) = false := by decide) : PE X (.Name x pos) (tC v) := by
  obtain ⟨u, hm, r⟩ := h
  exact pe_glob hg hm r hd
end
structure Net where
  m : Nat
  js : List (Nat × Nat)
  os : List Nat
noncomputable abbrev pairD (p : Nat × Nat) : D := .tup [.int (p.1 : Nat), .int (p.2 : Nat)]
noncomputable def netD (N : Net) : D := .tup [.int (N.m : Nat), .tup (N.js.map pairD), .tup (natsD N.os)]
section
variable {K : PySem.W.Frag} {H H' : Hp}
end
end L2
set_option Elab.async false
set_option linter.all false
set_option maxRecDepth 100000
namespace L2
open PySem PySem.Spec PyProof.Rows
section
variable {K : PySem.W.Frag} {H H' : Hp}
end
end L2
set_option Elab.async false
set_option linter.all false
set_option maxRecDepth 100000
namespace L2
open PySem PySem.Spec PyProof.Rows
inductive Sv where
  | un | vl (d : D) | ow (ds : List D) | tp (n : Nat) | dk (kvs : List (Key × D)) | dt (kvs : List (List Key × D)) | ex (C : Addr) (fs : Option (List (Str × D)))
noncomputable def Sv.own : Sv → Bool
  | .ow _ => true
  | .tp _ => true
  | .dk _ => true
  | .dt _ => true
  | _ => false
noncomputable abbrev En := List Sv
inductive R where
  | d (d : D) | o (i : Nat) | n (s : Sv) | t (n : String)
noncomputable abbrev R.f (ds : List D) : R := .n (.ow ds)
noncomputable def gt : En → Nat → Sv
  | [], _ => .un
  | s :: _, 0 => s
  | _ :: r, n + 1 => gt r n
noncomputable def pt : En → Nat → Sv → En
  | [], _, _ => []
  | _ :: r, 0, s => s :: r
  | x :: r, n + 1, s => x :: pt r n s
theorem pt_len : ∀ (ρ : En) (i : Nat) (s : Sv), (pt ρ i s).length = ρ.length
  | [], _, _ => rfl
  | _ :: _, 0, _ => rfl
  | x :: r, n + 1, s => by simp [pt, pt_len r n s]
theorem gt_pt_ne : ∀ (ρ : En) (i j : Nat) (s : Sv), i ≠ j → gt (pt ρ i s) j = gt ρ j
  | [], _, _, _, _ => rfl
  | _ :: _, 0, 0, _, h => absurd rfl h
  | _ :: _, 0, j + 1, _, _ => rfl
  | x :: r, i + 1, 0, s, _ => rfl
  | x :: r, i + 1, j + 1, s, h => gt_pt_ne r i j s (by first | assumption | decide | omega)
theorem gt_pt : ∀ (ρ : En) (i : Nat) (s : Sv), i < ρ.length → gt (pt ρ i s) i = s
  | [], _, _, h => by simp at h
  | _ :: _, 0, _, _ => rfl
  | x :: r, i + 1, s, h => gt_pt r i s (by simpa using h)
theorem gt_out : ∀ (ρ : En) (i : Nat), ρ.length ≤ i → gt ρ i = .un
  | [], _, _ => rfl
  | x :: r, 0, h => by simp at h
  | x :: r, i + 1, h => gt_out r i (by simpa using h)
theorem own_lt {ρ : En} {i : Nat} (h : (gt ρ i).own = true) : i < ρ.length := by
  rcases Nat.lt_or_ge i ρ.length with q | q
  · exact q
  · rw [gt_out ρ i q] at h; cases h
noncomputable def owned (σ : St) (ρ : En) (a : Addr) : Prop := ∃ i, (gt ρ i).own = true ∧ σ[i]? = some (some (.ref a))
open Classical in
noncomputable def hid (H : Hp) (S : Addr → Prop) : Hp := fun a => if S a then none else H a
theorem hid_some {H : Hp} {S : Addr → Prop} {a : Addr} {o : HO} : hid H S a = some o ↔ ¬ S a ∧ H a = some o := by
  unfold hid
  split
  · rename_i h; simp [h]
  · rename_i h; simp [h]
theorem hid_of {H : Hp} {S : Addr → Prop} {a : Addr} {o : HO} (h : ¬ S a) (e : H a = some o) : hid H S a = some o := hid_some.mpr ⟨h, e⟩
theorem hid_same {H H' : Hp} {S S' : Addr → Prop} (h : ∀ a o, H a = some o → ¬ S a → H' a = some o ∧ ¬ S' a) : Same (hid H S) (hid H' S') := fun a o e => by
  obtain ⟨n, e⟩ := hid_some.mp e
  obtain ⟨e', n'⟩ := h a o e n
  exact hid_of n' e'
theorem hid_sub {H : Hp} {S : Addr → Prop} : Same (hid H S) H := fun a o e => (hid_some.mp e).2
structure Fr where
  H0 : Hp
  Z : Addr → Prop
  M : Addr → Prop
  I : Nat → Addr → Prop
  P : Nat → Addr → Prop
noncomputable def Fr.pin (F : Fr) (i : Nat) (a : Addr) : Prop := F.I i a ∨ F.P i a
noncomputable def hs (F : Fr) (σ : St) (ρ : En) : Addr → Prop := fun a => F.Z a ∨ owned σ ρ a
noncomputable def exP (e C : Addr) (od : Option Addr) : Heap → Prop := fun h => ∃ oe vs, h.get? e = some oe ∧ oe.cls = .ref C ∧ oe.dict = od ∧ oe.data = .fields vs
noncomputable def exD (K : PySem.W.Frag) (Hh : Hp) : Option (List (Str × D)) → Option Addr → Prop
  | none, none => True
  | some fs, some dx => ∃ ks, Hh dx = some (.xd ks) ∧ ks.map Prod.fst = fs.map Prod.fst ∧ RepDs K Hh (ks.map Prod.snd) (fs.map Prod.snd)
  | _, _ => False
theorem exD.same {K : PySem.W.Frag} {Hh Hh' : Hp} : ∀ {fs : Option (List (Str × D))} {od : Option Addr}, exD K Hh fs od → Same Hh Hh' → exD K Hh' fs od
  | none, none, h, _ => h
  | some fs, some dx, ⟨ks, h1, h2, h3⟩, g => ⟨ks, g _ _ h1, h2, h3.same g⟩
  | none, some _, h, _ => h.elim
  | some _, none, h, _ => h.elim
noncomputable def SvOk (K : PySem.W.Frag) (Hh H : Hp) (v : Option (Option V)) : Sv → Prop
  | .ex C fs => ∃ e od, v = some (some (.ref e)) ∧ Hh e = some (.ext (exP e C od)) ∧ exD K Hh fs od
  | .un => True
  | .vl d => ∃ x, v = some (some x) ∧ RepD K Hh x d
  | .ow ds => ∃ l vs, v = some (some (.ref l)) ∧ H l = some (.lst vs) ∧ RepDs K Hh vs ds
  | .tp n => ∃ t c ns sp lf, v = some (some (.ref t)) ∧ H t = some (.dK (tapeK c sp lf)) ∧ SqL K Hh c (List.map V.int ns) ∧ 0 ≤ sp ∧ sp ≤ n ∧ 0 ≤ lf
  | .dk kvs => ∃ t ks, v = some (some (.ref t)) ∧ H t = some (.dK ks) ∧ ks.map Prod.fst = kvs.map Prod.fst ∧ RepDs K Hh (ks.map Prod.snd) (kvs.map Prod.snd)
  | .dt kvs => ∃ t ks, v = some (some (.ref t)) ∧ H t = some (.dT ks) ∧ ks.map Prod.fst = kvs.map Prod.fst ∧ RepDs K Hh (ks.map Prod.snd) (kvs.map Prod.snd)
theorem SvOk.keep {K : PySem.W.Frag} {Hh Hh' H H' : Hp} {v : Option (Option V)} {s : Sv} (h : SvOk K Hh H v s) (g : Same Hh Hh') (k : ∀ l o, s.own = true → v = some (some (.ref l)) → H l = some o → H' l = some o) : SvOk K Hh' H' v s := by
  cases s with
  | un => trivial
  | vl d => obtain ⟨x, e, r⟩ := h; exact ⟨x, e, r.same g⟩
  | ow ds => obtain ⟨l, vs, e, a, r⟩ := h; exact ⟨l, vs, e, k _ _ rfl e a, r.same g⟩
  | tp n => obtain ⟨t, c, ns, sp, lf, e, a, b, r⟩ := h; exact ⟨t, c, ns, sp, lf, e, k _ _ rfl e a, g.seq b, r⟩
  | dk kvs => obtain ⟨t, ks, e, a, b, r⟩ := h; exact ⟨t, ks, e, k _ _ rfl e a, b, r.same g⟩
  | dt kvs => obtain ⟨t, ks, e, a, b, r⟩ := h; exact ⟨t, ks, e, k _ _ rfl e a, b, r.same g⟩
  | ex C fs => obtain ⟨t, od, e, a, b⟩ := h; exact ⟨t, od, e, g _ _ a, b.same g⟩
theorem SvOk.alive {K : PySem.W.Frag} {Hh H : Hp} {v : Option (Option V)} {s : Sv} (h : SvOk K Hh H v s) (ho : s.own = true) : ∃ l o, v = some (some (.ref l)) ∧ H l = some o := by
  cases s with
  | un => cases ho
  | vl d => cases ho
  | ow ds => obtain ⟨l, vs, e, a, r⟩ := h; exact ⟨l, _, e, a⟩
  | tp n => obtain ⟨t, c, ns, sp, lf, e, a, b, r⟩ := h; exact ⟨t, _, e, a⟩
  | dk kvs => obtain ⟨t, ks, e, a, b, r⟩ := h; exact ⟨t, _, e, a⟩
  | dt kvs => obtain ⟨t, ks, e, a, b, r⟩ := h; exact ⟨t, _, e, a⟩
  | ex C fs => cases ho
structure Rel (K : PySem.W.Frag) (F : Fr) (σ : St) (ρ : En) (H : Hp) : Prop where
  len : σ.length = ρ.length
  fr : ∀ a o, F.H0 a = some o → ¬ F.M a → H a = some o
  zl : ∀ a, F.Z a → H a ≠ none
  zo : ∀ a, owned σ ρ a → ¬ F.Z a
  ow : ∀ i a, (gt ρ i).own = true → σ[i]? = some (some (.ref a)) → (F.I i a ∧ F.M a) ∨ F.H0 a = none
  mi : ∀ i a, F.pin i a → σ[i]? = some (some (.ref a))
  ml : ∀ a, F.M a → F.H0 a ≠ none
  ma : ∀ a, F.M a → H a ≠ none
  nd : ∀ i j a, (gt ρ i).own = true → (gt ρ j).own = true → σ[i]? = some (some (.ref a)) → σ[j]? = some (some (.ref a)) → i = j
  sl : ∀ i, SvOk K (hid H (hs F σ ρ)) H σ[i]? (gt ρ i)
structure Kp (σ : St) (ρ ρ' : En) (H H' : Hp) : Prop where
  st : ∀ a o, H a = some o → ¬ owned σ ρ a → H' a = some o
  sb : ∀ i, (gt ρ' i).own = true → (gt ρ i).own = true
theorem Kp.so {σ : St} {ρ ρ' : En} {H H' : Hp} (k : Kp σ ρ ρ' H H') {a : Addr} (h : owned σ ρ' a) : owned σ ρ a := by
  obtain ⟨i, hi, e⟩ := h
  exact ⟨i, k.sb i hi, e⟩
theorem Kp.refl {σ : St} {ρ : En} {H : Hp} : Kp σ ρ ρ H H := ⟨fun _ _ e _ => e, fun _ h => h⟩
theorem Kp.trans {σ : St} {ρ ρ1 ρ2 : En} {H H1 H2 : Hp} (a : Kp σ ρ ρ1 H H1) (b : Kp σ ρ1 ρ2 H1 H2) : Kp σ ρ ρ2 H H2 :=
  ⟨fun x o e n => b.st x o (a.st x o e n) fun z => n (a.so z), fun x z => a.sb x (b.sb x z)⟩
theorem Kp.fresh {σ : St} {ρ : En} {H : Hp} {l : Addr} {o : HO} (h : H l = none) : Kp σ ρ ρ H (upd H l o) :=
  ⟨fun a u e _ => by rw [upd_ne (ne_of_none e h)]; exact e, fun _ h => h⟩
section
variable {K : PySem.W.Frag} {F : Fr} {σ : St} {ρ ρ' : En} {H H' : Hp}
theorem owned_alive (r : Rel K F σ ρ H) {a : Addr} (h : owned σ ρ a) : H a ≠ none := by
  obtain ⟨i, hi, e⟩ := h
  obtain ⟨l, o, e', h'⟩ := (r.sl i).alive hi
  rw [e] at e'; injection e' with e'; injection e' with e'; injection e' with e'
  rw [e', h']; exact fun z => nomatch z
theorem hs_alive (r : Rel K F σ ρ H) {a : Addr} (h : hs F σ ρ a) : H a ≠ none := by
  rcases h with h | h
  · exact r.zl a h
  · exact owned_alive r h
theorem fresh_vis (r : Rel K F σ ρ H) {l : Addr} (h : H l = none) : ¬ hs F σ ρ l := fun z => hs_alive r z h
theorem fresh_H0 (r : Rel K F σ ρ H) {l : Addr} (h : H l = none) : F.H0 l = none := by
  cases h0 : F.H0 l with
  | none => rfl
  | some o =>
    by_cases q : F.M l
    · exact absurd h (r.ma l q)
    · have := r.fr l o h0 q
      rw [h] at this; cases this
theorem Kp.vis (k : Kp σ ρ ρ' H H') : Same (hid H (hs F σ ρ)) (hid H' (hs F σ ρ')) := hid_same fun a o e n =>
  ⟨k.st a o e fun z => n (.inr z), fun z => by
    rcases z with z | z
    · exact n (.inl z)
    · exact n (.inr (k.so z))⟩
theorem grow_alive {a : Addr} (g : Same H H') (h : H a ≠ none) : H' a ≠ none := fun e => by
  cases h' : H a with
  | none => exact h h'
  | some o => rw [g a o h'] at e; cases e
theorem Rel.grow (r : Rel K F σ ρ H) (g : Same H H') : Rel K F σ ρ H' where
  len := r.len
  fr := fun a o e n => g a o (r.fr a o e n)
  zl := fun a z => grow_alive g (r.zl a z)
  zo := r.zo
  ow := r.ow
  mi := r.mi
  ml := r.ml
  ma := fun a z => grow_alive g (r.ma a z)
  nd := r.nd
  sl := fun i => (r.sl i).keep (hid_same fun a o e n => ⟨g a o e, n⟩) fun l o _ _ e => g l o e
theorem Rel.fresh (r : Rel K F σ ρ H) {l : Addr} {o : HO} (h : H l = none) : Rel K F σ ρ (upd H l o) := r.grow ((Same.refl H).new h)
theorem pt_out : ∀ (ρ : En) (i : Nat) (s : Sv), ρ.length ≤ i → pt ρ i s = ρ
  | [], _, _, _ => rfl
  | x :: r, 0, s, h => by simp at h
  | x :: r, i + 1, s, h => by simp [pt, pt_out r i s (by simpa using h)]
theorem own_set {i j : Nat} {s : Sv} (hs : s.own = false) (hj : (gt (pt ρ i s) j).own = true) : i ≠ j ∧ (gt ρ j).own = true := by
  by_cases ij : i = j
  · subst ij
    rcases Nat.lt_or_ge i ρ.length with q | q
    · rw [gt_pt ρ i s q, hs] at hj; cases hj
    · rw [gt_out _ i (by rw [pt_len]; exact q)] at hj; cases hj
  · rw [gt_pt_ne ρ i j s ij] at hj
    exact ⟨ij, hj⟩
theorem Rel.setS (r : Rel K F σ ρ H) {i : Nat} {v : V} {s : Sv} (hs' : s.own = false) (hd : SvOk K (hid H (hs F σ ρ)) H (some (some v)) s) (hm : ∀ a, ¬ F.pin i a) : Rel K F (σ.set i (some v)) (pt ρ i s) H := by
  rcases Nat.lt_or_ge i ρ.length with hi | hi
  case inr =>
    rw [pt_out ρ i s hi, List.set_eq_of_length_le (by rw [r.len]; exact hi)]; exact r
  have sub : ∀ a, owned (σ.set i (some v)) (pt ρ i s) a → owned σ ρ a := fun a ⟨j, hj, e⟩ => by
    obtain ⟨ij, hj⟩ := own_set hs' hj
    rw [List.getElem?_set_ne ij] at e
    exact ⟨j, hj, e⟩
  have vis : Same (hid H (hs F σ ρ)) (hid H (hs F (σ.set i (some v)) (pt ρ i s))) := hid_same fun a o e n => ⟨e, fun z => n (z.imp id (sub a))⟩
  refine ⟨by rw [List.length_set, pt_len, r.len], r.fr, r.zl, fun a h => r.zo a (sub a h), fun j a hj e => ?_, fun j a h => ?_, r.ml, r.ma, fun j k a hj hk ej ek => ?_, fun j => ?_⟩
  · obtain ⟨ij, hj⟩ := own_set hs' hj
    rw [List.getElem?_set_ne ij] at e
    exact r.ow j a hj e
  · have : i ≠ j := fun e => hm a (e ▸ h)
    rw [List.getElem?_set_ne this]; exact r.mi j a h
  · obtain ⟨nj, hj⟩ := own_set hs' hj
    obtain ⟨nk, hk⟩ := own_set hs' hk
    rw [List.getElem?_set_ne nj] at ej
    rw [List.getElem?_set_ne nk] at ek
    exact r.nd j k a hj hk ej ek
  · by_cases ij : i = j
    · subst ij
      rw [gt_pt ρ i _ hi, List.getElem?_set_self (by rw [r.len]; exact hi)]
      exact hd.keep vis fun l o ho => by rw [hs'] at ho; cases ho
    · rw [gt_pt_ne ρ i j _ ij, List.getElem?_set_ne ij]
      exact (r.sl j).keep vis fun l o _ _ e => e
theorem Rel.set (r : Rel K F σ ρ H) {i : Nat} {v : V} {d : D} (hd : RepD K (hid H (hs F σ ρ)) v d) (hm : ∀ a, ¬ F.pin i a) : Rel K F (σ.set i (some v)) (pt ρ i (.vl d)) H :=
  r.setS rfl ⟨v, rfl, hd⟩ hm
theorem Rel.setF (r : Rel K F σ ρ H) {i : Nat} {l : Addr} {o : HO} {s : Sv} (hs' : s.own = true) (hd : SvOk K (hid H (hs F σ ρ)) (upd H l o) (some (some (.ref l))) s) (hn : H l = none) (hm : ∀ a, ¬ F.pin i a) :
    Rel K F (σ.set i (some (.ref l))) (pt ρ i s) (upd H l o) := by
  have rf := r.fresh (o := o) hn
  rcases Nat.lt_or_ge i ρ.length with hi | hi
  case inr =>
    rw [pt_out ρ i s hi, List.set_eq_of_length_le (by rw [r.len]; exact hi)]; exact rf
  have at1 : ∀ {a}, (σ.set i (some (V.ref l)))[i]? = some (some (.ref a)) → a = l := fun e => by
    rw [List.getElem?_set_self (by rw [r.len]; exact hi)] at e
    injection e with e; injection e with e; injection e with e
    exact e.symm
  have sub : ∀ a, owned (σ.set i (some (.ref l))) (pt ρ i s) a → owned σ ρ a ∨ a = l := fun a h => by
    obtain ⟨j, hj, e⟩ := h
    by_cases ij : i = j
    · subst ij; exact .inr (at1 e)
    · rw [gt_pt_ne ρ i j _ ij] at hj
      rw [List.getElem?_set_ne ij] at e
      exact .inl ⟨j, hj, e⟩
  have vis : Same (hid H (hs F σ ρ)) (hid (upd H l o) (hs F (σ.set i (some (.ref l))) (pt ρ i s))) := hid_same fun a u e n => by
    have al := ne_of_none e hn
    refine ⟨by rw [upd_ne al]; exact e, fun z => ?_⟩
    rcases z with z | z
    · exact n (.inl z)
    · rcases sub a z with z | z
      · exact n (.inr z)
      · exact al z
  have nol : ∀ j, (gt ρ j).own = true → σ[j]? ≠ some (some (.ref l)) := fun j hj e => owned_alive r ⟨j, hj, e⟩ hn
  refine ⟨by rw [List.length_set, pt_len, r.len], rf.fr, rf.zl, fun a h => ?_, fun j a hj e => ?_, fun j a h => ?_, r.ml, rf.ma, fun j k a hj hk ej ek => ?_, fun j => ?_⟩
  · rcases sub a h with h | h
    · exact r.zo a h
    · subst h; exact fun z => r.zl _ z hn
  · by_cases ij : i = j
    · subst ij
      rw [at1 e]; exact .inr (fresh_H0 r hn)
    · rw [gt_pt_ne ρ i j _ ij] at hj
      rw [List.getElem?_set_ne ij] at e
      exact r.ow j a hj e
  · have : i ≠ j := fun e => hm a (e ▸ h)
    rw [List.getElem?_set_ne this]; exact r.mi j a h
  · by_cases nj : i = j
    · by_cases nk : i = k
      · (clear ek ej hk hj hi hn hs'; omega)
      · subst nj
        have := at1 ej
        subst this
        rw [gt_pt_ne ρ i k _ nk] at hk
        rw [List.getElem?_set_ne nk] at ek
        exact absurd ek (nol k hk)
    · rw [gt_pt_ne ρ i j _ nj] at hj
      rw [List.getElem?_set_ne nj] at ej
      by_cases nk : i = k
      · subst nk
        have := at1 ek
        subst this
        exact absurd ej (nol j hj)
      · rw [gt_pt_ne ρ i k _ nk] at hk
        rw [List.getElem?_set_ne nk] at ek
        exact r.nd j k a hj hk ej ek
  · by_cases ij : i = j
    · subst ij
      rw [gt_pt ρ i _ hi, List.getElem?_set_self (by rw [r.len]; exact hi)]
      exact hd.keep vis fun _ _ _ _ e => e
    · rw [gt_pt_ne ρ i j _ ij, List.getElem?_set_ne ij]
      exact (r.sl j).keep vis fun a o ho e h => by
        rw [upd_ne (ne_of_none h hn)]; exact h
theorem Rel.write (r : Rel K F σ ρ H) {i : Nat} {l : Addr} {o : HO} {s : Sv} (hi : (gt ρ i).own = true) (el : σ[i]? = some (some (.ref l))) (hs' : s.own = true) (new : SvOk K (hid H (hs F σ ρ)) (upd H l o) (some (some (.ref l))) s) : Rel K F σ (pt ρ i s) (upd H l o) ∧ Kp σ ρ (pt ρ i s) H (upd H l o) := by
  have lt := own_lt hi
  have own' : ∀ j, (gt (pt ρ i s) j).own = true → (gt ρ j).own = true := fun j h => by
    by_cases ij : i = j
    · subst ij; exact hi
    · rw [gt_pt_ne ρ i j _ ij] at h; exact h
  have sub : ∀ a, owned σ (pt ρ i s) a → owned σ ρ a := fun a ⟨j, hj, e⟩ => ⟨j, own' j hj, e⟩
  have hso : owned σ ρ l := ⟨i, hi, el⟩
  have vis : Same (hid H (hs F σ ρ)) (hid (upd H l o) (hs F σ (pt ρ i s))) := hid_same fun a u e n => by
    have al : a ≠ l := fun z => n (.inr (z ▸ hso))
    exact ⟨by rw [upd_ne al]; exact e, fun z => n (z.imp id (sub a))⟩
  have up : ∀ {a}, H a ≠ none → (upd H l o) a ≠ none := fun {a} h e => by
    by_cases al : a = l
    · subst al; rw [upd_same] at e; cases e
    · rw [upd_ne al] at e; exact h e
  refine ⟨⟨by rw [pt_len, r.len], fun a u e n => ?_, fun a z => up (r.zl a z), fun a h => r.zo a (sub a h), fun j a hj e => r.ow j a (own' j hj) e, r.mi, r.ml, fun a z => up (r.ma a z), fun j k a hj hk ej ek => r.nd j k a (own' j hj) (own' k hk) ej ek, fun j => ?_⟩, ⟨fun a u e n => ?_, own'⟩⟩
  · have al : a ≠ l := fun z => by
      subst z
      rcases r.ow i _ hi el with ⟨_, q⟩ | q
      · exact n q
      · rw [e] at q; cases q
    rw [upd_ne al]; exact r.fr a u e n
  · by_cases ij : i = j
    · subst ij
      rw [gt_pt ρ i s lt, el]
      exact new.keep vis fun _ _ _ _ e => e
    · rw [gt_pt_ne ρ i j _ ij]
      refine (r.sl j).keep vis fun a u ho e h => ?_
      have al : a ≠ l := fun z => ij (r.nd i j l hi ho el (z ▸ e))
      rw [upd_ne al]; exact h
  · have al : a ≠ l := fun z => n (z ▸ hso)
    rw [upd_ne al]; exact e
theorem Rel.frz (r : Rel K F σ ρ H) {i : Nat} {ds : List D} (hi : gt ρ i = .ow ds) : ∃ l, σ[i]? = some (some (.ref l)) ∧ Rel K F σ (pt ρ i (.vl (.lst ds))) H ∧ Kp σ ρ (pt ρ i (.vl (.lst ds))) H H ∧ RepD K (hid H (hs F σ (pt ρ i (.vl (.lst ds))))) (.ref l) (.lst ds) := by
  have ho : (gt ρ i).own = true := by rw [hi]; rfl
  have lt := own_lt ho
  have q := r.sl i
  rw [hi] at q
  obtain ⟨l, vs, el, hl, hd⟩ := q
  have own' : ∀ j, (gt (pt ρ i (.vl (.lst ds))) j).own = true → i ≠ j ∧ (gt ρ j).own = true := fun j h => own_set rfl h
  have sub : ∀ a, owned σ (pt ρ i (.vl (.lst ds))) a → owned σ ρ a ∧ a ≠ l := fun a ⟨j, hj, e⟩ => by
    obtain ⟨ij, hj⟩ := own' j hj
    exact ⟨⟨j, hj, e⟩, fun z => ij (r.nd i j l ho hj el (z ▸ e))⟩
  have vis : Same (hid H (hs F σ ρ)) (hid H (hs F σ (pt ρ i (.vl (.lst ds))))) := hid_same fun a u e n => ⟨e, fun z => n (z.imp id fun z => (sub a z).1)⟩
  have vl : ¬ hs F σ (pt ρ i (.vl (.lst ds))) l := fun z => by
    rcases z with z | z
    · exact r.zo l ⟨i, ho, el⟩ z
    · exact (sub l z).2 rfl
  have rd : RepD K (hid H (hs F σ (pt ρ i (.vl (.lst ds))))) (.ref l) (.lst ds) := by
    unfold RepD
    exact ⟨l, vs, rfl, SqL.of (hid_of vl hl), hd.same vis⟩
  refine ⟨l, el, ⟨by rw [pt_len, r.len], r.fr, r.zl, fun a h => r.zo a (sub a h).1, fun j a hj e => r.ow j a (own' j hj).2 e, r.mi, r.ml, r.ma, fun j k a hj hk ej ek => r.nd j k a (own' j hj).2 (own' k hk).2 ej ek, fun j => ?_⟩, ⟨fun _ _ e _ => e, fun j h => (own' j h).2⟩, rd⟩
  by_cases ij : i = j
  · subst ij
    rw [gt_pt ρ i _ lt, el]
    exact ⟨_, rfl, rd⟩
  · rw [gt_pt_ne ρ i j _ ij]
    exact (r.sl j).keep vis fun a u _ _ h => h
end
end L2
set_option Elab.async false
set_option linter.all false
set_option maxRecDepth 100000
namespace L2
open PySem PySem.Spec PyProof.Rows
noncomputable def RelR (K : PySem.W.Frag) (F : Fr) (σ : St) (ρ : En) (v : V) (H : Hp) : R → Prop
  | .d d => Rel K F σ ρ H ∧ RepD K (hid H (hs F σ ρ)) v d
  | .o i => Rel K F σ ρ H ∧ σ[i]? = some (some v)
  | .n s => ∃ Hb l o, Rel K F σ ρ Hb ∧ s.own = true ∧ SvOk K (hid Hb (hs F σ ρ)) (upd Hb l o) (some (some (.ref l))) s ∧ Hb l = none ∧ H = upd Hb l o ∧ v = .ref l
  | .t n => Rel K F σ ρ H ∧ v = .ty n
noncomputable def Out (K : PySem.W.Frag) (F : Fr) (σ : St) (ρ : En) (H : Hp) (ρ' : En) (v : V) (H' : Hp) : R → Prop
  | .d d => Rel K F σ ρ' H' ∧ Kp σ ρ ρ' H H' ∧ RepD K (hid H' (hs F σ ρ')) v d
  | .o i => Rel K F σ ρ' H' ∧ Kp σ ρ ρ' H H' ∧ σ[i]? = some (some v)
  | .n s => ∃ Hb l o, Rel K F σ ρ' Hb ∧ Kp σ ρ ρ' H Hb ∧ s.own = true ∧ SvOk K (hid Hb (hs F σ ρ')) (upd Hb l o) (some (some (.ref l))) s ∧ Hb l = none ∧ H' = upd Hb l o ∧ v = .ref l
  | .t n => Rel K F σ ρ' H' ∧ Kp σ ρ ρ' H H' ∧ v = .ty n
noncomputable def InF (K : PySem.W.Frag) (F : Fr) (σ : St) (ρ : En) (H : Hp) (v : V) : R → Prop
  | .d d => RepD K (hid H (hs F σ ρ)) v d
  | .o i => σ[i]? = some (some v)
  | .n _ => True
  | .t n => v = .ty n
noncomputable def R.frz : R → R
  | .n (.ow ds) => .d (.lst ds)
  | r => r
inductive InFs (K : PySem.W.Frag) (F : Fr) (σ : St) (ρ : En) (H : Hp) : List V → List R → Prop
  | nil : InFs K F σ ρ H [] []
  | cons {v : V} {r : R} {vs : List V} {rs : List R} : InF K F σ ρ H v r → InFs K F σ ρ H vs rs → InFs K F σ ρ H (v :: vs) (r :: rs)
noncomputable def view (ρ : En) : R → Option D
  | .d d => some d
  | .o i => (match gt ρ i with | .ow ds => some (.lst ds) | .vl d => some d | _ => none)
  | _ => none
section
variable {K : PySem.W.Frag} {F : Fr} {σ : St} {ρ ρ' : En} {H H' : Hp} {v : V} {r : R}
theorem InF.keep (h : InF K F σ ρ H v r) (k : Kp σ ρ ρ' H H') : InF K F σ ρ' H' v r := by
  cases r with
  | d d => exact RepD.same h k.vis
  | o i => exact h
  | n s => exact h
  | t n => exact h
theorem InFs.keep {vs : List V} {rs : List R} (h : InFs K F σ ρ H vs rs) (k : Kp σ ρ ρ' H H') : InFs K F σ ρ' H' vs rs := by
  induction h with
  | nil => exact .nil
  | cons a _ ih => exact .cons (a.keep k) ih
theorem Out.inF (h : Out K F σ ρ H ρ' v H' r) : Rel K F σ ρ' H' ∧ Kp σ ρ ρ' H H' ∧ InF K F σ ρ' H' v r.frz := by
  cases r with
  | d d => exact ⟨h.1, h.2.1, h.2.2⟩
  | o i => exact ⟨h.1, h.2.1, h.2.2⟩
  | t n => exact ⟨h.1, h.2.1, h.2.2⟩
  | n s =>
    obtain ⟨Hb, l, o, a, k0, hs', b, c, rfl, rfl⟩ := h
    have k : Kp σ ρ' ρ' Hb (upd Hb l o) := Kp.fresh c
    refine ⟨a.fresh c, k0.trans k, ?_⟩
    cases s with
    | un => trivial
    | vl d => trivial
    | tp n => trivial
    | dk n => trivial
    | dt n => trivial
    | ex n m => trivial
    | ow ds =>
      obtain ⟨l', vs, e, h1, h2⟩ := b
      injection e with e; injection e with e; injection e with e; subst e
      show RepD K _ (.ref l) (.lst ds)
      unfold RepD
      exact ⟨l, vs, rfl, SqL.of (hid_of (fresh_vis a c) h1), h2.same k.vis⟩
theorem Out.rel (h : Out K F σ ρ H ρ' v H' r) : RelR K F σ ρ' v H' r := by
  cases r with
  | d d => exact ⟨h.1, h.2.2⟩
  | o i => exact ⟨h.1, h.2.2⟩
  | t n => exact ⟨h.1, h.2.2⟩
  | n s =>
    obtain ⟨Hb, l, o, a, k0, hs', b, c, e1, e2⟩ := h
    exact ⟨Hb, l, o, a, hs', b, c, e1, e2⟩
theorem Out.after {ρ1 : En} {H1 : Hp} (k : Kp σ ρ ρ1 H H1) (h : Out K F σ ρ1 H1 ρ' v H' r) : Out K F σ ρ H ρ' v H' r := by
  cases r with
  | d d => exact ⟨h.1, k.trans h.2.1, h.2.2⟩
  | o i => exact ⟨h.1, k.trans h.2.1, h.2.2⟩
  | t n => exact ⟨h.1, k.trans h.2.1, h.2.2⟩
  | n s =>
    obtain ⟨Hb, l, o, a, k0, hs', b, c, e1, e2⟩ := h
    exact ⟨Hb, l, o, a, k.trans k0, hs', b, c, e1, e2⟩
theorem view_rep {d : D} (a : Rel K F σ ρ H) (h : InF K F σ ρ H v r) (e : view ρ r = some d) : RepD K H v d := by
  cases r with
  | d d' => injection e with e; subst e; exact RepD.same h hid_sub
  | t n => cases e
  | n s => cases e
  | o i =>
    have q := a.sl i
    unfold view at e
    cases hg : gt ρ i with
    | un => simp [hg] at e
    | tp n => simp [hg] at e
    | dk n => simp [hg] at e
    | dt n => simp [hg] at e
    | ex n m => simp [hg] at e
    | vl d' =>
      simp [hg] at e
      subst e
      rw [hg] at q
      obtain ⟨x, e1, r1⟩ := q
      rw [show σ[i]? = _ from h] at e1
      injection e1 with e1; injection e1 with e1; subst e1
      exact r1.same hid_sub
    | ow ds =>
      simp [hg] at e
      subst e
      rw [hg] at q
      obtain ⟨l, vs, e1, r1, r2⟩ := q
      rw [show σ[i]? = _ from h] at e1
      injection e1 with e1; injection e1 with e1; subst e1
      unfold RepD
      exact ⟨l, vs, rfl, SqL.of r1, r2.same hid_sub⟩
theorem view_lst {ds : List D} (a : Rel K F σ ρ H) (h : InF K F σ ρ H v r) (e : view ρ r = some (.lst ds)) : ∃ l vs, v = .ref l ∧ SqL K H l vs ∧ RepDs K (hid H (hs F σ ρ)) vs ds := by
  cases r with
  | d d' =>
    injection e with e; subst e
    have h' : RepD K _ v (.lst ds) := h
    unfold RepD at h'
    obtain ⟨l, vs, e, q, r⟩ := h'
    exact ⟨l, vs, e, hid_sub.seq q, r⟩
  | t n => cases e
  | n s => cases e
  | o i =>
    have q := a.sl i
    unfold view at e
    cases hg : gt ρ i with
    | un => simp [hg] at e
    | tp n => simp [hg] at e
    | dk n => simp [hg] at e
    | dt n => simp [hg] at e
    | ex n m => simp [hg] at e
    | vl d' =>
      simp [hg] at e
      subst e
      rw [hg] at q
      obtain ⟨x, e1, r1⟩ := q
      rw [show σ[i]? = _ from h] at e1
      injection e1 with e1; injection e1 with e1; subst e1
      unfold RepD at r1
      obtain ⟨l, vs, e, q, r⟩ := r1
      exact ⟨l, vs, e, hid_sub.seq q, r⟩
    | ow ds =>
      simp [hg] at e
      subst e
      rw [hg] at q
      obtain ⟨l, vs, e1, r1, r2⟩ := q
      rw [show σ[i]? = _ from h] at e1
      injection e1 with e1; injection e1 with e1; subst e1
      exact ⟨l, vs, rfl, SqL.of r1, r2⟩
theorem view_tup {ds : List D} (a : Rel K F σ ρ H) (h : InF K F σ ρ H v r) (e : view ρ r = some (.tup ds)) : ∃ l vs, v = .ref l ∧ SqT K H l vs ∧ RepDs K (hid H (hs F σ ρ)) vs ds ∧ SqT K (hid H (hs F σ ρ)) l vs := by
  have go : ∀ {x : V}, RepD K (hid H (hs F σ ρ)) x (.tup ds) → ∃ l vs, x = .ref l ∧ SqT K H l vs ∧ RepDs K (hid H (hs F σ ρ)) vs ds ∧ SqT K (hid H (hs F σ ρ)) l vs := fun h' => by
    unfold RepD at h'
    obtain ⟨l, vs, e, q, r⟩ := h'
    exact ⟨l, vs, e, hid_sub.seqT q, r, q⟩
  cases r with
  | d d' => injection e with e; subst e; exact go h
  | t n => cases e
  | n s => cases e
  | o i =>
    have q := a.sl i
    unfold view at e
    cases hg : gt ρ i with
    | un => simp [hg] at e
    | tp n => simp [hg] at e
    | dk n => simp [hg] at e
    | dt n => simp [hg] at e
    | ex n m => simp [hg] at e
    | ow ds' => simp [hg] at e
    | vl d' =>
      simp [hg] at e
      subst e
      rw [hg] at q
      obtain ⟨x, e1, r1⟩ := q
      rw [show σ[i]? = _ from h] at e1
      injection e1 with e1; injection e1 with e1; subst e1
      exact go r1
end
noncomputable abbrev Ko := R → En → Prop
noncomputable abbrev AE := En → Ko → Prop
noncomputable abbrev AT := En → (Bool → En → Prop) → Prop
noncomputable abbrev AA := En → (List R → En → Prop) → Prop
structure AEnds where
  nx : En → Prop
  rt : R → En → Prop
  bk : En → Prop
  ct : En → Prop
noncomputable abbrev AS := AEnds → En → Prop
noncomputable def Beh (K : PySem.W.Frag) (F : Fr) (σ : St) (ρ : En) (H : Hp) (q : Ko) (Q : VK) : Prop := ∀ r ρ' v H', q r ρ' → Out K F σ ρ H ρ' v H' r → Q v H'
noncomputable def TEok (K : PySem.W.Frag) (t : TE) (a : AE) : Prop := ∀ F σ ρ H q Q, Rel K F σ ρ H → a ρ q → Beh K F σ ρ H q Q → t σ H Q
noncomputable def TTok (K : PySem.W.Frag) (t : TT) (a : AT) : Prop := ∀ F σ ρ H q Q, Rel K F σ ρ H → a ρ q → (∀ b ρ' H', q b ρ' → Rel K F σ ρ' H' → Kp σ ρ ρ' H H' → Q b H') → t σ H Q
noncomputable def TAok (K : PySem.W.Frag) (t : TA) (a : AA) : Prop := ∀ F σ ρ H q Q, Rel K F σ ρ H → a ρ q → (∀ rs ρ' vs H', q rs ρ' → Rel K F σ ρ' H' → InFs K F σ ρ' H' vs rs → Kp σ ρ ρ' H H' → Q vs H') → t σ H Q
noncomputable def OpOk (K : PySem.W.Frag) (r : R2) (g : R → R → AE) : Prop := ∀ F σ ρ H x y r1 r2 q Q, Rel K F σ ρ H → InF K F σ ρ H x r1 → InF K F σ ρ H y r2 → g r1 r2 ρ q → Beh K F σ ρ H q Q → r x y H Q
noncomputable def CbOk (K : PySem.W.Frag) (r : List V → Hp → VK → Prop) (g : List R → AE) : Prop := ∀ F σ ρ H vs rs q Q, Rel K F σ ρ H → InFs K F σ ρ H vs rs → g rs ρ q → Beh K F σ ρ H q Q → r vs H Q
section
variable {K : PySem.W.Frag} {F : Fr} {σ : St} {ρ ρ' : En} {H H' : Hp} {v : V} {r : R} {q : Ko} {Q : VK}
theorem Beh.dat (b : Beh K F σ ρ H q Q) (a : Rel K F σ ρ H) {d : D} (hq : q (.d d) ρ) (h : RepD K (hid H (hs F σ ρ)) v d) : Q v H := b (.d d) ρ v H hq ⟨a, .refl, h⟩
theorem Beh.int (b : Beh K F σ ρ H q Q) (a : Rel K F σ ρ H) {i : Int} (hq : q (.d (.int i)) ρ) : Q (.int i) H := b.dat a hq (by unfold RepD; rfl)
theorem Beh.bl (b : Beh K F σ ρ H q Q) (a : Rel K F σ ρ H) {i : Bool} (hq : q (.d (.bl i)) ρ) : Q (.bl i) H := b.dat a hq (by unfold RepD; rfl)
theorem Beh.non (b : Beh K F σ ρ H q Q) (a : Rel K F σ ρ H) (hq : q (.d .non) ρ) : Q .non H := b.dat a hq (by unfold RepD; rfl)
theorem Beh.str (b : Beh K F σ ρ H q Q) (a : Rel K F σ ρ H) {x : Str} (hq : q (.d (.str x)) ρ) : Q (.str x) H := b.dat a hq (by unfold RepD; rfl)
theorem Beh.new (b : Beh K F σ ρ H q Q) (a : Rel K F σ ρ H) {ds : List D} {vs : List V} {l : Addr} (hq : q (.f ds) ρ) (hd : RepDs K (hid H (hs F σ ρ)) vs ds) (hl : H l = none) : Q (.ref l) (upd H l (.lst vs)) :=
  b (.f ds) ρ _ _ hq ⟨H, l, _, a, .refl, rfl, ⟨l, vs, rfl, upd_same, hd⟩, hl, rfl, rfl⟩
theorem Beh.newT (b : Beh K F σ ρ H q Q) (a : Rel K F σ ρ H) {ds : List D} {vs : List V} {l : Addr} (hq : q (.d (.tup ds)) ρ) (hd : RepDs K (hid H (hs F σ ρ)) vs ds) (hl : H l = none) : Q (.ref l) (upd H l (.tup vs)) := by
  have k : Kp σ ρ ρ H (upd H l (.tup vs)) := Kp.fresh hl
  refine b (.d (.tup ds)) ρ _ _ hq ⟨a.fresh hl, k, ?_⟩
  unfold RepD
  exact ⟨l, vs, rfl, SqT.of (hid_of (fresh_vis a hl) upd_same), hd.same k.vis⟩
theorem Beh.after {ρ1 : En} {H1 : Hp} (b : Beh K F σ ρ H q Q) (k : Kp σ ρ ρ1 H H1) : Beh K F σ ρ1 H1 q Q := fun r ρ' v H' hq h => b r ρ' v H' hq (.after k h)
noncomputable def aVar (i : Nat) : AE := fun ρ q => match gt ρ i with
  | .un => False
  | .vl d => q (.d d) ρ
  | .ow _ => q (.o i) ρ
  | .tp _ => q (.o i) ρ
  | .dk _ => q (.o i) ρ
  | .dt _ => q (.o i) ρ
  | .ex _ _ => q (.o i) ρ
theorem tok_var {i : Nat} : TEok K (tVar i) (aVar i) := by
  intro F σ ρ H q Q a h b
  have s := a.sl i
  unfold aVar at h
  cases hg : gt ρ i with
  | un => rw [hg] at h; exact h.elim
  | vl d =>
    rw [hg] at h s
    obtain ⟨x, e, r⟩ := s
    exact ⟨x, e, b _ _ _ _ h ⟨a, .refl, r⟩⟩
  | ow ds =>
    rw [hg] at h s
    obtain ⟨l, vs, e, _⟩ := s
    exact ⟨_, e, b _ _ _ _ h ⟨a, .refl, e⟩⟩
  | tp n =>
    rw [hg] at h s
    obtain ⟨l, c, ns, sp, lf, e, _⟩ := s
    exact ⟨_, e, b _ _ _ _ h ⟨a, .refl, e⟩⟩
  | dk kvs =>
    rw [hg] at h s
    obtain ⟨l, ks, e, _⟩ := s
    exact ⟨_, e, b _ _ _ _ h ⟨a, .refl, e⟩⟩
  | dt kvs =>
    rw [hg] at h s
    obtain ⟨l, ks, e, _⟩ := s
    exact ⟨_, e, b _ _ _ _ h ⟨a, .refl, e⟩⟩
  | ex C fs =>
    rw [hg] at h s
    obtain ⟨l, ks, e, _⟩ := s
    exact ⟨_, e, b _ _ _ _ h ⟨a, .refl, e⟩⟩
noncomputable def aC (r : R) : AE := fun ρ q => q r ρ
theorem tok_int {i : Int} : TEok K (tC (.int i)) (aC (.d (.int i))) := fun _ _ _ _ _ _ a h b => b.int a h
theorem tok_bl {i : Bool} : TEok K (tC (.bl i)) (aC (.d (.bl i))) := fun _ _ _ _ _ _ a h b => b.bl a h
theorem tok_str {i : Str} : TEok K (tC (.str i)) (aC (.d (.str i))) := fun _ _ _ _ _ _ a h b => b.str a h
theorem tok_non : TEok K (tC .non) (aC (.d .non)) := fun _ _ _ _ _ _ a h b => b.non a h
noncomputable def aOp (g : R → R → AE) (a b : AE) : AE := fun ρ q => a ρ fun r1 ρ1 => b ρ1 fun r2 ρ2 => g r1.frz r2.frz ρ2 q
variable {t t' ta tb tc : TE} {a b c : AE} {rr : R2} {g : R → R → AE}
theorem tok_op (ho : OpOk K rr g) (ha : TEok K ta a) (hb : TEok K tb b) : TEok K (tOp rr ta tb) (aOp g a b) := by
  intro F σ ρ H q Q r h k
  refine ha F σ ρ H _ _ r h fun r1 ρ1 x H1 h1 rel1 => ?_
  obtain ⟨r', k1, i1⟩ := rel1.inF
  refine hb F σ ρ1 H1 _ _ r' h1 fun r2 ρ2 y H2 h2 rel2 => ?_
  obtain ⟨r'', k2, i2⟩ := rel2.inF
  exact ho F σ ρ2 H2 x y _ _ q Q r'' (i1.keep k2) i2 h2 (k.after (k1.trans k2))
noncomputable def aUn (g : R → AE) (a : AE) : AE := fun ρ q => a ρ fun r1 ρ1 => g r1.frz ρ1 q
noncomputable def gI (C : Int → Int → Prop) (f : Int → Int → D) : R → R → AE := fun r1 r2 ρ q => match r1, r2 with
  | .d (.int i), .d (.int j) => C i j ∧ q (.d (f i j)) ρ
  | _, _ => False
theorem gI_inv {C : Int → Int → Prop} {f : Int → Int → D} {r1 r2 : R} (h : gI C f r1 r2 ρ q) : ∃ i j, r1 = .d (.int i) ∧ r2 = .d (.int j) ∧ C i j ∧ q (.d (f i j)) ρ := by
  unfold gI at h
  split at h
  · exact ⟨_, _, rfl, rfl, h⟩
  · exact h.elim
theorem InF.int {i : Int} (h : InF K F σ ρ H v (.d (.int i))) : v = .int i := by
  unfold InF RepD at h; exact h
theorem InF.blv {i : Bool} (h : InF K F σ ρ H v (.d (.bl i))) : v = .bl i := by
  unfold InF RepD at h; exact h
theorem ook_int {C : Int → Int → Prop} {f : Int → Int → Int} : OpOk K (rI C fun i j => .int (f i j)) (gI C fun i j => .int (f i j)) := by
  intro F σ ρ H x y r1 r2 q Q a h1 h2 h b
  obtain ⟨i, j, rfl, rfl, c, h⟩ := gI_inv h
  exact ⟨i, j, h1.int, h2.int, c, b.int a h⟩
noncomputable def gI0 (f : Int → Int → D) : R → R → AE := fun r1 r2 ρ q => match r1, r2 with
  | .d (.int i), .d (.int j) => q (.d (f i j)) ρ
  | _, _ => False
theorem gI0_inv {f : Int → Int → D} {r1 r2 : R} (h : gI0 f r1 r2 ρ q) : ∃ i j, r1 = .d (.int i) ∧ r2 = .d (.int j) ∧ q (.d (f i j)) ρ := by
  unfold gI0 at h
  split at h
  · exact ⟨_, _, rfl, rfl, h⟩
  · exact h.elim
theorem ook_int0 {f : Int → Int → Int} : OpOk K (rI0 fun i j => .int (f i j)) (gI0 fun i j => .int (f i j)) := by
  intro F σ ρ H x y r1 r2 q Q a h1 h2 h b
  obtain ⟨i, j, rfl, rfl, h⟩ := gI0_inv h
  exact ⟨i, j, h1.int, h2.int, b.int a h⟩
theorem ook_bl0 {f : Int → Int → Bool} : OpOk K (rI0 fun i j => .bl (f i j)) (gI0 fun i j => .bl (f i j)) := by
  intro F σ ρ H x y r1 r2 q Q a h1 h2 h b
  obtain ⟨i, j, rfl, rfl, h⟩ := gI0_inv h
  exact ⟨i, j, h1.int, h2.int, b.bl a h⟩
@[irreducible] noncomputable def gEq (neg : Bool) : R → R → AE := fun r1 r2 ρ q => match view ρ r1, view ρ r2 with
  | some d, some e => d.depth ≤ 60 ∧ q (.d (.bl (if neg then !eqD d e else eqD d e))) ρ
  | _, _ => False
theorem gEq_inv {neg : Bool} {r1 r2 : R} (h : gEq neg r1 r2 ρ q) : ∃ d e, view ρ r1 = some d ∧ view ρ r2 = some e ∧ d.depth ≤ 60 ∧ q (.d (.bl (if neg then !eqD d e else eqD d e))) ρ := by
  unfold gEq at h
  split at h
  · rename_i d e h1 h2; exact ⟨d, e, h1, h2, h⟩
  · exact h.elim
theorem ook_eq : OpOk K (rEqD K) (gEq false) := by
  intro F σ ρ H x y r1 r2 q Q a h1 h2 h b
  obtain ⟨d, e, e1, e2, c, h⟩ := gEq_inv h
  exact ⟨d, e, view_rep a h1 e1, view_rep a h2 e2, c, b.bl a h⟩
theorem ook_ne : OpOk K (rNeD K) (gEq true) := by
  intro F σ ρ H x y r1 r2 q Q a h1 h2 h b
  obtain ⟨d, e, e1, e2, c, h⟩ := gEq_inv h
  exact ⟨d, e, view_rep a h1 e1, view_rep a h2 e2, c, b.bl a h⟩
@[irreducible] noncomputable def gIx : R → R → AE := fun r1 r2 ρ q => match view ρ r1, r2 with
  | some (.lst ds), .d (.int i) => (match atI ds i with | some d => q (.d d) ρ | none => False)
  | some (.tup ds), .d (.int i) => (match atI ds i with | some d => q (.d d) ρ | none => False)
  | _, _ => False
theorem atI_rep {Hh : Hp} {vs : List V} {ds : List D} {i : Int} {d : D} (h : RepDs K Hh vs ds) (e : atI ds i = some d) : ∃ v, atI vs i = some v ∧ RepD K Hh v d := by
  unfold atI at e ⊢
  rw [h.length]
  cases hx : ixN ds.length i with
  | none => rw [hx] at e; cases e
  | some j =>
    rw [hx] at e
    exact h.get e
theorem ook_ix : OpOk K (rIx K) gIx := by
  intro F σ ρ H x y r1 r2 q Q a h1 h2 h b
  unfold gIx at h
  split at h
  · rename_i ds i e1
    split at h
    · rename_i d e
      obtain ⟨l, vs, rfl, sq, rd⟩ := view_lst a h1 e1
      obtain ⟨v, e2, rv⟩ := atI_rep rd e
      exact .inl ⟨l, vs, i, v, rfl, h2.int, sq, e2, b.dat a h rv⟩
    · exact h.elim
  · rename_i ds i e1
    split at h
    · rename_i d e
      obtain ⟨l, vs, rfl, sq, rd, _⟩ := view_tup a h1 e1
      obtain ⟨v, e2, rv⟩ := atI_rep rd e
      exact .inr (.inl ⟨l, vs, i, v, rfl, h2.int, sq, e2, b.dat a h rv⟩)
    · exact h.elim
  · exact h.elim
noncomputable def aAndV (a b : AE) : AE := fun ρ q => a ρ fun r ρ1 => match r with
  | .d (.bl c) => if c = true then b ρ1 q else q (.d (.bl false)) ρ1
  | _ => False
theorem tok_andV (ha : TEok K ta a) (hb : TEok K tb b) : TEok K (tAndV ta tb) (aAndV a b) := by
  intro F σ ρ H q Q r h k
  refine ha F σ ρ H _ _ r h fun r1 ρ1 x H1 h1 rel1 => ?_
  split at h1
  · rename_i c
    obtain ⟨r', k1, i1⟩ := rel1.inF
    refine ⟨c, i1.blv, ?_⟩
    cases c with
    | true => exact hb F σ ρ1 H1 q Q r' h1 (k.after k1)
    | false => exact (k.after k1).bl r' h1
  · exact h1.elim
variable {tt tu : TT} {at' au : AT}
noncomputable def aB (a : AE) : AT := fun ρ q => a ρ fun r ρ1 => match r with
  | .d (.bl c) => q c ρ1
  | _ => False
theorem ttok_B (ha : TEok K ta a) : TTok K (tB ta) (aB a) := by
  intro F σ ρ H q Q r h k
  refine ha F σ ρ H _ _ r h fun r1 ρ1 x H1 h1 rel1 => ?_
  split at h1
  · rename_i c
    obtain ⟨r', k1, i1⟩ := rel1.inF
    exact ⟨c, i1.blv, k _ _ _ h1 r' k1⟩
  · exact h1.elim
theorem ttok_test (ha : TEok K ta a) : TTok K (tTest ta) (aB a) := ttok_B ha
noncomputable def aAnd (a b : AT) : AT := fun ρ q => a ρ fun c ρ1 => if c = true then b ρ1 q else q false ρ1
noncomputable def aOr (a b : AT) : AT := fun ρ q => a ρ fun c ρ1 => if c = true then q true ρ1 else b ρ1 q
noncomputable def aNot (a : AT) : AT := fun ρ q => a ρ fun c ρ1 => q (!c) ρ1
theorem ttok_and (ha : TTok K tt at') (hb : TTok K tu au) : TTok K (tAnd tt tu) (aAnd at' au) := by
  intro F σ ρ H q Q r h k
  refine ha F σ ρ H _ _ r h fun c ρ1 H1 h1 r1 k1 => ?_
  cases c with
  | true => exact hb F σ ρ1 H1 q Q r1 h1 fun b ρ2 H2 h2 r2 k2 => k _ _ _ h2 r2 (k1.trans k2)
  | false => exact k _ _ _ h1 r1 k1
theorem ttok_or (ha : TTok K tt at') (hb : TTok K tu au) : TTok K (tOr tt tu) (aOr at' au) := by
  intro F σ ρ H q Q r h k
  refine ha F σ ρ H _ _ r h fun c ρ1 H1 h1 r1 k1 => ?_
  cases c with
  | true => exact k _ _ _ h1 r1 k1
  | false => exact hb F σ ρ1 H1 q Q r1 h1 fun b ρ2 H2 h2 r2 k2 => k _ _ _ h2 r2 (k1.trans k2)
theorem ttok_not (ha : TTok K tt at') : TTok K (tNot tt) (aNot at') := fun F σ ρ H q Q r h k => ha F σ ρ H _ _ r h fun c ρ1 H1 h1 r1 k1 => k _ _ _ h1 r1 k1
noncomputable def truD : D → Bool
  | .non => false
  | .bl b => b
  | .int i => i != 0
  | .str _ => true
  | .tup ds => !ds.isEmpty
  | .lst ds => !ds.isEmpty
noncomputable def aTru (a : AE) : AT := fun ρ q => a ρ fun r ρ1 => match view ρ1 r.frz with
  | some (.str _) => False
  | some d => q (truD d) ρ1
  | none => False
theorem isEmpty_rep {Hh : Hp} {vs : List V} {ds : List D} (h : RepDs K Hh vs ds) : vs.isEmpty = ds.isEmpty := by
  have := h.length
  cases vs <;> cases ds <;> simp_all
theorem ttok_tru (ha : TEok K ta a) : TTok K (fun σ H Q => ta σ H fun x H' => ∃ k, TruV K x H' k ∧ Q k H') (aTru a) := by
  intro F σ ρ H q Q r h k
  refine ha F σ ρ H _ _ r h fun r1 ρ1 x H1 h1 rel1 => ?_
  obtain ⟨r', k1, i1⟩ := rel1.inF
  cases e : view ρ1 r1.frz with
  | none => rw [e] at h1; exact h1.elim
  | some d =>
    rw [e] at h1
    have rd := view_rep r' i1 e
    cases d with
    | str x => exact h1.elim
    | non => unfold RepD at rd; subst rd; exact ⟨_, rfl, k _ _ _ h1 r' k1⟩
    | bl b => unfold RepD at rd; subst rd; exact ⟨_, rfl, k _ _ _ h1 r' k1⟩
    | int b => unfold RepD at rd; subst rd; exact ⟨_, rfl, k _ _ _ h1 r' k1⟩
    | tup ds =>
      unfold RepD at rd
      obtain ⟨p, vs, rfl, sq, rr⟩ := rd
      exact ⟨_, .inr (.inl ⟨vs, sq, by rw [isEmpty_rep rr]; rfl⟩), k _ _ _ h1 r' k1⟩
    | lst ds =>
      unfold RepD at rd
      obtain ⟨p, vs, rfl, sq, rr⟩ := rd
      exact ⟨_, .inl ⟨vs, sq, by rw [isEmpty_rep rr]; rfl⟩, k _ _ _ h1 r' k1⟩
noncomputable def aIf (c : AT) (a b : AE) : AE := fun ρ q => c ρ fun k ρ1 => if k = true then a ρ1 q else b ρ1 q
theorem tok_if (hc : TTok K tt at') (ha : TEok K ta a) (hb : TEok K tb b) : TEok K (tIf tt ta tb) (aIf at' a b) := by
  intro F σ ρ H q Q r h k
  refine hc F σ ρ H _ _ r h fun c ρ1 H1 h1 r1 k1 => ?_
  cases c with
  | true => exact ha F σ ρ1 H1 q Q r1 h1 (k.after k1)
  | false => exact hb F σ ρ1 H1 q Q r1 h1 (k.after k1)
variable {ts : TA} {as : AA}
noncomputable def aNil : AA := fun ρ q => q [] ρ
noncomputable def aCons (a : AE) (as : AA) : AA := fun ρ q => a ρ fun r ρ1 => as ρ1 fun rs ρ2 => q (r.frz :: rs) ρ2
theorem taok_nil : TAok K tNil aNil := fun F σ ρ H q Q r h k => k _ _ _ _ h r .nil .refl
theorem taok_cons (ha : TEok K ta a) (hs : TAok K ts as) : TAok K (tCons ta ts) (aCons a as) := by
  intro F σ ρ H q Q r h k
  refine ha F σ ρ H _ _ r h fun r1 ρ1 x H1 h1 rel1 => ?_
  obtain ⟨r', k1, i1⟩ := rel1.inF
  refine hs F σ ρ1 H1 _ _ r' h1 fun rs ρ2 vs H2 h2 r2 i2 k2 => ?_
  exact k _ _ _ _ h2 r2 (.cons (i1.keep k2) i2) (k1.trans k2)
noncomputable def sto : List R → En → (List D → En → Prop) → Prop
  | [], ρ, q => q [] ρ
  | .d d :: rs, ρ, q => sto rs ρ fun ds ρ' => q (d :: ds) ρ'
  | .o i :: rs, ρ, q => (match gt ρ i with
    | .ow ds => sto rs (pt ρ i (.vl (.lst ds))) fun es ρ' => q (.lst ds :: es) ρ'
    | .vl d => sto rs ρ fun es ρ' => q (d :: es) ρ'
    | _ => False)
  | _ :: _, _, _ => False
theorem sto_ok : ∀ {vs : List V} {rs : List R} {ρ : En} {q : List D → En → Prop}, Rel K F σ ρ H → InFs K F σ ρ H vs rs → sto rs ρ q → ∃ ds ρ', q ds ρ' ∧ Rel K F σ ρ' H ∧ Kp σ ρ ρ' H H ∧ RepDs K (hid H (hs F σ ρ')) vs ds
  | _, _, ρ, q, r, .nil, h => ⟨[], ρ, h, r, .refl, .nil⟩
  | _, _, ρ, q, r, .cons (v := v) (r := rr) (vs := vs) (rs := rs) a t, h => by
    cases rr with
    | n s => exact h.elim
    | t n => exact h.elim
    | d d =>
      obtain ⟨ds, ρ', hq, r', k, rd⟩ := sto_ok r t (show sto rs ρ _ from h)
      exact ⟨d :: ds, ρ', hq, r', k, .cons (RepD.same a k.vis) rd⟩
    | o i =>
      have s := r.sl i
      unfold sto at h
      cases hg : gt ρ i with
      | un => rw [hg] at h; exact h.elim
      | tp n => rw [hg] at h; exact h.elim
      | dk n => rw [hg] at h; exact h.elim
      | dt n => rw [hg] at h; exact h.elim
      | ex n m => rw [hg] at h; exact h.elim
      | vl d =>
        rw [hg] at h s
        obtain ⟨x, e, rd1⟩ := s
        rw [show σ[i]? = _ from a] at e
        injection e with e; injection e with e; subst e
        obtain ⟨ds, ρ', hq, r', k, rd⟩ := sto_ok r t h
        exact ⟨d :: ds, ρ', hq, r', k, .cons (rd1.same k.vis) rd⟩
      | ow ds =>
        rw [hg] at h
        obtain ⟨l, e, r1, k1, rd1⟩ := r.frz hg
        rw [show σ[i]? = _ from a] at e
        injection e with e; injection e with e; subst e
        obtain ⟨es, ρ', hq, r', k, rd⟩ := sto_ok r1 (t.keep k1) h
        exact ⟨_, ρ', hq, r', k1.trans k, .cons (rd1.same k.vis) rd⟩
theorem small {n : Nat} (h : n ≤ 1000000) : n ≤ sizeLine := by unfold sizeLine; omega
theorem smallS {n : Nat} (h : n ≤ 1000000) : n < sizeLine := by unfold sizeLine; omega
noncomputable def aTup (as : AA) : AE := fun ρ q => as ρ fun rs ρ1 => sto rs ρ1 fun ds ρ2 => ds.length ≤ 1000000 ∧ q (.d (.tup ds)) ρ2
noncomputable def aLst (as : AA) : AE := fun ρ q => as ρ fun rs ρ1 => sto rs ρ1 fun ds ρ2 => ds.length ≤ 1000000 ∧ q (.f ds) ρ2
theorem tok_tup (hs : TAok K ts as) : TEok K (tTup ts) (aTup as) := by
  intro F σ ρ H q Q r h k
  refine hs F σ ρ H _ _ r h fun rs ρ1 vs H1 h1 r1 i1 k1 => ?_
  obtain ⟨ds, ρ2, ⟨hz, hq⟩, r2, k2, rd⟩ := sto_ok r1 i1 h1
  exact ⟨small (by rw [rd.length]; exact hz), fun p hp => ((k.after k1).after k2).newT r2 hq rd hp⟩
theorem tok_lst (hs : TAok K ts as) : TEok K (tLst ts) (aLst as) := by
  intro F σ ρ H q Q r h k
  refine hs F σ ρ H _ _ r h fun rs ρ1 vs H1 h1 r1 i1 k1 => ?_
  obtain ⟨ds, ρ2, ⟨hz, hq⟩, r2, k2, rd⟩ := sto_ok r1 i1 h1
  exact ⟨small (by rw [rd.length]; exact hz), fun p hp => ((k.after k1).after k2).new r2 hq rd hp⟩
noncomputable def aCB (g : List R → AE) (as : AA) : AE := fun ρ q => as ρ fun rs ρ1 => g rs ρ1 q
theorem tok_cb {rb : List V → Hp → VK → Prop} {g : List R → AE} (hb : CbOk K rb g) (hs : TAok K ts as) : TEok K (tCB rb ts) (aCB g as) := by
  intro F σ ρ H q Q r h k
  exact hs F σ ρ H _ _ r h fun rs ρ1 vs H1 h1 r1 i1 k1 => hb F σ ρ1 H1 vs rs q Q r1 i1 h1 (k.after k1)
theorem InFs.one {vs : List V} {r1 : R} (h : InFs K F σ ρ H vs [r1]) : ∃ x, vs = [x] ∧ InF K F σ ρ H x r1 := by
  cases h with | cons a t => cases t; exact ⟨_, rfl, a⟩
theorem InFs.two {vs : List V} {r1 r2 : R} (h : InFs K F σ ρ H vs [r1, r2]) : ∃ x y, vs = [x, y] ∧ InF K F σ ρ H x r1 ∧ InF K F σ ρ H y r2 := by
  cases h with | cons a t => obtain ⟨y, rfl, b⟩ := t.one; exact ⟨_, _, rfl, a, b⟩
noncomputable def gLen : List R → AE := fun rs ρ q => match rs with
  | [r] => (match view ρ r with
    | some (.lst ds) => q (.d (.int ds.length)) ρ
    | some (.tup ds) => q (.d (.int ds.length)) ρ
    | _ => False)
  | _ => False
theorem cbok_len : CbOk K (fun xs H Q => ∃ p ys, xs = [.ref p] ∧ (SqL K H p ys ∨ SqT K H p ys) ∧ Q (.int ys.length) H) gLen := by
  intro F σ ρ H vs rs q Q a i h b
  unfold gLen at h
  split at h
  · obtain ⟨x, rfl, i1⟩ := i.one
    split at h
    · rename_i ds e
      obtain ⟨l, vs, rfl, sq, rd⟩ := view_lst a i1 e
      exact ⟨l, vs, rfl, .inl sq, by rw [rd.length]; exact b.int a h⟩
    · rename_i ds e
      obtain ⟨l, vs, rfl, sq, rd, _⟩ := view_tup a i1 e
      exact ⟨l, vs, rfl, .inr sq, by rw [rd.length]; exact b.int a h⟩
    · exact h.elim
  · exact h.elim
noncomputable def gList : List R → AE := fun rs ρ q => match rs with
  | [r] => (match view ρ r with
    | some (.lst ds) => q (.f ds) ρ
    | some (.tup ds) => q (.f ds) ρ
    | _ => False)
  | _ => False
theorem cbok_list : CbOk K (fun xs H Q => ∃ p ys, xs = [.ref p] ∧ (SqL K H p ys ∨ SqT K H p ys) ∧ ∀ l, H l = none → Q (.ref l) (upd H l (.lst ys))) gList := by
  intro F σ ρ H vs rs q Q a i h b
  unfold gList at h
  split at h
  · obtain ⟨x, rfl, i1⟩ := i.one
    split at h
    · rename_i ds e
      obtain ⟨l, vs, rfl, sq, rd⟩ := view_lst a i1 e
      exact ⟨l, vs, rfl, .inl sq, fun p hp => b.new a h rd hp⟩
    · rename_i ds e
      obtain ⟨l, vs, rfl, sq, rd, _⟩ := view_tup a i1 e
      exact ⟨l, vs, rfl, .inr sq, fun p hp => b.new a h rd hp⟩
    · exact h.elim
  · exact h.elim
noncomputable def gTuple : List R → AE := fun rs ρ q => match rs with
  | [r] => (match view ρ r with
    | some (.lst ds) => q (.d (.tup ds)) ρ
    | some (.tup ds) => q (.d (.tup ds)) ρ
    | _ => False)
  | _ => False
theorem cbok_tuple : CbOk K (fun xs H Q => ∃ p ys, xs = [.ref p] ∧ ((SqL K H p ys ∧ ∀ l, H l = none → Q (.ref l) (upd H l (.tup ys))) ∨ (SqT K H p ys ∧ Q (.ref p) H))) gTuple := by
  intro F σ ρ H vs rs q Q a i h b
  unfold gTuple at h
  split at h
  · obtain ⟨x, rfl, i1⟩ := i.one
    split at h
    · rename_i ds e
      obtain ⟨l, vs, rfl, sq, rd⟩ := view_lst a i1 e
      exact ⟨l, vs, rfl, .inl ⟨sq, fun p hp => b.newT a h rd hp⟩⟩
    · rename_i ds e
      obtain ⟨l, vs, rfl, sq, rd, sq'⟩ := view_tup a i1 e
      refine ⟨l, vs, rfl, .inr ⟨sq, b.dat a h ?_⟩⟩
      unfold RepD
      exact ⟨l, vs, rfl, sq', rd⟩
    · exact h.elim
  · exact h.elim
noncomputable def gII (f : Int → Int → Int) : List R → AE := fun rs ρ q => match rs with
  | [.d (.int i), .d (.int j)] => q (.d (.int (f i j))) ρ
  | _ => False
theorem cbok_max : CbOk K (fun xs H Q => ∃ i j, xs = [.int i, .int j] ∧ Q (.int (if j > i then j else i)) H) (gII fun i j => if j > i then j else i) := by
  intro F σ ρ H vs rs q Q a i h b
  unfold gII at h
  split at h
  · obtain ⟨x, y, rfl, i1, j1⟩ := i.two
    exact ⟨_, _, by rw [i1.int, j1.int], b.int a h⟩
  · exact h.elim
theorem cbok_min : CbOk K (fun xs H Q => ∃ i j, xs = [.int i, .int j] ∧ Q (.int (if j < i then j else i)) H) (gII fun i j => if j < i then j else i) := by
  intro F σ ρ H vs rs q Q a i h b
  unfold gII at h
  split at h
  · obtain ⟨x, y, rfl, i1, j1⟩ := i.two
    exact ⟨_, _, by rw [i1.int, j1.int], b.int a h⟩
  · exact h.elim
noncomputable def aApp (a : AE) (as : AA) : AE := fun ρ q => a ρ fun r ρ1 => match r with
  | .o i => (match gt ρ1 i with
    | .ow _ => as ρ1 fun rs ρ2 => (match rs with
      | [y] => sto [y] ρ2 fun es ρ3 => (match gt ρ3 i with
        | .ow ds => ds.length ≤ 1000000 ∧ q (.d .non) (pt ρ3 i (.ow (ds ++ es)))
        | _ => False)
      | _ => False)
    | _ => False)
  | _ => False
theorem tok_app (ha : TEok K ta a) (hs : TAok K ts as) : TEok K (tBM K "list" rAppend ta ts) (aApp a as) := by
  intro F σ ρ H q Q r h k
  refine ha F σ ρ H _ _ r h fun r1 ρ1 x H1 h1 rel1 => ?_
  split at h1
  · rename_i i
    obtain ⟨r', k1, i1⟩ := rel1.inF
    have ex : σ[i]? = some (some x) := i1
    split at h1
    · rename_i ds0 hg0
      have s := r'.sl i
      rw [hg0, ex] at s
      obtain ⟨l, vs0, e, hl, _⟩ := s
      injection e with e; injection e with e; subst e
      refine ⟨.inl ⟨rfl, _, SqL.of hl⟩, hs F σ ρ1 H1 _ _ r' h1 fun rs ρ2 vs H2 h2 r2 i2 k2 => ?_⟩
      split at h2
      · obtain ⟨es, ρ3, h3, r3, k3, rd⟩ := sto_ok r2 i2 h2
        split at h3
        · rename_i ds hg
          have s := r3.sl i
          rw [hg, ex] at s
          obtain ⟨l', us, e, hl', rd'⟩ := s
          injection e with e; injection e with e; injection e with e; subst e
          obtain ⟨y, rfl, _⟩ := i2.one
          have hw := r3.write (i := i) (l := l) (o := .lst (us ++ [y])) (s := .ow (ds ++ es)) (by rw [hg]; rfl) ex rfl ⟨l, _, rfl, upd_same, rd'.append rd⟩
          refine ⟨l, us, y, rfl, rfl, hl', smallS (by rw [rd'.length]; exact h3.1), ?_⟩
          exact (((k.after k1).after k2).after (k3.trans hw.2)).non hw.1 h3.2
        · exact h3.elim
      · exact h2.elim
    · exact h1.elim
  · exact h1.elim
noncomputable abbrev AO := En → (Option Int → En → Prop) → Prop
noncomputable def TOok (K : PySem.W.Frag) (t : TO) (a : AO) : Prop := ∀ F σ ρ H q Q, Rel K F σ ρ H → a ρ q → (∀ b ρ' H', q b ρ' → Rel K F σ ρ' H' → Kp σ ρ ρ' H H' → Q b H') → t σ H Q
noncomputable def oNo : AO := fun ρ q => q none ρ
noncomputable def oPart (a : AE) : AO := fun ρ q => a ρ fun r ρ1 => match r with
  | .d (.int i) => q (some i) ρ1
  | _ => False
theorem took_no : TOok K tNoPart oNo := fun F σ ρ H q Q r h k => k _ _ _ h r .refl
theorem took_part (ha : TEok K ta a) : TOok K (tPart ta) (oPart a) := by
  intro F σ ρ H q Q r h k
  refine ha F σ ρ H _ _ r h fun r1 ρ1 x H1 h1 rel1 => ?_
  split at h1
  · obtain ⟨r', k1, i1⟩ := rel1.inF
    exact ⟨_, i1.int, k _ _ _ h1 r' k1⟩
  · exact h1.elim
noncomputable def cutD (xs : List D) (lo hi : Option Int) : List D := (xs.drop (HT.sIx xs.length 0 lo)).take (HT.sIx xs.length xs.length hi - HT.sIx xs.length 0 lo)
theorem RepDs.drop : ∀ {vs : List V} {ds : List D} (n : Nat), RepDs K H vs ds → RepDs K H (vs.drop n) (ds.drop n)
  | [], [], n, h => by simp [RepDs.nil]
  | v :: vs, d :: ds, 0, h => h
  | v :: vs, d :: ds, n + 1, h => by unfold RepDs at h; exact RepDs.drop n h.2
  | [], d :: ds, _, h => by unfold RepDs at h; exact h.elim
  | v :: vs, [], _, h => by unfold RepDs at h; exact h.elim
theorem RepDs.take : ∀ {vs : List V} {ds : List D} (n : Nat), RepDs K H vs ds → RepDs K H (vs.take n) (ds.take n)
  | [], [], n, h => by simp [RepDs.nil]
  | v :: vs, d :: ds, 0, h => .nil
  | v :: vs, d :: ds, n + 1, h => by unfold RepDs at h; exact .cons h.1 (RepDs.take n h.2)
  | [], d :: ds, _, h => by unfold RepDs at h; exact h.elim
  | v :: vs, [], _, h => by unfold RepDs at h; exact h.elim
theorem cut_rep {vs : List V} {ds : List D} {lo hi : Option Int} (h : RepDs K H vs ds) : RepDs K H (cutV vs lo hi) (cutD ds lo hi) := by
  unfold cutV cutD
  rw [h.length]
  exact (h.drop _).take _
noncomputable def aSlL (a : AE) (l u : AO) : AE := fun ρ q => a ρ fun r ρ1 => l ρ1 fun lo ρ2 => u ρ2 fun hi ρ3 => match view ρ3 r.frz with
  | some (.lst ds) => q (.f (cutD ds lo hi)) ρ3
  | _ => False
theorem tok_slL {tl th : TO} {al au : AO} (ha : TEok K ta a) (hl : TOok K tl al) (hh : TOok K th au) : TEok K (tSl (rSlL K) ta tl th) (aSlL a al au) := by
  intro F σ ρ H q Q r h k
  refine ha F σ ρ H _ _ r h fun r1 ρ1 x H1 h1 rel1 => ?_
  obtain ⟨r', k1, i1⟩ := rel1.inF
  refine hl F σ ρ1 H1 _ _ r' h1 fun lo ρ2 H2 h2 r2 k2 => ?_
  refine hh F σ ρ2 H2 _ _ r2 h2 fun hi ρ3 H3 h3 r3 k3 => ?_
  split at h3
  · rename_i ds e
    obtain ⟨p, vs, rfl, sq, rd⟩ := view_lst r3 ((i1.keep k2).keep k3) e
    exact ⟨p, vs, rfl, sq, fun p' hp => (((k.after k1).after k2).after k3).new r3 h3 (cut_rep rd) hp⟩
  · exact h3.elim
end
end L2
set_option Elab.async false
set_option linter.all false
set_option maxRecDepth 100000
namespace L2
open PySem PySem.Spec PyProof.Rows
noncomputable def slotR (ρ : En) : R → Sv
  | .d d => .vl d
  | .o j => gt ρ j
  | _ => .un
noncomputable def Src (K : PySem.W.Frag) (F : Fr) (σ : St) (ρ : En) (H : Hp) (ov : Option V) : R → Prop
  | .d d => ∃ v, ov = some v ∧ RepD K (hid H (hs F σ ρ)) v d
  | .o j => (σ[j]?).getD none = ov
  | _ => True
inductive Srcs (K : PySem.W.Frag) (F : Fr) (σ : St) (ρ : En) (H : Hp) : St → List R → Prop
  | nil : Srcs K F σ ρ H [] []
  | cons {v : Option V} {r : R} {vs : St} {rs : List R} : Src K F σ ρ H v r → Srcs K F σ ρ H vs rs → Srcs K F σ ρ H (v :: vs) (r :: rs)
noncomputable def isO (j : Nat) : R → Bool
  | .o i => i == j
  | _ => false
noncomputable def dis : List R → Bool
  | [] => true
  | .o j :: rs => rs.all (fun r => !isO j r) && dis rs
  | _ :: rs => dis rs
theorem dis_uniq : ∀ {rs : List R} {k k' j : Nat}, dis rs = true → rs[k]? = some (.o j) → rs[k']? = some (.o j) → k = k' := by
  intro rs
  induction rs with
  | nil => intro k k' j _ h; simp at h
  | cons r rs ih =>
    intro k k' j hd h h'
    have hd' : dis rs = true := by
      cases r <;> simp [dis] at hd <;> first | exact hd.2 | exact hd
    have no : ∀ (m : Nat), r = .o j → rs[m]? = some (.o j) → False := fun m e hm => by
      subst e
      simp [dis] at hd
      have := hd.1 _ (List.mem_of_getElem? hm)
      simp [isO] at this
    cases k with
    | zero =>
      cases k' with
      | zero => rfl
      | succ k' => simp at h h'; exact (no k' h h').elim
    | succ k =>
      cases k' with
      | zero => simp at h h'; exact (no k h' h).elim
      | succ k' => simp at h h'; rw [ih hd' h h']
noncomputable def back : En → List R → En → En
  | ρ, .o j :: rs, s :: ss => back (pt ρ j s) rs ss
  | ρ, _ :: rs, _ :: ss => back ρ rs ss
  | ρ, _, _ => ρ
theorem back_len : ∀ (rs : List R) (ρ ss : En), (back ρ rs ss).length = ρ.length
  | [], ρ, ss => by cases ss <;> rfl
  | r :: rs, ρ, [] => by cases r <;> rfl
  | .o j :: rs, ρ, s :: ss => by show (back (pt ρ j s) rs ss).length = _; rw [back_len, pt_len]
  | .d d :: rs, ρ, s :: ss => back_len rs ρ ss
  | .n d :: rs, ρ, s :: ss => back_len rs ρ ss
  | .t d :: rs, ρ, s :: ss => back_len rs ρ ss
theorem back_ne : ∀ (rs : List R) (ρ ss : En) (i : Nat), (∀ k : Nat, rs[k]? ≠ some (R.o i)) → gt (back ρ rs ss) i = gt ρ i
  | [], ρ, ss, i, _ => by cases ss <;> rfl
  | r :: rs, ρ, [], i, _ => by cases r <;> rfl
  | .o j :: rs, ρ, s :: ss, i, h => by
    have ne : j ≠ i := fun e => h 0 (by simp [e])
    show gt (back (pt ρ j s) rs ss) i = _
    rw [back_ne rs _ ss i (fun k z => h (k + 1) (by simpa using z)), gt_pt_ne ρ j i s ne]
  | .d d :: rs, ρ, s :: ss, i, h => back_ne rs ρ ss i (fun k z => h (k + 1) (by simpa using z))
  | .n d :: rs, ρ, s :: ss, i, h => back_ne rs ρ ss i (fun k z => h (k + 1) (by simpa using z))
  | .t d :: rs, ρ, s :: ss, i, h => back_ne rs ρ ss i (fun k z => h (k + 1) (by simpa using z))
theorem back_at : ∀ (rs : List R) (ρ ss : En) (i k : Nat), dis rs = true → rs[k]? = some (.o i) → ss.length = rs.length → i < ρ.length → gt (back ρ rs ss) i = gt ss k
  | [], ρ, ss, i, k, _, h, _, _ => by simp at h
  | r :: rs, ρ, [], i, k, _, _, e, _ => by simp at e
  | .o j :: rs, ρ, s :: ss, i, 0, hd, h, e, l => by
    simp at h; subst h
    simp [dis] at hd
    show gt (back (pt ρ j s) rs ss) j = s
    rw [back_ne rs _ ss j (fun k z => by have := hd.1 _ (List.mem_of_getElem? z); simp [isO] at this), gt_pt ρ j s l]
  | .o j :: rs, ρ, s :: ss, i, k + 1, hd, h, e, l => by
    simp [dis] at hd
    exact back_at rs (pt ρ j s) ss i k hd.2 (by simpa using h) (by simpa using e) (by rw [pt_len]; exact l)
  | .d d :: rs, ρ, s :: ss, i, 0, hd, h, e, l => by simp at h
  | .n d :: rs, ρ, s :: ss, i, 0, hd, h, e, l => by simp at h
  | .t d :: rs, ρ, s :: ss, i, 0, hd, h, e, l => by simp at h
  | .d d :: rs, ρ, s :: ss, i, k + 1, hd, h, e, l => back_at rs ρ ss i k hd (by simpa using h) (by simpa using e) l
  | .n d :: rs, ρ, s :: ss, i, k + 1, hd, h, e, l => back_at rs ρ ss i k hd (by simpa using h) (by simpa using e) l
  | .t d :: rs, ρ, s :: ss, i, k + 1, hd, h, e, l => back_at rs ρ ss i k hd (by simpa using h) (by simpa using e) l
theorem gt_map (ρ : En) : ∀ (rs : List R) (k : Nat), gt (rs.map (slotR ρ)) k = (match rs[k]? with | some r => slotR ρ r | none => .un)
  | [], k => by simp [gt]
  | r :: rs, 0 => by simp [gt]
  | r :: rs, k + 1 => by simp [gt, gt_map ρ rs k]
section
variable {K : PySem.W.Frag} {F : Fr} {σ : St} {ρ ρ' : En} {H H' : Hp} {ovs : St} {rs : List R}
theorem Srcs.length (s : Srcs K F σ ρ H ovs rs) : ovs.length = rs.length := by
  induction s with
  | nil => rfl
  | cons _ _ ih => simp [ih]
theorem Srcs.get {k : Nat} {r : R} (s : Srcs K F σ ρ H ovs rs) (h : rs[k]? = some r) : ∃ ov, ovs[k]? = some ov ∧ Src K F σ ρ H ov r := by
  induction s generalizing k with
  | nil => simp at h
  | cons a _ ih =>
    cases k with
    | zero => simp at h; subst h; exact ⟨_, rfl, a⟩
    | succ k => obtain ⟨ov, e, q⟩ := ih (by simpa using h); exact ⟨ov, by simpa using e, q⟩
noncomputable def subFr (F : Fr) (σ : St) (ρ : En) (H : Hp) (ovs : St) (ss : En) : Fr :=
  ⟨H, fun a => F.Z a ∨ (owned σ ρ a ∧ ¬ owned ovs ss a), fun a => owned ovs ss a, fun i a => (gt ss i).own = true ∧ ovs[i]? = some (some (.ref a)), fun _ _ => False⟩
theorem sub_own (s : Srcs K F σ ρ H ovs rs) {k : Nat} (h : (gt (rs.map (slotR ρ)) k).own = true) : ∃ j : Nat, rs[k]? = some (R.o j) ∧ (gt ρ j).own = true ∧ gt (rs.map (slotR ρ)) k = gt ρ j ∧ ovs[k]? = some ((σ[j]?).getD none) := by
  rw [gt_map] at h
  cases e : rs[k]? with
  | none => simp [e] at h; cases h
  | some r =>
    rw [e] at h
    cases r with
    | d d => cases h
    | n d => cases h
    | t d => cases h
    | o j =>
      obtain ⟨ov, e1, e2⟩ := s.get e
      exact ⟨j, rfl, h, by rw [gt_map, e]; rfl, by rw [e1, show _ = ov from e2]⟩
theorem getD_ref {x : Option (Option V)} {a : Addr} (h : some (x.getD none) = some (some (V.ref a))) : x = some (some (.ref a)) := by
  cases x with
  | none => simp at h
  | some y => simpa using h
theorem sub_owned (s : Srcs K F σ ρ H ovs rs) {a : Addr} (h : owned ovs (rs.map (slotR ρ)) a) : ∃ k j : Nat, rs[k]? = some (R.o j) ∧ (gt ρ j).own = true ∧ σ[j]? = some (some (V.ref a)) ∧ ovs[k]? = some (some (V.ref a)) := by
  obtain ⟨k, hk, e⟩ := h
  obtain ⟨j, e1, e2, e3, e4⟩ := sub_own s hk
  rw [e] at e4
  exact ⟨k, j, e1, e2, getD_ref e4.symm, e⟩
theorem sub_hs (r : Rel K F σ ρ H) (s : Srcs K F σ ρ H ovs rs) : hs (subFr F σ ρ H ovs (rs.map (slotR ρ))) ovs (rs.map (slotR ρ)) = hs F σ ρ := by
  funext a
  apply propext
  constructor
  · rintro ((h | h) | h)
    · exact .inl h
    · exact .inr h.1
    · obtain ⟨k, j, e1, e2, e3, _⟩ := sub_owned s h
      exact .inr ⟨j, e2, e3⟩
  · rintro (h | h)
    · exact .inl (.inl h)
    · by_cases q : owned ovs (rs.map (slotR ρ)) a
      · exact .inr q
      · exact .inl (.inr ⟨h, q⟩)
theorem Rel.sub (r : Rel K F σ ρ H) (s : Srcs K F σ ρ H ovs rs) (hd : dis rs = true) : Rel K (subFr F σ ρ H ovs (rs.map (slotR ρ))) ovs (rs.map (slotR ρ)) H := by
  refine ⟨by rw [s.length, List.length_map], fun a o e _ => e, fun a z => ?_, fun a h z => ?_, fun i a hi e => .inl ⟨⟨hi, e⟩, i, hi, e⟩, fun i a h => ?_, fun a h => ?_, fun a h => ?_, fun i j a hi hj ei ej => ?_, fun k => ?_⟩
  · rcases z with z | z
    · exact r.zl a z
    · exact owned_alive r z.1
  · obtain ⟨k, j, e1, e2, e3, _⟩ := sub_owned s h
    rcases z with z | z
    · exact r.zo a ⟨j, e2, e3⟩ z
    · exact z.2 h
  · rcases h with h | h
    · exact h.2
    · exact h.elim
  · obtain ⟨k, j, e1, e2, e3, _⟩ := sub_owned s h
    exact owned_alive r ⟨j, e2, e3⟩
  · obtain ⟨k, j, e1, e2, e3, _⟩ := sub_owned s h
    exact owned_alive r ⟨j, e2, e3⟩
  · obtain ⟨p, a1, a2, a3, a4⟩ := sub_own s hi
    obtain ⟨p', b1, b2, b3, b4⟩ := sub_own s hj
    rw [ei] at a4
    rw [ej] at b4
    have : p = p' := r.nd p p' a a2 b2 (getD_ref a4.symm) (getD_ref b4.symm)
    subst this
    exact dis_uniq hd a1 b1
  · rw [sub_hs r s, gt_map]
    cases e : rs[k]? with
    | none => trivial
    | some x =>
      obtain ⟨ov, e1, e2⟩ := s.get e
      cases x with
      | n d => trivial
      | t d => trivial
      | d d => obtain ⟨v, e3, e4⟩ := e2; rw [e1, e3]; exact ⟨v, rfl, e4⟩
      | o j =>
        rw [e1]
        have q := r.sl j
        show SvOk K _ H (some ov) (gt ρ j)
        rw [← show (σ[j]?).getD none = ov from e2]
        cases e5 : σ[j]? with
        | none =>
          rw [e5] at q
          cases hg : gt ρ j with
          | un => trivial
          | vl d => rw [hg] at q; obtain ⟨x, z, _⟩ := q; cases z
          | ow d => rw [hg] at q; obtain ⟨x, _, z, _⟩ := q; cases z
          | tp d => rw [hg] at q; obtain ⟨x, _, _, _, _, z, _⟩ := q; cases z
          | dk d => rw [hg] at q; obtain ⟨x, _, z, _⟩ := q; cases z
          | dt d => rw [hg] at q; obtain ⟨x, _, z, _⟩ := q; cases z
          | ex d m => rw [hg] at q; obtain ⟨x, _, z, _⟩ := q; cases z
        | some y => rw [e5] at q; exact q
theorem Rel.back (r : Rel K F σ ρ H) (s : Srcs K F σ ρ H ovs rs) (hd : dis rs = true) {ss' : En} (r' : Rel K (subFr F σ ρ H ovs (rs.map (slotR ρ))) ovs ss' H') (sb : ∀ i, (gt ss' i).own = true → (gt (rs.map (slotR ρ)) i).own = true) :
    Rel K F σ (L2.back ρ rs ss') H' ∧ Kp σ ρ (L2.back ρ rs ss') H H' ∧ Same (hid H' (hs (subFr F σ ρ H ovs (rs.map (slotR ρ))) ovs ss')) (hid H' (hs F σ (L2.back ρ rs ss'))) := by
  have ln : ss'.length = rs.length := by rw [← r'.len, s.length]
  have cs : ∀ i : Nat, (∃ k : Nat, rs[k]? = some (R.o i) ∧ i < ρ.length ∧ gt (L2.back ρ rs ss') i = gt ss' k) ∨ ((∀ k : Nat, i < ρ.length → rs[k]? ≠ some (R.o i)) ∧ gt (L2.back ρ rs ss') i = gt ρ i) := fun i => by
    by_cases hi : i < ρ.length
    · by_cases q : ∃ k : Nat, rs[k]? = some (R.o i)
      · obtain ⟨k, e⟩ := q
        exact .inl ⟨k, e, hi, back_at rs ρ ss' i k hd e ln hi⟩
      · exact .inr ⟨fun k _ z => q ⟨k, z⟩, back_ne rs ρ ss' i fun k z => q ⟨k, z⟩⟩
    · refine .inr ⟨fun k z => absurd z hi, ?_⟩
      rw [gt_out _ i (by rw [back_len]; (clear ln hd; omega)), gt_out _ i (by first | assumption | decide | (clear ln hd; omega))]
  have own' : ∀ i, (gt (L2.back ρ rs ss') i).own = true → (gt ρ i).own = true := fun i h => by
    rcases cs i with ⟨k, e, hi, g⟩ | ⟨_, g⟩
    · rw [g] at h
      have := sb k h
      rw [gt_map, e] at this
      exact this
    · rw [g] at h; exact h
  have subo : ∀ {a}, owned σ (L2.back ρ rs ss') a → owned σ ρ a := fun ⟨i, hi, e⟩ => ⟨i, own' i hi, e⟩
  have no : ∀ a, ¬ owned σ ρ a → ¬ owned ovs (rs.map (slotR ρ)) a := fun a h z => by
    obtain ⟨k, j, e1, e2, e3, _⟩ := sub_owned s z
    exact h ⟨j, e2, e3⟩
  have st : ∀ a o, H a = some o → ¬ owned ovs (rs.map (slotR ρ)) a → H' a = some o := fun a o e n => r'.fr a o e n
  have hsub : ∀ a, hs F σ (L2.back ρ rs ss') a → hs (subFr F σ ρ H ovs (rs.map (slotR ρ))) ovs ss' a := fun a h => by
    rcases h with h | ⟨i, hi, e⟩
    · exact .inl (.inl h)
    · rcases cs i with ⟨k, e1, hl, g⟩ | ⟨n, g⟩
      · right
        rw [g] at hi
        obtain ⟨ov, q1, q2⟩ := s.get e1
        refine ⟨k, hi, ?_⟩
        rw [q1, ← show (σ[i]?).getD none = ov from q2, e]
        rfl
      · left; right
        rw [g] at hi
        refine ⟨⟨i, hi, e⟩, fun z => ?_⟩
        obtain ⟨k, j, e1, e2, e3, _⟩ := sub_owned s z
        have : i = j := r.nd i j a hi e2 e e3
        subst this
        exact n k (own_lt hi) e1
  have v1 : Same (hid H' (hs (subFr F σ ρ H ovs (rs.map (slotR ρ))) ovs ss')) (hid H' (hs F σ (L2.back ρ rs ss'))) := hid_same fun a o e n => ⟨e, fun z => n (hsub a z)⟩
  have v2 : Same (hid H (hs F σ ρ)) (hid H' (hs F σ (L2.back ρ rs ss'))) := hid_same fun a o e n => ⟨st a o e (no a fun z => n (.inr z)), fun z => n (z.imp id subo)⟩
  refine ⟨⟨by rw [back_len, r.len], fun a o e n => ?_, fun a z => r'.zl a (.inl z), fun a h => r.zo a (subo h), fun i a hi e => r.ow i a (own' i hi) e, r.mi, r.ml, fun a z => ?_, fun i j a hi hj ei ej => r.nd i j a (own' i hi) (own' j hj) ei ej, fun i => ?_⟩, ⟨fun a o e n => st a o e (no a n), own'⟩, v1⟩
  · have e1 := r.fr a o e n
    refine st a o e1 fun z => ?_
    obtain ⟨k, j, h1, h2, h3, _⟩ := sub_owned s z
    rcases r.ow j a h2 h3 with q | q
    · exact n q.2
    · rw [e] at q; cases q
  · by_cases q : owned ovs (rs.map (slotR ρ)) a
    · exact r'.ma a q
    · cases h : H a with
      | none => exact absurd h (r.ma a z)
      | some o => rw [st a o h q]; exact fun z => nomatch z
  · rcases cs i with ⟨k, e1, hl, g⟩ | ⟨n, g⟩
    · rw [g]
      have q := (r'.sl k).keep v1 fun _ _ _ _ e => e
      obtain ⟨ov, q1, q2⟩ := s.get e1
      rw [q1, ← show (σ[i]?).getD none = ov from q2] at q
      cases e5 : σ[i]? with
      | none =>
        rw [e5] at q
        cases hg : gt ss' k with
        | un => trivial
        | vl d => rw [hg] at q; obtain ⟨x, z, _⟩ := q; cases z
        | ow d => rw [hg] at q; obtain ⟨x, _, z, _⟩ := q; cases z
        | tp d => rw [hg] at q; obtain ⟨x, _, _, _, _, z, _⟩ := q; cases z
        | dk d => rw [hg] at q; obtain ⟨x, _, z, _⟩ := q; cases z
        | dt d => rw [hg] at q; obtain ⟨x, _, z, _⟩ := q; cases z
        | ex d m => rw [hg] at q; obtain ⟨x, _, z, _⟩ := q; cases z
      | some y => rw [e5] at q; exact q
    · rw [g]
      refine (r.sl i).keep v2 fun l o ho e h => st l o h fun z => ?_
      obtain ⟨k, j, e1, e2, e3, _⟩ := sub_owned s z
      have : i = j := r.nd i j l ho e2 e e3
      subst this
      exact n k (own_lt ho) e1
end
noncomputable abbrev ASp := En → Ko → Prop
noncomputable def F0 (vs : List V) (ss : En) (H : Hp) (Z : Addr → Prop) : Fr := ⟨H, Z, fun a => owned (vs.map some) ss a, fun i a => (gt ss i).own = true ∧ (vs.map some)[i]? = some (some (.ref a)), fun _ _ => False⟩
noncomputable def spA (K : PySem.W.Frag) (S : ASp) : Sp := fun vs H Q _ => ∃ ss Z q, Rel K (F0 vs ss H Z) (vs.map some) ss H ∧ S ss q ∧
  ∀ r ss' v H', q r ss' → (∀ i, (gt ss' i).own = true → (gt ss i).own = true) → (∀ i, r ≠ .o i) → RelR K (F0 vs ss H Z) (vs.map some) ss' v H' r → Q v H'
noncomputable def aCall (S : ASp) (as : AA) : AE := fun ρ q => as ρ fun rs ρ1 => dis rs = true ∧ S (rs.map (slotR ρ1)) fun r ss' => q r (back ρ1 rs ss')
section
variable {K : PySem.W.Frag} {F : Fr} {σ : St} {ρ ρ' : En} {H H' : Hp} {ovs : St} {rs : List R}
theorem InFs.srcs {vs : List V} (h : InFs K F σ ρ H vs rs) : Srcs K F σ ρ H (vs.map some) rs := by
  induction h with
  | nil => exact .nil
  | cons a t ih =>
    rename_i v r vs rs
    refine .cons ?_ ih
    cases r with
    | d d => exact ⟨v, rfl, a⟩
    | o j => show (σ[j]?).getD none = some v; rw [show σ[j]? = _ from a]; rfl
    | n s => trivial
    | t n => trivial
theorem tok_call {S : ASp} {E : XK} {ts : TA} {as : AA} (hs' : TAok K ts as) : TEok K (tCall (spA K S) [] E ts) (aCall S as) := by
  intro F σ ρ H q Q r h k
  refine hs' F σ ρ H _ _ r h fun rs ρ1 vs H1 h1 r1 i1 k1 => ?_
  obtain ⟨hd, hS⟩ := h1
  have s := i1.srcs
  rw [List.append_nil]
  refine ⟨rs.map (slotR ρ1), (subFr F σ ρ1 H1 (vs.map some) (rs.map (slotR ρ1))).Z, _, r1.sub s hd, hS, fun rr ss' v H' hq sb no out => ?_⟩
  refine (k.after k1) rr (back ρ1 rs ss') v H' hq ?_
  cases rr with
  | o i => exact absurd rfl (no i)
  | d d =>
    obtain ⟨a, b⟩ := out
    obtain ⟨x, y, z⟩ := r1.back s hd a sb
    exact ⟨x, y, RepD.same b z⟩
  | t n =>
    obtain ⟨a, b⟩ := out
    obtain ⟨x, y, z⟩ := r1.back s hd a sb
    exact ⟨x, y, b⟩
  | n sv =>
    obtain ⟨Hb, l, o, a, b, c, e1, e2, e3⟩ := out
    obtain ⟨x, y, z⟩ := r1.back s hd a sb
    exact ⟨Hb, l, o, x, y, b, c.keep z fun _ _ _ _ e => e, e1, e2, e3⟩
end
end L2
set_option Elab.async false
set_option linter.all false
set_option maxRecDepth 100000
namespace L2
open PySem PySem.Spec PyProof.Rows
section
variable {K : PySem.W.Frag} {F : Fr} {σ σ' : St} {ρ ρ' : En} {H H' : Hp}
open Classical in
noncomputable def rebase (F : Fr) (σ : St) (ρ : En) (H : Hp) (pin : Nat → Bool) : Fr :=
  ⟨fun a => if owned σ ρ a ∧ F.H0 a = none then none else H a, F.Z, fun a => F.M a ∧ owned σ ρ a, F.I, fun i a => F.P i a ∨ (pin i = true ∧ σ[i]? = some (some (.ref a)))⟩
open Classical in
theorem rb_some {pin : Nat → Bool} {a : Addr} {o : HO} (h : ¬ (owned σ ρ a ∧ F.H0 a = none)) (e : H a = some o) : (rebase F σ ρ H pin).H0 a = some o := by
  show (if owned σ ρ a ∧ F.H0 a = none then none else H a) = some o
  rw [if_neg h]; exact e
open Classical in
theorem rb_inv {pin : Nat → Bool} {a : Addr} {o : HO} (e : (rebase F σ ρ H pin).H0 a = some o) : H a = some o := by
  have e' : (if owned σ ρ a ∧ F.H0 a = none then none else H a) = some o := e
  split at e'
  · cases e'
  · exact e'
open Classical in
theorem Rel.rebase (r : Rel K F σ ρ H) (pin : Nat → Bool) : Rel K (L2.rebase F σ ρ H pin) σ ρ H where
  len := r.len
  fr := fun a o e _ => rb_inv e
  zl := r.zl
  zo := r.zo
  ow := fun i a hi e => by
    rcases r.ow i a hi e with ⟨h1, h2⟩ | h
    · exact .inl ⟨h1, h2, i, hi, e⟩
    · refine .inr ?_
      show (if owned σ ρ a ∧ F.H0 a = none then none else H a) = none
      rw [if_pos ⟨⟨i, hi, e⟩, h⟩]
  mi := fun i a h => by
    rcases h with h | h | h
    · exact r.mi i a (.inl h)
    · exact r.mi i a (.inr h)
    · exact h.2
  ml := fun a h => by
    cases e : H a with
    | none => exact absurd e (r.ma a h.1)
    | some o => rw [rb_some (fun z => r.ml a h.1 z.2) e]; exact fun z => nomatch z
  ma := fun a h => r.ma a h.1
  nd := r.nd
  sl := r.sl
theorem Rel.unbase {pin : Nat → Bool} (r : Rel K F σ ρ H) (r' : Rel K (L2.rebase F σ ρ H pin) σ' ρ' H') : Rel K F σ' ρ' H' ∧ Same (hid H (hs F σ ρ)) (hid H' (hs F σ' ρ')) := by
  refine ⟨⟨r'.len, fun a o e n => ?_, r'.zl, r'.zo, fun i a hi e => ?_, fun i a h => r'.mi i a (h.imp id .inl), r.ml, fun a h => ?_, r'.nd, r'.sl⟩, hid_same fun a o e n => ?_⟩
  · exact r'.fr a o (rb_some (fun z => by rw [e] at z; cases z.2) (r.fr a o e n)) fun z => n z.1
  · rcases r'.ow i a hi e with ⟨h1, h2⟩ | h
    · exact .inl ⟨h1, h2.1⟩
    · right
      cases h0 : F.H0 a with
      | none => rfl
      | some o =>
        exfalso
        have nn : H a ≠ none := by
          by_cases q : F.M a
          · exact r.ma a q
          · rw [r.fr a o h0 q]; exact fun z => nomatch z
        cases e2 : H a with
        | none => exact nn e2
        | some u =>
          rw [rb_some (fun z => by rw [h0] at z; cases z.2) e2] at h
          cases h
  · by_cases q : owned σ ρ a
    · exact r'.ma a ⟨h, q⟩
    · cases e : H a with
      | none => exact absurd e (r.ma a h)
      | some o => rw [r'.fr a o (rb_some (fun z => q z.1) e) fun z => q z.2]; exact fun z => nomatch z
  · have n' : ¬ owned σ ρ a := fun z => n (.inr z)
    have e0 := rb_some (F := F) (pin := pin) (fun z => n' z.1) e
    refine ⟨r'.fr a o e0 fun z => n' z.2, fun z => ?_⟩
    rcases z with z | ⟨i, hi, ei⟩
    · exact n (.inl z)
    · rcases r'.ow i a hi ei with ⟨_, h2⟩ | h
      · exact n' h2.2
      · rw [e0] at h; cases h
theorem RelR.unbase {pin : Nat → Bool} {v : V} {rr : R} (r : Rel K F σ ρ H) (r' : RelR K (L2.rebase F σ ρ H pin) σ' ρ' v H' rr) : RelR K F σ' ρ' v H' rr := by
  cases rr with
  | d d => exact ⟨(r.unbase r'.1).1, r'.2⟩
  | o d => exact ⟨(r.unbase r'.1).1, r'.2⟩
  | t d => exact ⟨(r.unbase r'.1).1, r'.2⟩
  | n s =>
    obtain ⟨Hb, l, o, a, b, c, e⟩ := r'
    exact ⟨Hb, l, o, (r.unbase a).1, b, c, e⟩
end
structure EndOk (K : PySem.W.Frag) (F : Fr) (D : Ends) (e : AEnds) : Prop where
  nx : ∀ σ' ρ' H', e.nx ρ' → Rel K F σ' ρ' H' → D.nx σ' H'
  bk : ∀ σ' ρ' H', e.bk ρ' → Rel K F σ' ρ' H' → D.bk σ' H'
  ct : ∀ σ' ρ' H', e.ct ρ' → Rel K F σ' ρ' H' → D.ct σ' H'
  rt : ∀ σ' ρ' r v H', e.rt r ρ' → RelR K F σ' ρ' v H' r → D.rt v H'
noncomputable def TSok (K : PySem.W.Frag) (pr : Nat → Bool) (t : TS) (a : AS) : Prop := ∀ F σ ρ H D e, (∀ i a, F.pin i a → pr i = true) → Rel K F σ ρ H → a e ρ → EndOk K F D e → t D σ H
noncomputable abbrev AG := D → En → (En → Prop) → Prop
noncomputable def TGok (K : PySem.W.Frag) (pr : Nat → Bool) (g : TG) (ag : AG) : Prop := ∀ F σ ρ H v d k Q, (∀ i a, F.pin i a → pr i = true) → Rel K F σ ρ H → RepD K (hid H (hs F σ ρ)) v d → ag d ρ k →
  (∀ σ' ρ', k ρ' → Rel K F σ' ρ' H → σ'.length = σ.length → (∀ i, pr i = true → σ'[i]? = σ[i]?) → (∀ i, (gt ρ' i).own = true → (gt ρ i).own = true ∧ σ'[i]? = σ[i]?) → Q σ' H) → g v σ H Q
section
variable {K : PySem.W.Frag} {pr : Nat → Bool} {t u : TS} {a b : AS} {te : TE} {ae : AE} {tt : TT} {at' : AT}
theorem nopin {F : Fr} {i : Nat} (hp : ∀ i a, F.pin i a → pr i = true) (h : pr i = false) : ∀ a, ¬ F.pin i a := fun a z => by rw [hp i a z] at h; cases h
noncomputable def gaName (i : Nat) : AG := fun d ρ k => k (pt ρ i (.vl d))
theorem tgok_name {i : Nat} (h : pr i = false) : TGok K pr (gName i) (gaName i) := by
  intro F σ ρ H v d k Q hp r hd ha kk
  refine kk _ _ ha (r.set hd (nopin hp h)) (by rw [List.length_set]) (fun j hj => ?_) fun j hj => ?_
  · rw [List.getElem?_set_ne]; rintro rfl; rw [h] at hj; cases hj
  · obtain ⟨ne, q⟩ := own_set rfl hj
    exact ⟨q, by rw [List.getElem?_set_ne ne]⟩
theorem own_vis {F : Fr} {σ σ' : St} {ρ ρ' : En} {H : Hp} (h : ∀ i, (gt ρ' i).own = true → (gt ρ i).own = true ∧ σ'[i]? = σ[i]?) : Same (hid H (hs F σ ρ)) (hid H (hs F σ' ρ')) := hid_same fun a o e n => ⟨e, fun z => by
  rcases z with z | ⟨i, hi, ei⟩
  · exact n (.inl z)
  · obtain ⟨q1, q2⟩ := h i hi
    exact n (.inr ⟨i, q1, q2 ▸ ei⟩)⟩
noncomputable def aNext : AS := fun e ρ => e.nx ρ
noncomputable def aSeq (a b : AS) : AS := fun e ρ => a { e with nx := b e } ρ
theorem sok_next : TSok K pr tNext aNext := fun F σ ρ H D e hp r h k => k.nx _ _ _ h r
theorem sok_seq (ha : TSok K pr t a) (hb : TSok K pr u b) : TSok K pr (tSeq t u) (aSeq a b) := fun F σ ρ H D e hp r h k =>
  ha F σ ρ H _ _ hp r h ⟨fun σ' ρ' H' h' r' => hb F σ' ρ' H' D e hp r' h' k, k.bk, k.ct, k.rt⟩
noncomputable def aDrop (x : AE) : AS := fun e ρ => x ρ fun _ ρ1 => e.nx ρ1
theorem sok_drop (h : TEok K te ae) : TSok K pr (tDrop te) (aDrop ae) := fun F σ ρ H D e hp r ha k =>
  h F σ ρ H _ _ r ha fun r1 ρ1 v H1 h1 o => k.nx _ _ _ h1 o.inF.1
noncomputable def aRet (x : AE) : AS := fun e ρ => x ρ e.rt
theorem sok_ret (h : TEok K te ae) : TSok K pr (tRet te) (aRet ae) := fun F σ ρ H D e hp r ha k =>
  h F σ ρ H _ _ r ha fun r1 ρ1 v H1 h1 o => k.rt _ _ _ _ _ h1 o.rel
noncomputable def aIfS (c : AT) (a b : AS) : AS := fun e ρ => c ρ fun k ρ1 => if k = true then a e ρ1 else b e ρ1
theorem sok_if (hc : TTok K tt at') (ha : TSok K pr t a) (hb : TSok K pr u b) : TSok K pr (tIfS tt t u) (aIfS at' a b) := by
  intro F σ ρ H D e hp r h k
  refine hc F σ ρ H _ _ r h fun c ρ1 H1 h1 r1 k1 => ?_
  cases c with
  | true => exact ha F σ ρ1 H1 D e hp r1 h1 k
  | false => exact hb F σ ρ1 H1 D e hp r1 h1 k
noncomputable def stS (i : Nat) : R → En → (En → Prop) → Prop
  | .d d, ρ, k => k (pt ρ i (.vl d))
  | .n s, ρ, k => k (pt ρ i s)
  | .o j, ρ, k => (match gt ρ j with
    | .ow ds => k (pt (pt ρ j (.vl (.lst ds))) i (.vl (.lst ds)))
    | .vl d => k (pt ρ i (.vl d))
    | .ex C fs => k (pt ρ i (.ex C fs))
    | _ => False)
  | .t _, _, _ => False
noncomputable def aSet (i : Nat) (x : AE) : AS := fun e ρ => x ρ fun r ρ1 => stS i r ρ1 e.nx
theorem set_ok {i : Nat} (hi : pr i = false) (h : TEok K te ae) : TSok K pr (fun D σ H => te σ H fun v H' => D.nx (σ.set i (some v)) H') (aSet i ae) := by
  intro F σ ρ H D e hp r ha k
  refine h F σ ρ H _ _ r ha fun r1 ρ1 v H1 h1 o => ?_
  have np := nopin hp hi
  cases r1 with
  | d d => exact k.nx _ _ _ h1 (o.1.set o.2.2 np)
  | t n => exact h1.elim
  | n s =>
    obtain ⟨Hb, l, u, a1, a2, a3, a4, a5, rfl, rfl⟩ := o
    exact k.nx _ _ _ h1 (a1.setF a3 a4 a5 np)
  | o j =>
    obtain ⟨r1, k1, ej⟩ := o
    have h2 : (match gt ρ1 j with
      | .ow ds => e.nx (pt (pt ρ1 j (.vl (.lst ds))) i (.vl (.lst ds)))
      | .vl d => e.nx (pt ρ1 i (.vl d))
      | .ex C fs => e.nx (pt ρ1 i (.ex C fs))
      | _ => False) := h1
    clear h1
    split at h2
    · rename_i ds hg
      obtain ⟨l, el, r2, k2, rd⟩ := r1.frz hg
      rw [ej] at el
      injection el with el; injection el with el; subst el
      exact k.nx _ _ _ h2 (r2.set rd np)
    · rename_i d hg
      have q := r1.sl j
      rw [hg] at q
      obtain ⟨x, e1, e2⟩ := q
      rw [ej] at e1
      injection e1 with e1; injection e1 with e1; subst e1
      exact k.nx _ _ _ h2 (r1.set e2 np)
    · rename_i C fs hg
      have q := r1.sl j
      rw [hg, ej] at q
      exact k.nx _ _ _ h2 (r1.setS rfl q np)
    · exact h2.elim
theorem sok_set {i : Nat} (h : TEok K te ae) (hi : pr i = false) : TSok K pr (tAsg te (gName i)) (aSet i ae) := set_ok hi h
theorem sok_setC {i n : Nat} {js : List Nat} {wi : TI} {g : TG} {tc : TT} (h : TEok K (tComp n js wi g tc te) ae) (hi : pr i = false) : TSok K pr (fun D σ H => tComp n js wi g tc te σ H fun v H' => D.nx (σ.set i (some v)) H') (aSet i ae) := set_ok hi h
noncomputable abbrev AI := En → (List D → (En → Prop) → En → Prop) → Prop
noncomputable def WkAt (K : PySem.W.Frag) (S : Addr → Prop) (H : Hp) (J : It) (ds : List D) : Prop := ∀ k : Nat, (∀ d, ds[k]? = some d → J.go k H ∧ ∀ x H', J.yld k H x H' → Same H H' ∧ RepD K (hid H' S) x d) ∧ (ds.length ≤ k → J.stop k H)
noncomputable def TIok (K : PySem.W.Frag) (pin : Nat → Bool) (wi : TI) (ai : AI) : Prop := ∀ F σ ρ H q Rk, Rel K F σ ρ H → ai ρ q → (∀ ds c ρ' J H', q ds c ρ' → Rel K F σ ρ' H' → Kp σ ρ ρ' H H' →
  (∀ σ2 ρ2 H2, Same (hid H' (hs F σ ρ')) (hid H2 (hs F σ2 ρ2)) → (∀ i, SvOk K (hid H2 (hs F σ2 ρ2)) H2 σ2[i]? (gt ρ2 i)) → (∀ j a, pin j = true → σ[j]? = some (some (.ref a)) → σ2[j]? = some (some (.ref a))) → (∀ a, hs F σ2 ρ2 a → H2 a ≠ none) → c ρ2 → WkAt K (hs F σ2 ρ2) H2 J ds) → Rk J H') → wi σ H Rk
noncomputable def rngD (lo : Int) (n : Nat) : List D := (List.range n).map fun (i : Nat) => D.int (lo + (i : Nat))
theorem rngD_len (lo : Int) (n : Nat) : (rngD lo n).length = n := by simp [rngD]
theorem wk_rng {S : Addr → Prop} {H : Hp} {lo : Int} {n : Nat} : WkAt K S H (Itr lo n) (rngD lo n) := by
  intro k
  constructor
  · intro d h
    unfold rngD at h
    rw [List.getElem?_map] at h
    obtain ⟨j, e1, e2⟩ := Option.map_eq_some_iff.mp h
    have lt : k < n := by
      rcases Nat.lt_or_ge k n with q | q
      · exact q
      · rw [List.getElem?_eq_none (by simpa using q)] at e1; cases e1
    rw [List.getElem?_range lt] at e1
    cases e1
    refine ⟨lt, fun x H' z => ⟨z.1 ▸ Same.refl H, ?_⟩⟩
    rw [z.2, ← e2]
    unfold RepD; rfl
  · intro h; rw [rngD_len] at h; exact h
noncomputable def aRng1 (as : AA) : AI := fun ρ q => as ρ fun rs ρ1 => match rs with
  | [.d (.int j)] => (-(2 ^ 62) ≤ j ∧ j < 2 ^ 62) ∧ q (rngD 0 j.toNat) (fun _ => True) ρ1
  | _ => False
noncomputable def aRng2 (as : AA) : AI := fun ρ q => as ρ fun rs ρ1 => match rs with
  | [.d (.int i), .d (.int j)] => (-(2 ^ 62) ≤ i ∧ i < 2 ^ 62 ∧ -(2 ^ 62) ≤ j ∧ j < 2 ^ 62) ∧ q (rngD i (j - i).toNat) (fun _ => True) ρ1
  | _ => False
theorem tiok_rng1 {pin : Nat → Bool} {ta : TA} {as : AA} (h : TAok K ta as) : TIok K pin (iRng1 ta) (aRng1 as) := by
  intro F σ ρ H q Rk r ha k
  refine h F σ ρ H _ _ r ha fun rs ρ1 vs H1 h1 r1 i1 k1 => ?_
  split at h1
  · obtain ⟨x, rfl, i⟩ := i1.one
    exact ⟨_, by rw [i.int], h1.1.1, h1.1.2, k _ _ _ _ _ h1.2 r1 k1 fun _ _ _ _ _ _ _ _ => wk_rng⟩
  · exact h1.elim
theorem tiok_rng2 {pin : Nat → Bool} {ta : TA} {as : AA} (h : TAok K ta as) : TIok K pin (iRng2 ta) (aRng2 as) := by
  intro F σ ρ H q Rk r ha k
  refine h F σ ρ H _ _ r ha fun rs ρ1 vs H1 h1 r1 i1 k1 => ?_
  split at h1
  · obtain ⟨x, y, rfl, i, j⟩ := i1.two
    exact ⟨_, _, by rw [i.int, j.int], h1.1, k _ _ _ _ _ h1.2 r1 k1 fun _ _ _ _ _ _ _ _ => wk_rng⟩
  · exact h1.elim
noncomputable def iSeq (K : PySem.W.Frag) (tl : TE) : TI := fun σ H R => tl σ H fun x H1 => ∃ a, x = .ref a ∧ (((∃ xs, SqL K H1 a xs) ∧ R (Itl K a) H1) ∨ ((∃ xs, SqT K H1 a xs) ∧ R (Itt K a) H1))
theorem pi_seq {X : Cx} {tg l : Expr} {tl : TE} (hl : PE X l tl) : PI X tg l (iSeq X.K tl) := by
  intro pins s σ H R I h
  refine thn (hl pins s σ H _ I h) fun v s1 hZq => ?_
  obtain ⟨x, H1, I1, r1, q1⟩ := hZq
  obtain ⟨a, e, ⟨⟨xs, hq⟩, q⟩ | ⟨⟨xs, hq⟩, q⟩⟩ := q1
  · subst e
    cases r1
    obtain ⟨its, rv, p, hz⟩ := I1.list hq
    refine wpAny_pyIter_list p.isList ?_
    refine ⟨s1.heap.objs.size, [s1.heap.objs.size], _, _, H1, rfl, I1.kept (t' := s1.toks) fun b o e => Heap.get?_push_of_some _ e, turn_list a _, ⟨_, Heap.get?_push_size _ rfl, rfl, rfl⟩, fun b hb => ?_, q⟩
    have e : b = s1.heap.objs.size := by simpa using hb
    subst e
    exact I1.fpOk (Nat.le_refl _) (I1.hok.fresh (Nat.le_refl _))
  · subst e
    cases r1
    obtain ⟨its, rv, p, hz⟩ := I1.tuple hq
    refine wpAny_pyIter_tuple (show s1.heap.IsTuple a its.toArray from p) ?_
    refine ⟨s1.heap.objs.size, [s1.heap.objs.size], _, _, H1, rfl, I1.kept (t' := s1.toks) fun b o e => Heap.get?_push_of_some _ e, turn_tuple a _, ⟨_, Heap.get?_push_size _ rfl, rfl, rfl⟩, fun b hb => ?_, q⟩
    have e : b = s1.heap.objs.size := by simpa using hb
    subst e
    exact I1.fpOk (Nat.le_refl _) (I1.hok.fresh (Nat.le_refl _))
theorem pi_seqK (K : PySem.W.Frag) {X : Cx} {tg l : Expr} {tl : TE} (hl : PE X l tl) (hK : X.K = K := by rfl) : PI X tg l (iSeq K tl) := by subst hK; exact pi_seq hl
theorem wk_lst {S : Addr → Prop} {H : Hp} {a : Addr} {vs : List V} {ds : List D} (h : SqL K H a vs) (rd : RepDs K (hid H S) vs ds) : WkAt K S H (Itl K a) ds := by
  intro k
  constructor
  · intro d e
    obtain ⟨v, e1, rv⟩ := rd.get e
    refine ⟨⟨vs, v, h, e1⟩, fun x H' z => ⟨z.1 ▸ Same.refl H, ?_⟩⟩
    have := z.2 vs h
    rw [e1] at this; cases this; rw [z.1]; exact rv
  · intro z; exact ⟨vs, h, by rw [rd.length]; exact z⟩
theorem wk_tup {S : Addr → Prop} {H : Hp} {a : Addr} {vs : List V} {ds : List D} (h : SqT K H a vs) (rd : RepDs K (hid H S) vs ds) : WkAt K S H (Itt K a) ds := by
  intro k
  constructor
  · intro d e
    obtain ⟨v, e1, rv⟩ := rd.get e
    refine ⟨⟨vs, v, h, e1⟩, fun x H' z => ⟨z.1 ▸ Same.refl H, ?_⟩⟩
    have := z.2 vs h
    rw [e1] at this; cases this; rw [z.1]; exact rv
  · intro z; exact ⟨vs, h, by rw [rd.length]; exact z⟩
noncomputable def aSeqI (pin : Nat → Bool) (x : AE) : AI := fun ρ q => x ρ fun r ρ1 => match r.frz with
  | .d (.lst ds) => q ds (fun _ => True) ρ1
  | .d (.tup ds) => q ds (fun _ => True) ρ1
  | .o i => (match gt ρ1 i with
    | .ow ds => pin i = true ∧ q ds (fun ρ2 => gt ρ2 i = .ow ds) ρ1
    | _ => False)
  | _ => False
theorem tiok_seq {pin : Nat → Bool} (h : TEok K te ae) : TIok K pin (iSeq K te) (aSeqI pin ae) := by
  intro F σ ρ H q Rk r ha k
  refine h F σ ρ H _ _ r ha fun r1 ρ1 x H1 h1 o1 => ?_
  obtain ⟨r', k1, i1⟩ := o1.inF
  split at h1
  · rename_i ds e
    rw [e] at i1
    have rd : RepD K _ x (.lst ds) := i1
    unfold RepD at rd
    obtain ⟨a, vs, rfl, sq, rd⟩ := rd
    refine ⟨a, rfl, .inl ⟨⟨vs, hid_sub.seq sq⟩, k _ _ _ _ _ h1 r' k1 fun σ2 ρ2 H2 sm _ _ _ _ => ?_⟩⟩
    exact wk_lst (hid_sub.seq (sm.seq sq)) (rd.same sm)
  · rename_i ds e
    rw [e] at i1
    have rd : RepD K _ x (.tup ds) := i1
    unfold RepD at rd
    obtain ⟨a, vs, rfl, sq, rd⟩ := rd
    refine ⟨a, rfl, .inr ⟨⟨vs, hid_sub.seqT sq⟩, k _ _ _ _ _ h1 r' k1 fun σ2 ρ2 H2 sm _ _ _ _ => ?_⟩⟩
    exact wk_tup (hid_sub.seqT (sm.seqT sq)) (rd.same sm)
  · rename_i i e
    rw [e] at i1
    have ei : σ[i]? = some (some x) := i1
    split at h1
    · rename_i ds hg
      have s := r'.sl i
      rw [hg, ei] at s
      obtain ⟨a, vs, e1, hl, rd⟩ := s
      injection e1 with e1; injection e1 with e1; subst e1
      refine ⟨a, rfl, .inl ⟨⟨vs, SqL.of hl⟩, k _ _ _ _ _ h1.2 r' k1 fun σ2 ρ2 H2 sm sv pn _ hc => ?_⟩⟩
      have s2 := sv i
      rw [hc, pn i a h1.1 ei] at s2
      obtain ⟨a', vs', e2, hl', rd'⟩ := s2
      injection e2 with e2; injection e2 with e2; injection e2 with e2; subst e2
      exact wk_lst (SqL.of hl') rd'
    · exact h1.elim
  · exact h1.elim
noncomputable def forA (c : En → Prop) (g : AG) (b : AS) (e : AEnds) : List D → En → Prop
  | [], ρ => c ρ ∧ e.nx ρ
  | d :: ds, ρ => c ρ ∧ g d ρ fun ρ1 => b { nx := forA c g b e ds, ct := forA c g b e ds, bk := e.nx, rt := e.rt } ρ1
noncomputable def aFor (i : AI) (g : AG) (b : AS) : AS := fun e ρ => i ρ fun ds c ρ1 => forA c g b e ds ρ1
theorem sok_for {pin : Nat → Bool} {wi : TI} {ai : AI} {g : TG} {ag : AG} (hi : TIok K pin wi ai) (hg : TGok K (fun j => pr j || pin j) g ag) (hb : TSok K (fun j => pr j || pin j) t a) : TSok K pr (tFor wi g t) (aFor ai ag a) := by
  intro F σ ρ H D e hp r ha k
  refine hi F σ ρ H _ _ r ha fun ds c ρ1 J H1 h1 r1 k1 wk => ?_
  have hp' : ∀ i a, (rebase F σ ρ1 H1 pin).pin i a → (pr i || pin i) = true := fun i a h => by
    rcases h with h | h | h
    · rw [hp i a (.inl h)]; rfl
    · rw [hp i a (.inr h)]; rfl
    · rw [h.1]; cases pr i <;> rfl
  have ek : EndOk K (rebase F σ ρ1 H1 pin) D e := ⟨fun _ _ _ h' r' => k.nx _ _ _ h' (r1.unbase r').1, fun _ _ _ h' r' => k.bk _ _ _ h' (r1.unbase r').1, fun _ _ _ h' r' => k.ct _ _ _ h' (r1.unbase r').1, fun _ _ _ _ _ h' r' => k.rt _ _ _ _ _ h' (RelR.unbase r1 r')⟩
  refine ⟨fun i m σ' H' => ∃ ρ', m = ds.length - i ∧ i ≤ ds.length ∧ Rel K (rebase F σ ρ1 H1 pin) σ' ρ' H' ∧ forA c ag a e (ds.drop i) ρ', ⟨ds.length, ρ1, rfl, Nat.zero_le _, r1.rebase pin, h1⟩, ?_⟩
  rintro i m σ' H' ⟨ρ', rfl, hl, r', h'⟩
  have w : c ρ' → WkAt K (hs F σ' ρ') H' J ds := fun hc => wk σ' ρ' H' (r1.unbase r').2 r'.sl (fun j x hj ej => r'.mi j x (.inr (.inr ⟨hj, ej⟩))) (fun a z => hs_alive r' z) hc
  rcases Nat.lt_or_ge i ds.length with q | q
  · right
    rw [List.drop_eq_getElem_cons q] at h'
    unfold forA at h'
    obtain ⟨hc, h'⟩ := h'
    obtain ⟨go, yld⟩ := (w hc i).1 ds[i] (List.getElem?_eq_getElem q)
    refine ⟨go, fun σ2 H2 => ∃ ρ2, Rel K (rebase F σ ρ1 H1 pin) σ2 ρ2 H2 ∧ forA c ag a e (ds.drop (i + 1)) ρ2, fun σ2 H2 ⟨ρ2, r2, h2⟩ => ⟨ds.length - (i + 1), by first | assumption | decide | (clear hl; omega), ρ2, rfl, q, r2, h2⟩, fun x H2 hy => ?_⟩
    obtain ⟨sm, rd⟩ := yld x H2 hy
    refine hg _ σ' ρ' _ x _ _ _ hp' (r'.grow sm) rd h' fun σ3 ρ3 h3 r3 _ _ _ => ?_
    exact hb _ σ3 ρ3 _ _ _ hp' r3 h3 ⟨fun σ' ρ' H' h' r' => ⟨ρ', r', h'⟩, ek.nx, fun σ' ρ' H' h' r' => ⟨ρ', r', h'⟩, ek.rt⟩
  · left
    rw [List.drop_eq_nil_of_le q] at h'
    unfold forA at h'
    obtain ⟨hc, h'⟩ := h'
    exact ⟨(w hc i).2 q, ek.nx _ _ _ h' r'⟩
end
end L2
set_option Elab.async false
set_option linter.all false
set_option maxRecDepth 100000
namespace L2
open PySem PySem.Spec PyProof.Rows
noncomputable def blkE (n : Nat) (js : List Nat) (ρ : En) : En := List.replicate n .un ++ js.map (gt ρ)
noncomputable def blkR (n : Nat) (js : List Nat) : List R := List.replicate n (R.t "") ++ js.map R.o
theorem blkR_slots (n : Nat) (js : List Nat) (ρ : En) : (blkR n js).map (slotR ρ) = blkE n js ρ := by
  unfold blkR blkE
  rw [List.map_append, List.map_replicate, List.map_map]
  rfl
theorem blkR_dis (js : List Nat) : ∀ n, dis (blkR n js) = dis (js.map R.o)
  | 0 => rfl
  | n + 1 => by
    show dis (R.t "" :: blkR n js) = _
    exact blkR_dis js n
theorem blkR_back (js : List Nat) (ρ : En) (n : Nat) : ∀ ss : En, ss.length = n + js.length → back ρ (blkR n js) ss = back ρ (js.map R.o) (ss.drop n) := by
  induction n with
  | zero => intro ss _; rfl
  | succ n ih =>
    intro ss h
    cases ss with
    | nil => simp at h; omega
    | cons s ss => exact ih ss (by simp at h; omega)
theorem blkE_own {n : Nat} {js : List Nat} {ρ : En} {i : Nat} (h : (gt (blkE n js ρ) i).own = true) : n ≤ i := by
  rcases Nat.lt_or_ge i n with q | q
  · exfalso
    have : ∀ (n i : Nat) (x : En), i < n → gt (List.replicate n Sv.un ++ x) i = .un := by
      intro n
      induction n with
      | zero => intro i x h; (clear q; omega)
      | succ n ih =>
        intro i x h
        cases i with
        | zero => rfl
        | succ i => exact ih i x (by first | assumption | decide | (clear q; omega))
    unfold blkE at h
    rw [this n i _ q] at h
    cases h
  · exact q
section
variable {K : PySem.W.Frag} {F : Fr} {σ σ' : St} {ρ ρ' : En} {H H' : Hp}
theorem blk_srcs (n : Nat) (js : List Nat) : Srcs K F σ ρ H (bst n σ js) (blkR n js) := by
  unfold bst blkR
  induction n with
  | zero =>
    induction js with
    | nil => exact .nil
    | cons j js ih => exact .cons rfl ih
  | succ n ih => exact .cons trivial ih
theorem gt_drop : ∀ (n i : Nat) (ρ : En), gt (ρ.drop n) i = gt ρ (n + i)
  | 0, i, ρ => by simp
  | n + 1, i, [] => by simp [gt]
  | n + 1, i, s :: ρ => by rw [List.drop_succ_cons, gt_drop n i ρ, Nat.add_right_comm]; rfl
theorem gt_pad : ∀ (n i : Nat) (x : En), gt (List.replicate n Sv.un ++ x) i = if i < n then .un else gt x (i - n)
  | 0, i, x => by simp
  | n + 1, 0, x => by simp [List.replicate_succ, gt]
  | n + 1, i + 1, x => by
    show gt (List.replicate n Sv.un ++ x) i = _
    rw [gt_pad n i x]
    by_cases h : i < n
    · rw [if_pos h, if_pos (by first | assumption | decide | omega)]
    · rw [if_neg h, if_neg (by first | assumption | decide | omega)]; congr 1; omega
theorem Rel.forget {n : Nat} (r : Rel K F σ ρ H) (hn : n ≤ σ.length) (hp : ∀ i a, F.pin i a → n ≤ i) : Rel K F (List.replicate n none ++ σ.drop n) (List.replicate n .un ++ ρ.drop n) H ∧ Same (hid H (hs F σ ρ)) (hid H (hs F (List.replicate n none ++ σ.drop n) (List.replicate n .un ++ ρ.drop n))) := by
  have g : ∀ i, gt (List.replicate n .un ++ ρ.drop n) i = if i < n then .un else gt ρ i := fun i => by
    rw [gt_pad]
    split
    · rfl
    · rw [gt_drop]; congr 1; (clear hn; omega)
  have s : ∀ i, n ≤ i → (List.replicate n none ++ σ.drop n)[i]? = σ[i]? := fun i h => by
    rw [List.getElem?_append_right (by simpa using h), List.length_replicate, List.getElem?_drop]
    congr 1; (clear hn; omega)
  have own' : ∀ i, (gt (List.replicate n .un ++ ρ.drop n) i).own = true → n ≤ i ∧ (gt ρ i).own = true := fun i h => by
    rw [g] at h
    split at h
    · cases h
    · exact ⟨by first | assumption | decide | (clear h hn; omega), h⟩
  have sub : ∀ a, owned (List.replicate n none ++ σ.drop n) (List.replicate n .un ++ ρ.drop n) a → owned σ ρ a := fun a ⟨i, hi, e⟩ => by
    obtain ⟨h1, h2⟩ := own' i hi
    rw [s i h1] at e
    exact ⟨i, h2, e⟩
  have vis : Same (hid H (hs F σ ρ)) (hid H (hs F (List.replicate n none ++ σ.drop n) (List.replicate n .un ++ ρ.drop n))) := hid_same fun a o e n => ⟨e, fun z => n (z.imp id (sub a))⟩
  refine ⟨⟨by have := r.len; simp; omega, r.fr, r.zl, fun a h => r.zo a (sub a h), fun i a hi e => ?_, fun i a h => ?_, r.ml, r.ma, fun i j a hi hj ei ej => ?_, fun i => ?_⟩, vis⟩
  · obtain ⟨h1, h2⟩ := own' i hi
    rw [s i h1] at e
    exact r.ow i a h2 e
  · rw [s i (hp i a h)]; exact r.mi i a h
  · obtain ⟨h1, h2⟩ := own' i hi
    obtain ⟨h3, h4⟩ := own' j hj
    rw [s i h1] at ei
    rw [s j h3] at ej
    exact r.nd i j a h2 h4 ei ej
  · rw [g]
    split
    · trivial
    · rw [s i (by first | assumption | decide | (clear hn; omega))]
      exact (r.sl i).keep vis fun _ _ _ _ e => e
end
noncomputable def compA (n : Nat) (js : List Nat) (c : En → Prop) (g : AG) (tc : AT) (te : AE) (q : List D → En → Prop) : List D → List D → En → Prop
  | [], acc, ρ => c ρ ∧ q acc ρ
  | d :: ds, acc, ρ => c ρ ∧ g d (blkE n js ρ) fun ρ1 => tc ρ1 fun b ρ2 => if b = true then te ρ2 fun r ρ3 => sto [r.frz] ρ3 fun es ρ4 => compA n js c g tc te q ds (acc ++ es) (back ρ (js.map R.o) (ρ4.drop n)) else compA n js c g tc te q ds acc (back ρ (js.map R.o) (ρ2.drop n))
noncomputable def aComp (n : Nat) (js : List Nat) (i : AI) (g : AG) (tc : AT) (te : AE) : AE := fun ρ q => i ρ fun ds c ρ1 => ds.length ≤ 1000000 ∧ compA n js c g tc te (fun acc ρ2 => q (.f acc) ρ2) ds [] ρ1
noncomputable def aAll : AT := fun ρ q => q true ρ
section
variable {K : PySem.W.Frag}
theorem ttok_all : TTok K tAll aAll := fun F σ ρ H q Q r h k => k _ _ _ h r .refl
theorem sto_one {F : Fr} {σ : St} {ρ : En} {H : Hp} {v : V} {r : R} {q : List D → En → Prop} (a : Rel K F σ ρ H) (i : InF K F σ ρ H v r) (h : sto [r] ρ q) : ∃ d ρ', q [d] ρ' ∧ Rel K F σ ρ' H ∧ Kp σ ρ ρ' H H ∧ RepD K (hid H (hs F σ ρ')) v d := by
  obtain ⟨ds, ρ', h1, h2, h3, h4⟩ := sto_ok a (.cons i .nil) h
  cases ds with
  | nil => unfold RepDs at h4; exact h4.elim
  | cons d ds =>
    unfold RepDs at h4
    cases ds with
    | nil => exact ⟨d, ρ', h1, h2, h3, h4.1⟩
    | cons _ _ => obtain ⟨_, z⟩ := h4; unfold RepDs at z; exact z.elim
theorem tok_comp {n : Nat} {js : List Nat} {wi : TI} {g : TG} {tc : TT} {te : TE} {ai : AI} {ag : AG} {atc : AT} {ate : AE} (hi : TIok K (fun _ => true) wi ai) (hg : TGok K (fun j => decide (n ≤ j)) g ag) (hc : TTok K tc atc) (he : TEok K te ate)
    (hd : dis (js.map R.o) = true := by rfl) : TEok K (tComp n js wi g tc te) (aComp n js ai ag atc ate) := by
  intro F σ ρ H q Q r h k
  refine hi F σ ρ H _ _ r h fun ds c ρ1 J H1 h1 r1 k1 wk => ?_
  obtain ⟨hz, h1⟩ := h1
  have hd' : dis (blkR n js) = true := by rw [blkR_dis]; exact hd
  refine ⟨fun i m ys H' => ∃ ρ' acc, m = ds.length - i ∧ i ≤ ds.length ∧ Rel K F σ ρ' H' ∧ Kp σ ρ1 ρ' H1 H' ∧ RepDs K (hid H' (hs F σ ρ')) ys acc ∧ acc.length ≤ i ∧ compA n js c ag atc ate (fun acc ρ2 => q (.f acc) ρ2) (ds.drop i) acc ρ', ⟨ds.length, ρ1, [], rfl, Nat.zero_le _, r1, .refl, .nil, Nat.zero_le _, h1⟩, ?_⟩
  rintro i m ys H' ⟨ρ', acc, rfl, hl, r', k', rd, al, h'⟩
  have w : c ρ' → WkAt K (hs F σ ρ') H' J ds := fun hc => wk σ ρ' H' k'.vis r'.sl (fun _ _ _ e => e) (fun a z => hs_alive r' z) hc
  have yl : ys.length = acc.length := rd.length
  rcases Nat.lt_or_ge i ds.length with lt | ge
  · right
    rw [List.drop_eq_getElem_cons lt] at h'
    unfold compA at h'
    obtain ⟨hcc, h'⟩ := h'
    obtain ⟨go, yld⟩ := (w hcc i).1 ds[i] (List.getElem?_eq_getElem lt)
    refine ⟨go, smallS (by first | assumption | decide | (clear hl hd' hd; omega)), fun zs H2 => ∃ ρ2 acc2, Rel K F σ ρ2 H2 ∧ Kp σ ρ1 ρ2 H1 H2 ∧ RepDs K (hid H2 (hs F σ ρ2)) zs acc2 ∧ acc2.length ≤ i + 1 ∧ compA n js c ag atc ate (fun acc ρ2 => q (.f acc) ρ2) (ds.drop (i + 1)) acc2 ρ2,
      fun zs H2 ⟨ρ2, acc2, a1, a2, a3, a4, a5⟩ => ⟨ds.length - (i + 1), by first | assumption | decide | (clear a4 yl al hl hd' hz hd; omega), ρ2, acc2, rfl, lt, a1, a2, a3, a4, a5⟩, fun x H2 hy => ?_⟩
    obtain ⟨sm, rx⟩ := yld x H2 hy
    have r0' := r'
    have k' : Kp σ ρ1 ρ' H1 H2 := k'.trans ⟨fun a o e _ => sm a o e, fun _ h => h⟩
    have rd : RepDs K (hid H2 (hs F σ ρ')) ys acc := rd.same (hid_same fun a o e n => ⟨sm a o e, n⟩)
    have r' := r0'.grow sm
    have src := blk_srcs (K := K) (F := F) (σ := σ) (ρ := ρ') (H := H2) n js
    have rb := r'.sub src hd'
    have hs2 := sub_hs r' src
    rw [blkR_slots] at rb hs2
    have pin : ∀ i a, (subFr F σ ρ' H2 (bst n σ js) (blkE n js ρ')).pin i a → decide (n ≤ i) = true := fun i a h => by
      rcases h with h | h
      · exact decide_eq_true (blkE_own h.1)
      · exact h.elim
    have hlen : (bst n σ js).length = n + js.length := bst_len
    have ret : ∀ σ2 ρ2 H3, Rel K (subFr F σ ρ' H2 (bst n σ js) (blkE n js ρ')) σ2 ρ2 H3 → σ2.length = (bst n σ js).length → σ2.drop n = capt σ js → (∀ i, (gt ρ2 i).own = true → (gt (blkE n js ρ') i).own = true) →
        Rel K F σ (back ρ' (js.map R.o) (ρ2.drop n)) H3 ∧ Kp σ ρ' (back ρ' (js.map R.o) (ρ2.drop n)) H2 H3 ∧ Same (hid H3 (hs (subFr F σ ρ' H2 (bst n σ js) (blkE n js ρ')) σ2 ρ2)) (hid H3 (hs F σ (back ρ' (js.map R.o) (ρ2.drop n)))) := fun σ2 ρ2 H3 rr hlen2 hdrop hown => by
      obtain ⟨f1, f2⟩ := rr.forget (n := n) (by first | assumption | decide | (clear hdrop hs2 yl al hl hd' hz hd; omega)) fun i a h => of_decide_eq_true (pin i a h)
      rw [hdrop] at f1 f2
      have f1' : Rel K (subFr F σ ρ' H2 (bst n σ js) ((blkR n js).map (slotR ρ'))) (bst n σ js) (List.replicate n .un ++ ρ2.drop n) H3 := by rw [blkR_slots]; exact f1
      have bk := r'.back src hd' f1' fun i hi => by
        rw [blkR_slots]
        rw [gt_pad] at hi
        split at hi
        · cases hi
        · rename_i hni
          rw [gt_drop, show n + (i - n) = i by (clear hi hdrop hs2 yl al hl hd' hz hd; omega)] at hi
          exact hown i hi
      have ln : (List.replicate n Sv.un ++ ρ2.drop n).length = n + js.length := by
        have := rr.len
        simp; (clear bk hdrop hs2 yl al hl hd' hz hd; omega)
      rw [blkR_back js ρ' n _ ln, List.drop_left' (by simp), blkR_slots] at bk
      exact ⟨bk.1, bk.2.1, f2.trans bk.2.2⟩
    refine hg _ (bst n σ js) (blkE n js ρ') H2 x _ _ _ pin rb (by rw [hs2]; exact rx) h' fun σ2 ρ2 h2 r2 l2 p2 o2 => ?_
    have hdrop : σ2.drop n = capt σ js := by
      have : σ2.drop n = (bst n σ js).drop n := by
        apply List.ext_getElem?
        intro i
        rw [List.getElem?_drop, List.getElem?_drop]
        exact p2 (n + i) (decide_eq_true (by first | assumption | decide | (clear l2 hlen hs2 yl al hl hd' hz hd; omega)))
      rw [this]
      unfold bst
      rw [List.drop_left' (by simp)]
    refine ⟨hdrop, hc _ σ2 ρ2 H2 _ _ r2 h2 fun b ρ3 H3 h3 r3 k3 => ?_⟩
    cases b with
    | false =>
      obtain ⟨b1, b2, _⟩ := ret σ2 ρ3 H3 r3 l2 hdrop fun i hi => (o2 i (k3.sb i hi)).1
      exact ⟨_, acc, b1, k'.trans b2, rd.same b2.vis, by first | assumption | decide | (clear hdrop l2 hlen hs2 hl hd' hz hd; omega), h3⟩
    | true =>
      refine he _ σ2 ρ3 H3 _ _ r3 h3 fun r4 ρ4 v H4 h4 o4 => ?_
      obtain ⟨r4', k4, i4⟩ := o4.inF
      obtain ⟨d, ρ5, h5, r5, k5, rv⟩ := sto_one r4' i4 h4
      obtain ⟨b1, b2, b3⟩ := ret σ2 ρ5 H4 r5 l2 hdrop fun i hi => (o2 i (k3.sb i (k4.sb i (k5.sb i hi)))).1
      exact ⟨_, acc ++ [d], b1, k'.trans b2, (rd.same b2.vis).append (.one (rv.same b3)), by simp; (clear hdrop l2 hlen hs2 yl hl hd' hz hd; omega), h5⟩
  · left
    rw [List.drop_eq_nil_of_le ge] at h'
    unfold compA at h'
    obtain ⟨hcc, h'⟩ := h'
    refine ⟨(w hcc i).2 ge, small (by first | assumption | decide | (clear hd' hd; omega)), fun l hl' => ?_⟩
    exact ((k.after k1).after k').new r' h' rd hl'
end
noncomputable def outS : En → En → En
  | [], _ => []
  | s :: ss, ρ => (if s.own = true then gt ρ 0 else s) :: outS ss ρ.tail
theorem gt_tail (ρ : En) (i : Nat) : gt ρ.tail i = gt ρ (i + 1) := by cases ρ <;> rfl
theorem outS_len : ∀ (ss ρ : En), (outS ss ρ).length = ss.length
  | [], _ => rfl
  | s :: ss, ρ => by simp [outS, outS_len ss]
theorem gt_outS : ∀ (ss ρ : En) (i : Nat), gt (outS ss ρ) i = if (gt ss i).own = true then gt ρ i else gt ss i
  | [], ρ, i => by simp [outS, gt, Sv.own]
  | s :: ss, ρ, 0 => rfl
  | s :: ss, ρ, i + 1 => by
    show gt (outS ss ρ.tail) i = _
    rw [gt_outS ss ρ.tail i, gt_tail]
    rfl
noncomputable def fin (pr : Nat → Bool) : R → En → Ko → Prop
  | .d d, ρ, k => k (.d d) ρ
  | .n s, ρ, k => k (.n s) ρ
  | .o i, ρ, k => (match gt ρ i with
    | .ow ds => if pr i = true then k (.d (.lst ds)) (pt ρ i (.vl (.lst ds))) else k (.n (.ow ds)) (pt ρ i .un)
    | .vl d => k (.d d) ρ
    | .dk kvs => if pr i = true then False else k (.n (.dk kvs)) (pt ρ i .un)
    | .dt kvs => if pr i = true then False else k (.n (.dt kvs)) (pt ρ i .un)
    | _ => False)
  | .t _, _, _ => False
noncomputable def ownPr (pr : Nat → Bool) (ss : En) : Prop := ∀ i, (gt ss i).own = true → pr i = true
section
variable {K : PySem.W.Frag} {F : Fr} {σ σ' : St} {ρ ρ' : En} {H H' : Hp}
open Classical in
noncomputable def del (H : Hp) (l : Addr) : Hp := fun a => if a = l then none else H a
open Classical in
theorem del_same {l : Addr} : del H l l = none := by unfold del; rw [if_pos rfl]
open Classical in
theorem del_ne {a l : Addr} (h : a ≠ l) : del H l a = H a := by unfold del; rw [if_neg h]
theorem del_upd {l : Addr} {o : HO} (h : H l = some o) : upd (del H l) l o = H := by
  funext a
  by_cases e : a = l
  · subst e; rw [upd_same, h]
  · rw [upd_ne e, del_ne e]
theorem Rel.take (r : Rel K F σ ρ H) {i : Nat} (hi : (gt ρ i).own = true) (hm : ∀ a, ¬ F.pin i a) : ∃ l o, H l = some o ∧ σ[i]? = some (some (.ref l)) ∧ Rel K F σ (pt ρ i .un) (del H l) ∧ SvOk K (hid (del H l) (hs F σ (pt ρ i .un))) H (some (some (.ref l))) (gt ρ i) := by
  have s := r.sl i
  obtain ⟨l, o, el, hl⟩ := s.alive hi
  have own' : ∀ j, (gt (pt ρ i .un) j).own = true → i ≠ j ∧ (gt ρ j).own = true := fun j h => own_set rfl h
  have sub : ∀ a, owned σ (pt ρ i .un) a → owned σ ρ a ∧ a ≠ l := fun a ⟨j, hj, e⟩ => by
    obtain ⟨ij, hj⟩ := own' j hj
    exact ⟨⟨j, hj, e⟩, fun z => ij (r.nd i j l hi hj el (z ▸ e))⟩
  have ol : owned σ ρ l := ⟨i, hi, el⟩
  have vis : Same (hid H (hs F σ ρ)) (hid (del H l) (hs F σ (pt ρ i .un))) := hid_same fun a u e n => by
    have al : a ≠ l := fun z => n (.inr (z ▸ ol))
    exact ⟨by rw [del_ne al]; exact e, fun z => n (z.imp id fun z => (sub a z).1)⟩
  have h0 : F.H0 l = none := by
    rcases r.ow i l hi el with h | h
    · exact absurd (Or.inl h.1) (hm l)
    · exact h
  refine ⟨l, o, hl, el, ⟨by rw [pt_len, r.len], fun a u e n => ?_, fun a z => ?_, fun a h => r.zo a (sub a h).1, fun j a hj e => r.ow j a (own' j hj).2 e, r.mi, r.ml, fun a z => ?_, fun j k a hj hk ej ek => r.nd j k a (own' j hj).2 (own' k hk).2 ej ek, fun j => ?_⟩, ?_⟩
  · have al : a ≠ l := fun z => by rw [z, h0] at e; cases e
    rw [del_ne al]; exact r.fr a u e n
  · have al : a ≠ l := fun q => r.zo l ol (q ▸ z)
    rw [del_ne al]; exact r.zl a z
  · have al : a ≠ l := fun q => r.ml a z (q ▸ h0)
    rw [del_ne al]; exact r.ma a z
  · by_cases ij : i = j
    · subst ij
      rw [gt_pt ρ i _ (own_lt hi)]; trivial
    · rw [gt_pt_ne ρ i j _ ij]
      refine (r.sl j).keep vis fun a u ho e h => ?_
      have al : a ≠ l := fun z => ij (r.nd i j l hi ho el (z ▸ e))
      rw [del_ne al]; exact h
  · rw [el] at s
    exact s.keep vis fun _ _ _ _ e => e
theorem Rel.out {vs : List V} {ss : En} {Z : Addr → Prop} (r0 : Rel K (F0 vs ss H Z) (vs.map some) ss H) (r : Rel K (F0 vs ss H Z) σ' ρ' H') :
    Rel K (F0 vs ss H Z) (vs.map some) (outS ss ρ') H' ∧ Same (hid H' (hs (F0 vs ss H Z) σ' ρ')) (hid H' (hs (F0 vs ss H Z) (vs.map some) (outS ss ρ'))) ∧ ∀ i, (gt (outS ss ρ') i).own = true → (gt ss i).own = true := by
  have own' : ∀ i, (gt (outS ss ρ') i).own = true → (gt ss i).own = true ∧ (gt ρ' i).own = true := fun i h => by
    rw [gt_outS] at h
    split at h
    · rename_i q; exact ⟨q, h⟩
    · rename_i q; exact absurd h q
  have same : ∀ i a, (gt ss i).own = true → (vs.map some)[i]? = some (some (.ref a)) → σ'[i]? = some (some (.ref a)) := fun i a h e => r.mi i a (.inl ⟨h, e⟩)
  have sub : ∀ a, owned (vs.map some) (outS ss ρ') a → owned σ' ρ' a ∧ owned (vs.map some) ss a := fun a ⟨i, hi, e⟩ => by
    obtain ⟨h1, h2⟩ := own' i hi
    exact ⟨⟨i, h2, same i a h1 e⟩, ⟨i, h1, e⟩⟩
  have v1 : Same (hid H' (hs (F0 vs ss H Z) σ' ρ')) (hid H' (hs (F0 vs ss H Z) (vs.map some) (outS ss ρ'))) := hid_same fun a o e n => ⟨e, fun z => n (z.imp id fun z => (sub a z).1)⟩
  have v2 : Same (hid H (hs (F0 vs ss H Z) (vs.map some) ss)) (hid H' (hs (F0 vs ss H Z) (vs.map some) (outS ss ρ'))) := hid_same fun a o e n => ⟨r.fr a o e fun z => n (.inr z), fun z => n (z.imp id fun z => (sub a z).2)⟩
  refine ⟨⟨by rw [outS_len, r0.len], r.fr, r.zl, fun a h => r.zo a (sub a h).1, fun i a hi e => .inl ⟨⟨(own' i hi).1, e⟩, i, (own' i hi).1, e⟩, r0.mi, r.ml, r.ma, fun i j a hi hj ei ej => r0.nd i j a (own' i hi).1 (own' j hj).1 ei ej, fun i => ?_⟩, v1, fun i h => (own' i h).1⟩
  rw [gt_outS]
  split
  · rename_i q
    obtain ⟨l, o, e1, e2⟩ := (r0.sl i).alive q
    have := same i l q e1
    rw [e1, ← this]
    exact (r.sl i).keep v1 fun _ _ _ _ e => e
  · rename_i q
    exact (r0.sl i).keep v2 fun l o ho => absurd ho q
theorem gt_app : ∀ (ρ : En) (n i : Nat), gt (ρ ++ List.replicate n .un) i = gt ρ i
  | [], n, i => by
    show gt (List.replicate n .un) i = .un
    induction n generalizing i with
    | zero => rfl
    | succ n ih => cases i with
      | zero => rfl
      | succ i => exact ih i
  | s :: ρ, n, 0 => rfl
  | s :: ρ, n, i + 1 => gt_app ρ n i
theorem Rel.ext (r : Rel K F σ ρ H) (n : Nat) : Rel K F (σ ++ List.replicate n none) (ρ ++ List.replicate n .un) H := by
  have s : ∀ {i a}, (gt ρ i).own = true → (σ ++ List.replicate n none)[i]? = some (some (V.ref a)) → σ[i]? = some (some (.ref a)) := fun {i a} h e => by
    rwa [List.getElem?_append_left (by rw [r.len]; exact own_lt h)] at e
  have sub : ∀ a, owned (σ ++ List.replicate n none) (ρ ++ List.replicate n .un) a → owned σ ρ a := fun a ⟨i, hi, e⟩ => by
    rw [gt_app] at hi
    exact ⟨i, hi, s hi e⟩
  have vis : Same (hid H (hs F σ ρ)) (hid H (hs F (σ ++ List.replicate n none) (ρ ++ List.replicate n .un))) := hid_same fun a o e n => ⟨e, fun z => n (z.imp id (sub a))⟩
  refine ⟨by simp [r.len], r.fr, r.zl, fun a h => r.zo a (sub a h), fun i a hi e => ?_, fun i a h => ?_, r.ml, r.ma, fun i j a hi hj ei ej => ?_, fun i => ?_⟩
  · rw [gt_app] at hi
    exact r.ow i a hi (s hi e)
  · have := r.mi i a h
    rw [List.getElem?_append_left (List.getElem?_eq_some_iff.mp this).1]; exact this
  · rw [gt_app] at hi hj
    exact r.nd i j a hi hj (s hi ei) (s hj ej)
  · rw [gt_app]
    have q := r.sl i
    rcases Nat.lt_or_ge i σ.length with lt | ge
    · rw [List.getElem?_append_left lt]
      exact q.keep vis fun _ _ _ _ e => e
    · rw [gt_out ρ i (by rw [← r.len]; exact ge)]; trivial
end
theorem DefN.aok {P : Program} {w : World} {K : PySem.W.Frag} {mg : Str → Option Value} {base : Heap} {x : Str} {st : Stmt} {N ps : List Str} {k : Nat} {a : AS} (D : DefN K mg x st ps) (Sc : FnScope N ps (defScope st)) (pr : Nat → Bool) (S : ASp)
    (hbody : ∀ (f : Addr) (cdv : Value) (A : Around) (outer : List Env) (s : Shared) (H : Hp) (E : XK), Room k (A.deeper (envOfC x (defScope st) s.heap.objs.size f cdv)) →
      ∃ t, PSs (cxOf CX0 P w K mg base N x (defScope st) f cdv A outer s H E).nox (defBody st) t ∧ TSok K pr t a)
    (hS : ∀ ss q, S ss q → ss.length = ps.length ∧ ownPr pr ss ∧ a ⟨fun ρ => q (.d .non) (outS ss ρ), fun r ρ => fin pr r ρ fun r' ρ' => q r' (outS ss ρ'), fun _ => False, fun _ => False⟩ (ss ++ List.replicate (N.length - ps.length) .un)) : OkN P w K mg base (k + 1) x ps (spA K S) := by
  have lenOk : ∀ vs H Q E, spA K S vs H Q E → vs.length = ps.length := fun vs H Q E h => by
    obtain ⟨ss, Z, q, r, hs', _⟩ := h
    have := r.len
    rw [List.length_map] at this
    rw [this]; exact (hS ss q hs').1
  refine D.ok Sc lenOk (fun f cdv A outer s H vs Q E hr h => ?_)
  have hl := lenOk _ _ _ _ h
  obtain ⟨ss, Z, q, r0, hs', post⟩ := h
  obtain ⟨h1, h2, h3⟩ := hS ss q hs'
  obtain ⟨t, ht, tok⟩ := hbody f cdv A outer s H E hr
  refine ⟨t, ht, ?_⟩
  have hp : ∀ i a, (F0 vs ss H Z).pin i a → pr i = true := fun i a h => by
    rcases h with h | h
    · exact h2 i h.1
    · exact h.elim
  unfold start
  rw [hl]
  have fin_d : ∀ σ' ρ' v H' d, q (.d d) (outS ss ρ') → Rel K (F0 vs ss H Z) σ' ρ' H' → RepD K (hid H' (hs (F0 vs ss H Z) σ' ρ')) v d → Q v H' := fun σ' ρ' v H' d hq r rd => by
    obtain ⟨o1, o2, o3⟩ := r0.out r
    exact post (.d d) _ v H' hq o3 (fun i z => nomatch z) ⟨o1, rd.same o2⟩
  refine tok (F0 vs ss H Z) _ _ H _ _ hp (r0.ext _) h3 ⟨fun σ' ρ' H' hq r => ?_, fun _ _ _ z => z.elim, fun _ _ _ z => z.elim, fun σ' ρ' rr v H' hq r => ?_⟩
  · exact fin_d σ' ρ' _ H' .non hq r (by unfold RepD; rfl)
  · cases rr with
    | d d => exact fin_d σ' ρ' v H' d hq r.1 r.2
    | t n => exact hq.elim
    | n sv =>
      obtain ⟨Hb, l, o, a1, a2, a3, a4, a5, a6⟩ := r
      obtain ⟨o1, o2, o3⟩ := r0.out a1
      exact post (.n sv) _ v H' hq o3 (fun i z => nomatch z) ⟨Hb, l, o, o1, a2, a3.keep o2 fun _ _ _ _ e => e, a4, a5, a6⟩
    | o i =>
      obtain ⟨r, ei⟩ := r
      have hq' : (match gt ρ' i with
        | .ow ds => if pr i = true then q (.d (.lst ds)) (outS ss (pt ρ' i (.vl (.lst ds)))) else q (.n (.ow ds)) (outS ss (pt ρ' i .un))
        | .vl d => q (.d d) (outS ss ρ')
        | .dk kvs => if pr i = true then False else q (.n (.dk kvs)) (outS ss (pt ρ' i .un))
        | .dt kvs => if pr i = true then False else q (.n (.dt kvs)) (outS ss (pt ρ' i .un))
        | _ => False) := hq
      clear hq
      split at hq'
      · rename_i ds hg
        split at hq'
        · obtain ⟨l, el, r2, k2, rd⟩ := r.frz hg
          rw [ei] at el
          injection el with el; injection el with el; subst el
          exact fin_d σ' _ _ H' _ hq' r2 rd
        · rename_i hpr
          have ho : (gt ρ' i).own = true := by rw [hg]; rfl
          obtain ⟨l, o, hl', el, r2, sv⟩ := r.take ho fun a z => hpr (hp i a z)
          rw [ei] at el
          injection el with el; injection el with el; subst el
          obtain ⟨o1, o2, o3⟩ := r0.out r2
          rw [hg] at sv
          refine post (.n (.ow ds)) _ _ H' hq' o3 (fun i z => nomatch z) ⟨del H' l, l, o, o1, rfl, ?_, del_same, (del_upd hl').symm, rfl⟩
          rw [del_upd hl']
          exact sv.keep o2 fun _ _ _ _ e => e
      · rename_i d hg
        have s := r.sl i
        rw [hg, ei] at s
        obtain ⟨x, e1, rd⟩ := s
        injection e1 with e1; injection e1 with e1; subst e1
        exact fin_d σ' ρ' _ H' d hq' r rd
      · rename_i kvs hg
        split at hq'
        · exact hq'.elim
        · rename_i hpr
          have ho : (gt ρ' i).own = true := by rw [hg]; rfl
          obtain ⟨l, o, hl', el, r2, sv⟩ := r.take ho fun a z => hpr (hp i a z)
          rw [ei] at el
          injection el with el; injection el with el; subst el
          obtain ⟨o1, o2, o3⟩ := r0.out r2
          rw [hg] at sv
          refine post (.n (.dk kvs)) _ _ H' hq' o3 (fun i z => nomatch z) ⟨del H' l, l, o, o1, rfl, ?_, del_same, (del_upd hl').symm, rfl⟩
          rw [del_upd hl']
          exact sv.keep o2 fun _ _ _ _ e => e
      · rename_i kvs hg
        split at hq'
        · exact hq'.elim
        · rename_i hpr
          have ho : (gt ρ' i).own = true := by rw [hg]; rfl
          obtain ⟨l, o, hl', el, r2, sv⟩ := r.take ho fun a z => hpr (hp i a z)
          rw [ei] at el
          injection el with el; injection el with el; subst el
          obtain ⟨o1, o2, o3⟩ := r0.out r2
          rw [hg] at sv
          refine post (.n (.dt kvs)) _ _ H' hq' o3 (fun i z => nomatch z) ⟨del H' l, l, o, o1, rfl, ?_, del_same, (del_upd hl').symm, rfl⟩
          rw [del_upd hl']
          exact sv.keep o2 fun _ _ _ _ e => e
      · exact hq'.elim
noncomputable def SLaw : ASp := fun ss q => ∃ ns : List Int, ns.length ≤ 63 ∧ ss = [.vl (.lst (ns.map D.int))] ∧ ∀ ss', q (.d (.bl true)) ss'
theorem law_of {P : Program} {w : World} {K : PySem.W.Frag} {mg : Str → Option Value} {base : Heap} {k : Nat} {x : Str} {ps : List Str} (h : OkN P w K mg base k x ps (spA K SLaw)) : OkN P w K mg base k x ps (spLaw K) := by
  obtain ⟨f, fd, a1, a2, a3, a4, g⟩ := h.ex
  refine ⟨f, fd, a1, a2, a3, a4, g.imp fun vs H Q E hq => ?_⟩
  obtain ⟨a, ns, rfl, sq, hl, k⟩ := hq
  refine ⟨[.vl (.lst (ns.map D.int))], fun _ => False, fun r _ => r = .d (.bl true), ⟨rfl, fun a o e _ => e, fun a z => z.elim, fun a _ z => z, fun i a hi _ => ?_, fun i a h => ?_, fun a h => ?_, fun a h => ?_, fun i j a hi => ?_, fun i => ?_⟩, ⟨ns, hl, rfl, fun _ => rfl⟩, fun r ss' v H' e1 _ _ rr => ?_⟩
  · exfalso; cases i with
    | zero => cases hi
    | succ i => cases hi
  · rcases h with h | h
    · cases i with
      | zero => cases h.1
      | succ i => cases h.1
    · exact h.elim
  · obtain ⟨i, hi, _⟩ := h
    cases i with
    | zero => cases hi
    | succ i => cases hi
  · obtain ⟨i, hi, _⟩ := h
    cases i with
    | zero => cases hi
    | succ i => cases hi
  · exfalso; cases i with
    | zero => cases hi
    | succ i => cases hi
  · cases i with
    | succ i => trivial
    | zero =>
      refine ⟨.ref a, rfl, ?_⟩
      unfold RepD
      refine ⟨a, ns.map V.int, rfl, ?_, repInts.mpr rfl⟩
      refine (show Same H (hid H _) from fun b o e => hid_of (fun z => ?_) e).seq sq
      rcases z with z | ⟨i, hi, _⟩
      · exact z
      · cases i with
        | zero => cases hi
        | succ i => cases hi
  · subst e1
    obtain ⟨_, rd⟩ := rr
    unfold RepD at rd
    subst rd
    exact k H'
end L2
set_option Elab.async false
set_option linter.all false
set_option maxRecDepth 100000
namespace L2
open PySem PySem.Spec PyProof.Rows
noncomputable def spDrawX (K : PySem.W.Frag) : Sp := fun vs H Q _ => ∃ (t c : Addr) (m sp lf : Int) (ns : List Int) (n : Nat), vs = [.ref t, .int m] ∧ H t = some (.dK (tapeK c sp lf)) ∧ SqL K H c (ns.map V.int) ∧ 0 ≤ sp ∧ sp ≤ n ∧ 0 ≤ lf ∧ n < 1000000000000 ∧ Dv m ∧
  ∀ (r : Nat) (sp' lf' : Int), (r : Int) < m → 0 ≤ sp' → sp' ≤ (n + 1 : Nat) → 0 ≤ lf' → Q (.int (r : Nat)) (upd H t (.dK (tapeK c sp' lf')))
noncomputable def spTapeX (K : PySem.W.Frag) : Sp := fun vs H Q _ => ∃ (a : Addr) (ns : List Int), vs = [.ref a] ∧ SqL K H a (ns.map V.int) ∧
  ∀ t c, H t = none → H c = none → t ≠ c → Q (.ref t) (upd (upd H c (.lst ((ns.take 63).map V.int))) t (.dK (tapeK c 0 0)))
noncomputable def STape : ASp := fun ss q => ∃ ns : List Int, ss = [.vl (.lst (ns.map D.int))] ∧ q (.n (.tp 0)) [.vl (.lst (ns.map D.int))]
noncomputable def SDraw : ASp := fun ss q => ∃ (n : Nat) (m : Int), ss = [.tp n, .vl (.int m)] ∧ n < 1000000000000 ∧ Dv m ∧ ∀ r : Nat, (r : Int) < m → q (.d (.int r)) [.tp (n + 1), .vl (.int m)]
theorem OkN.imp {P : Program} {w : World} {K : PySem.W.Frag} {mg : Str → Option Value} {base : Heap} {k : Nat} {x : Str} {ps : List Str} {sp sp' : Sp} (h : OkN P w K mg base k x ps sp) (i : ∀ vs H Q E, sp' vs H Q E → sp vs H Q E) : OkN P w K mg base k x ps sp' := by
  obtain ⟨f, fd, a1, a2, a3, a4, g⟩ := h.ex
  exact ⟨f, fd, a1, a2, a3, a4, g.imp i⟩
theorem avals1 {vs : List V} {s : Sv} {F : Fr} {K : PySem.W.Frag} {H : Hp} (r : Rel K F (vs.map some) [s] H) : ∃ x, vs = [x] := by
  have h := r.len
  rw [List.length_map] at h
  exact List.length_eq_one_iff.mp h
theorem avals2 {vs : List V} {s s' : Sv} {F : Fr} {K : PySem.W.Frag} {H : Hp} (r : Rel K F (vs.map some) [s, s'] H) : ∃ x y, vs = [x, y] := by
  have h := r.len
  rw [List.length_map] at h
  obtain ⟨x, t, rfl⟩ := List.exists_cons_of_length_eq_add_one h
  obtain ⟨y, rfl⟩ := List.length_eq_one_iff.mp (Nat.succ.inj h)
  exact ⟨x, y, rfl⟩
theorem draw_of {K : PySem.W.Frag} (vs : List V) (H : Hp) (Q : VK) (E : XK) (h : spA K SDraw vs H Q E) : spDrawX K vs H Q E := by
  obtain ⟨ss, Z, q, r, ⟨n, m, rfl, hn, hm, hq⟩, post⟩ := h
  obtain ⟨x, y, rfl⟩ := avals2 r
  obtain ⟨t, c, ns, sp, lf, e0, ht, hc, h1, h2, h3⟩ := r.sl 0
  obtain ⟨y', e1, ry⟩ := r.sl 1
  unfold RepD at ry
  injection e0 with e0; injection e0 with e0; subst e0
  injection e1 with e1; injection e1 with e1
  subst e1 ry
  refine ⟨t, c, m, sp, lf, ns, n, rfl, ht, hid_sub.seq hc, h1, h2, h3, hn, hm, fun rr sp' lf' hr a1 a2 a3 => ?_⟩
  have hw := r.write (i := 0) (l := t) (o := .dK (tapeK c sp' lf')) (s := .tp (n + 1)) rfl rfl rfl ⟨t, c, ns, sp', lf', rfl, upd_same, hc, a1, a2, a3⟩
  refine post (.d (.int rr)) [.tp (n + 1), .vl (.int m)] _ _ (hq rr hr) (fun i h => ?_) (fun i z => nomatch z) ⟨hw.1, by unfold RepD; rfl⟩
  match i, h with
  | 0, _ => rfl
  | 1, h => cases h
  | i + 2, h => cases h
theorem tape_of {K : PySem.W.Frag} (vs : List V) (H : Hp) (Q : VK) (E : XK) (h : spA K STape vs H Q E) : spTapeX K vs H Q E := by
  obtain ⟨ss, Z, q, r, ⟨ns, rfl, hq⟩, post⟩ := h
  obtain ⟨x, rfl⟩ := avals1 r
  obtain ⟨x', e0, rx⟩ := r.sl 0
  injection e0 with e0; injection e0 with e0; subst e0
  have rx' := rx
  unfold RepD at rx
  obtain ⟨a, us, rfl, sq, rd⟩ := rx
  rw [repInts] at rd
  subst rd
  refine ⟨a, ns, rfl, hid_sub.seq sq, fun t c ht hc htc => ?_⟩
  have rc := r.fresh (o := .lst ((ns.take 63).map V.int)) hc
  have kc : Kp ([V.ref a].map some) [.vl (.lst (ns.map D.int))] [.vl (.lst (ns.map D.int))] H (upd H c (.lst ((ns.take 63).map V.int))) := Kp.fresh hc
  have ht' : (upd H c (.lst ((ns.take 63).map V.int))) t = none := by rw [upd_ne htc]; exact ht
  refine post (.n (.tp 0)) _ _ _ hq (fun i h => h) (fun i z => nomatch z) ⟨_, t, _, rc, rfl, ⟨t, c, ns.take 63, 0, 0, rfl, upd_same, SqL.of (hid_of (fresh_vis r hc) upd_same), by decide, by decide, by decide⟩, ht', rfl, rfl⟩
section
variable {K : PySem.W.Frag} {F : Fr} {σ : St} {ρ ρ' : En} {H H' : Hp} {ta tb tc : TE} {a b c : AE} {rr rr' : R2} {g g' : R → R → AE}
noncomputable def aChain (g g' : R → R → AE) (a b c : AE) : AE := fun ρ q => a ρ fun r1 ρ1 => b ρ1 fun r2 ρ2 => g r1.frz r2.frz ρ2 fun r3 ρ3 => match r3 with
  | .d (.bl k) => if k = true then c ρ3 fun r4 ρ4 => g' r2.frz r4.frz ρ4 q else q (.d (.bl false)) ρ3
  | _ => False
theorem tok_chain (ho : OpOk K rr g) (ho' : OpOk K rr' g') (ha : TEok K ta a) (hb : TEok K tb b) (hc : TEok K tc c) : TEok K (tChain rr rr' ta tb tc) (aChain g g' a b c) := by
  intro F σ ρ H q Q r h k
  refine ha F σ ρ H _ _ r h fun r1 ρ1 x H1 h1 o1 => ?_
  obtain ⟨r1', k1, i1⟩ := o1.inF
  refine hb F σ ρ1 H1 _ _ r1' h1 fun r2 ρ2 y H2 h2 o2 => ?_
  obtain ⟨r2', k2, i2⟩ := o2.inF
  refine ho F σ ρ2 H2 x y _ _ _ _ r2' (i1.keep k2) i2 h2 fun r3 ρ3 z H3 h3 o3 => ?_
  obtain ⟨r3', k3, i3⟩ := o3.inF
  split at h3
  · rename_i kk
    refine ⟨kk, i3.blv, ?_⟩
    cases kk with
    | false => exact (((k.after k1).after k2).after k3).bl r3' h3
    | true =>
      refine hc F σ ρ3 H3 _ _ r3' h3 fun r4 ρ4 w H4 h4 o4 => ?_
      obtain ⟨r4', k4, i4⟩ := o4.inF
      exact ho' F σ ρ4 H4 y w _ _ q Q r4' ((i2.keep k3).keep k4) i4 h4 ((((k.after k1).after k2).after k3).after k4)
  · exact h3.elim
noncomputable def gNeg : R → AE := fun r ρ q => match r with
  | .d (.int i) => q (.d (.int (-i))) ρ
  | _ => False
theorem tok_neg (ha : TEok K ta a) : TEok K (tUn (rU fun i => .int (-i)) ta) (aUn gNeg a) := by
  intro F σ ρ H q Q r h k
  refine ha F σ ρ H _ _ r h fun r1 ρ1 x H1 h1 o1 => ?_
  obtain ⟨r1', k1, i1⟩ := o1.inF
  unfold gNeg at h1
  split at h1
  · rename_i i e
    rw [e] at i1
    exact ⟨i, i1.int, (k.after k1).int r1' h1⟩
  · exact h1.elim
noncomputable def gIsB (neg : Bool) : R → R → AE := fun r1 r2 ρ q => match r1, r2 with
  | .d (.bl x), .d (.bl y) => q (.d (.bl (if neg then !(x == y) else x == y))) ρ
  | _, _ => False
theorem ook_isB : OpOk K (fun x y H Q => ∃ a b, x = .bl a ∧ y = .bl b ∧ Q (.bl (a == b)) H) (gIsB false) := by
  intro F σ ρ H x y r1 r2 q Q a h1 h2 h b
  unfold gIsB at h
  split at h
  · exact ⟨_, _, h1.blv, h2.blv, b.bl a h⟩
  · exact h.elim
noncomputable def isNon : D → Bool
  | .non => true
  | _ => false
noncomputable def isEx (ρ : En) : R → Bool
  | .o i => (match gt ρ i with | .ex _ _ => true | _ => false)
  | _ => false
noncomputable def gIsN (neg : Bool) : R → R → AE := fun r1 r2 ρ q => match view ρ r1, r2 with
  | some d, .d .non => q (.d (.bl (if neg then !isNon d else isNon d))) ρ
  | none, .d .non => isEx ρ r1 = true ∧ q (.d (.bl neg)) ρ
  | _, _ => False
theorem isEx_ref {F : Fr} {σ : St} {ρ : En} {H : Hp} {x : V} {r1 : R} (a : Rel K F σ ρ H) (h1 : InF K F σ ρ H x r1) (h : isEx ρ r1 = true) : ∃ e, x = .ref e := by
  cases r1 with
  | d d => cases h
  | n s => cases h
  | t n => cases h
  | o i =>
    have q := a.sl i
    cases hg : gt ρ i with
    | ex C fs =>
      rw [hg] at q
      obtain ⟨e, od, e1, _⟩ := q
      rw [show σ[i]? = _ from h1] at e1
      injection e1 with e1; injection e1 with e1
      exact ⟨e, e1⟩
    | _ => exact absurd h (by show ¬ (match gt ρ i with | .ex _ _ => true | _ => false) = true; rw [hg]; exact fun z => nomatch z)
theorem isNon_rep {x : V} {d : D} (h : RepD K H x d) : decide (x = V.non) = isNon d := by
  cases d with
  | non => unfold RepD at h; subst h; rfl
  | bl b => unfold RepD at h; subst h; rfl
  | int b => unfold RepD at h; subst h; rfl
  | str b => unfold RepD at h; subst h; rfl
  | tup ds => unfold RepD at h; obtain ⟨a, vs, rfl, _⟩ := h; rfl
  | lst ds => unfold RepD at h; obtain ⟨a, vs, rfl, _⟩ := h; rfl
theorem ook_isN : OpOk K (fun x y H Q => y = .non ∧ Q (.bl (decide (x = .non))) H) (gIsN false) := by
  intro F σ ρ H x y r1 r2 q Q a h1 h2 h b
  unfold gIsN at h
  split at h
  · rename_i d e
    unfold InF RepD at h2
    refine ⟨h2, ?_⟩
    rw [isNon_rep (view_rep a h1 e)]
    exact b.bl a h
  · unfold InF RepD at h2
    obtain ⟨h', h⟩ := h
    obtain ⟨e, rfl⟩ := isEx_ref a h1 h'
    refine ⟨h2, ?_⟩
    rw [decide_eq_false (fun z => nomatch z)]
    exact b.bl a h
  · exact h.elim
end
theorem forA_inv {c : En → Prop} {g : AG} {b : AS} {e : AEnds} (I : Nat → En → Prop) {ds : List D} (hc : ∀ k ρ, k ≤ ds.length → I k ρ → c ρ)
    (hs : ∀ (k : Nat) d ρ (N : En → Prop), ds[k]? = some d → I k ρ → (∀ ρ', I (k + 1) ρ' → N ρ') → g d ρ fun ρ1 => b { nx := N, ct := N, bk := e.nx, rt := e.rt } ρ1) (hd : ∀ ρ, I ds.length ρ → e.nx ρ) : ∀ ρ, I 0 ρ → forA c g b e ds ρ := by
  have go : ∀ (es : List D) (k : Nat), ds.drop k = es → k ≤ ds.length → ∀ ρ, I k ρ → forA c g b e es ρ := by
    intro es
    induction es with
    | nil =>
      intro k h hk ρ i
      have : ds.length ≤ k := List.drop_eq_nil_iff.mp h
      have : k = ds.length := by first | assumption | decide | (clear h; omega)
      subst this
      unfold forA
      exact ⟨hc _ ρ (Nat.le_refl _) i, hd ρ i⟩
    | cons d es ih =>
      intro k h hk ρ i
      have lt : k < ds.length := by
        rcases Nat.lt_or_ge k ds.length with q | q
        · exact q
        · rw [List.drop_eq_nil_of_le q] at h; cases h
      rw [List.drop_eq_getElem_cons lt] at h
      injection h with h1 h2
      unfold forA
      exact ⟨hc k ρ hk i, hs k d ρ _ (by rw [← h1]; exact List.getElem?_eq_getElem lt) i (fun ρ' i' => ih (k + 1) h2 lt ρ' i')⟩
  exact go ds 0 rfl (Nat.zero_le _)
theorem compA_inv {n : Nat} {js : List Nat} {c : En → Prop} {g : AG} {tc : AT} {te : AE} {q : List D → En → Prop} (I : Nat → List D → En → Prop) {ds : List D} (hc : ∀ k acc ρ, k ≤ ds.length → I k acc ρ → c ρ)
    (hs : ∀ (k : Nat) d acc ρ (N : List D → En → Prop), ds[k]? = some d → I k acc ρ → (∀ acc' ρ', I (k + 1) acc' ρ' → N acc' ρ') →
      g d (blkE n js ρ) fun ρ1 => tc ρ1 fun b ρ2 => if b = true then te ρ2 fun r ρ3 => sto [r.frz] ρ3 fun es ρ4 => N (acc ++ es) (back ρ (js.map R.o) (ρ4.drop n)) else N acc (back ρ (js.map R.o) (ρ2.drop n)))
    (hd : ∀ acc ρ, I ds.length acc ρ → q acc ρ) : ∀ ρ, I 0 [] ρ → compA n js c g tc te q ds [] ρ := by
  have go : ∀ (es : List D) (k : Nat), ds.drop k = es → k ≤ ds.length → ∀ acc ρ, I k acc ρ → compA n js c g tc te q es acc ρ := by
    intro es
    induction es with
    | nil =>
      intro k h hk acc ρ i
      have : ds.length ≤ k := List.drop_eq_nil_iff.mp h
      have : k = ds.length := by first | assumption | decide | (clear h; omega)
      subst this
      unfold compA
      exact ⟨hc _ acc ρ (Nat.le_refl _) i, hd acc ρ i⟩
    | cons d es ih =>
      intro k h hk acc ρ i
      have lt : k < ds.length := by
        rcases Nat.lt_or_ge k ds.length with q | q
        · exact q
        · rw [List.drop_eq_nil_of_le q] at h; cases h
      rw [List.drop_eq_getElem_cons lt] at h
      injection h with h1 h2
      unfold compA
      exact ⟨hc k acc ρ hk i, hs k d acc ρ (fun acc' ρ' => compA n js c g tc te q es acc' ρ') (by rw [← h1]; exact List.getElem?_eq_getElem lt) i (fun acc' ρ' i' => ih (k + 1) h2 lt acc' ρ' i')⟩
  exact go ds 0 rfl (Nat.zero_le _) []
end L2
set_option Elab.async false
set_option linter.all false
set_option maxRecDepth 100000
namespace L2
open PySem PySem.Spec PyProof.Rows
section
variable {es : List Expr} {env : Env}
theorem st_Constant {a b c} : starEach (.Constant a b c :: es) env = (false, eval (.Constant a b c) env) :: starEach es env := rfl
end
noncomputable def NS (e : Expr) : Prop := ∀ (es : List Expr) (env : Env), starEach (e :: es) env = (false, eval e env) :: starEach es env
theorem ns_Constant {a b c} : NS (.Constant a b c) := fun _ _ => st_Constant
end L2
set_option Elab.async false
set_option linter.all false
set_option maxRecDepth 100000
namespace L2
open PySem PySem.Spec PyProof.Rows
section
variable {X : Cx} (K : PySem.W.Frag)
noncomputable def rCatL (K : PySem.W.Frag) : R2 := fun x y H Q => ∃ a b xs ys, x = .ref a ∧ y = .ref b ∧ SqL K H a xs ∧ SqL K H b ys ∧ xs.length + ys.length ≤ 1000000 ∧ ∀ p, H p = none → Q (.ref p) (upd H p (.lst (xs ++ ys)))
theorem op_catL (hK : X.K = K := by rfl) : OpR X (binaryOp .Add) (rCatL K) := by
  subst hK
  intro pins s σ H x y v u Q I rx ry h
  obtain ⟨a, b, xs, ys, rfl, rfl, ha, hb, hz, q⟩ := h
  cases rx
  cases ry
  obtain ⟨its, r1, p1, _⟩ := I.list ha
  obtain ⟨its2, r2, p2, _⟩ := I.list hb
  have hz' : its.length + its2.length ≤ sizeLine := small (by rw [← r1.length, ← r2.length]; exact hz)
  obtain ⟨⟨cls, dd, data, sl⟩, ho, hc, n, hd⟩ := p1.isList
  obtain ⟨⟨cls2, dd2, data2, sl2⟩, ho2, hc2, n2, hd2⟩ := p2.isList
  simp only at hc hd hc2 hd2
  subst hc hd hc2 hd2
  refine concat_meets ⟨_, ho, rfl⟩ ⟨_, ho2, rfl⟩ noFill_list_add seq_list_add PySem.F.slot_list_add PySem.F.entry_list_add (PySem.F.args_list_add_2 _ _) (list_addW a b its.toArray its2.toArray n n2 dd dd2 sl sl2 (by rw [List.size_toArray, List.size_toArray]; exact hz')) ⟨ho, ho2, ?_⟩
  refine ⟨.ref s.heap.objs.size, _, I.laid (t' := s.toks) (o := .lst (xs ++ ys)) (fun b ob q => Heap.get?_push_of_some _ q) (Nat.le_refl _) ?_, rfl, q _ (I.hok.fresh (Nat.le_refl _))⟩
  refine ⟨by rw [List.length_append]; exact small hz, _, 0, r1.append r2, ?_⟩
  rw [show (its ++ its2).toArray = its.toArray ++ its2.toArray by simp]
  exact Heap.get?_push_size _ rfl
noncomputable def tRev (K : PySem.W.Frag) (te : TE) (ts : TO) : TE := fun σ H Q => te σ H fun x H1 => ts σ H1 fun o H2 => o = some (-1) ∧ ∃ a xs, x = .ref a ∧ SqL K H2 a xs ∧ ∀ p, H2 p = none → Q (.ref p) (upd H2 p (.lst xs.reverse))
variable {e st : Expr} {te : TE} {ts : TO} {pos p2 : Pos}
theorem pe_revK (he : PE X e te) (hst : PO X (some st) ts) (hK : X.K = K := by rfl) {ops : Value → Value → List Value} (htl : ∀ v sl, subscripted (.Slice none none (some st) p2) false v sl = operate (ops v sl) (getItem v sl)) : PE X (.Subscript e (.Slice none none (some st) p2) pos) (tRev K te ts) := by
  subst hK
  intro pins s σ H Q I h
  refine Subscript_ (thn (he pins s σ H _ I h) fun v s1 hZq => ?_)
  obtain ⟨x, H1, I1, r1, q1⟩ := hZq
  refine wpAny_Slice ?_
  rw [evalPart_none]
  refine wpAny_pure (wpAny_pure ?_)
  refine thn (hst pins s1 σ H1 _ I1 q1) fun vk s3 hZq => ?_
  obtain ⟨o, H3, I3, pk, q3⟩ := hZq
  obtain ⟨rfl, a, xs, rfl, hx, q⟩ := q3
  cases r1
  have I4 : Inv X pins σ H3 { s3 with heap := s3.heap.push { cls := .type "slice", data := .fields #[.none, .none, vk] } } := I3.kept (t' := s3.toks) fun b ob q => Heap.get?_push_of_some _ q
  obtain ⟨its, r, ht, hz⟩ := I4.list hx
  have hg : wpAny (model X.prog X.w) X.A (getItem (.ref a) (.ref s3.heap.objs.size)) (EP X pins σ Q) X.xe { s3 with heap := s3.heap.push { cls := .type "slice", data := .fields #[.none, .none, vk] } } := by
    refine wpAny_getItem_list_slice ht.isList (Heap.IsSliceOf.new ..) .none .none pk (by simp) ?_ (by rw [List.size_toArray, ← r.length]; exact hz)
    rw [PySem.W.krv_pick]
    refine ⟨.ref _, _, I4.laid (t' := s3.toks) (o := .lst xs.reverse) (fun b ob q => Heap.get?_push_of_some _ q) (Nat.le_refl _) ?_, rfl, q _ (I4.hok.fresh (Nat.le_refl _))⟩
    refine ⟨by rw [List.length_reverse]; exact hz, its.reverse, 0, ?_, ?_⟩
    · have rev : ∀ {xs : List V} {us : List Value}, Vals xs us → Vals xs.reverse us.reverse := by
        intro xs us h
        induction h with
        | nil => exact .nil
        | cons a _ ih => rw [List.reverse_cons, List.reverse_cons]; exact ih.append (.cons a .nil)
      exact rev r
    · exact Heap.get?_push_size _ rfl
  show wpAny (model X.prog X.w) X.A (subscriptTail e (.Slice none none (some st) p2) (.ref a) (.ref s3.heap.objs.size)) (EP X pins σ Q) X.xe { s3 with heap := s3.heap.push { cls := .type "slice", data := .fields #[.none, .none, vk] } }
  exact tail_any ht.isList.typeIs slot_list_getitem.lookup hg (htl _ _)
end
section
variable {K : PySem.W.Frag} {ta te : TE} {a ae : AE} {ts : TA} {as : AA}
noncomputable def gCat : R → R → AE := fun r1 r2 ρ q => match view ρ r1, view ρ r2 with
  | some (.lst ds), some (.lst es) => ds.length + es.length ≤ 1000000 ∧ q (.f (ds ++ es)) ρ
  | _, _ => False
theorem ook_cat : OpOk K (rCatL K) gCat := by
  intro F σ ρ H x y r1 r2 q Q a h1 h2 h b
  unfold gCat at h
  split at h
  · rename_i ds es e1 e2
    obtain ⟨l, vs, rfl, sq, rd⟩ := view_lst a h1 e1
    obtain ⟨l2, vs2, rfl, sq2, rd2⟩ := view_lst a h2 e2
    exact ⟨l, l2, vs, vs2, rfl, rfl, sq, sq2, by rw [rd.length, rd2.length]; exact h.1, fun p hp => b.new a h.2 (rd.append rd2) hp⟩
  · exact h.elim
noncomputable def aRev (a : AE) (o : AO) : AE := fun ρ q => a ρ fun r ρ1 => o ρ1 fun k ρ2 => k = some (-1) ∧ (match view ρ2 r.frz with
  | some (.lst ds) => q (.f ds.reverse) ρ2
  | _ => False)
theorem RepDs.reverse {H : Hp} : ∀ {vs : List V} {ds : List D}, RepDs K H vs ds → RepDs K H vs.reverse ds.reverse
  | [], [], _ => .nil
  | v :: vs, d :: ds, h => by
    unfold RepDs at h
    rw [List.reverse_cons, List.reverse_cons]
    exact (RepDs.reverse h.2).append (.one h.1)
  | [], d :: ds, h => by unfold RepDs at h; exact h.elim
  | v :: vs, [], h => by unfold RepDs at h; exact h.elim
theorem tok_rev {to : TO} {ao : AO} (ha : TEok K ta a) (ho : TOok K to ao) : TEok K (tRev K ta to) (aRev a ao) := by
  intro F σ ρ H q Q r h k
  refine ha F σ ρ H _ _ r h fun r1 ρ1 x H1 h1 rel1 => ?_
  obtain ⟨r', k1, i1⟩ := rel1.inF
  refine ho F σ ρ1 H1 _ _ r' h1 fun o ρ2 H2 h2 r2 k2 => ?_
  obtain ⟨rfl, h2⟩ := h2
  split at h2
  · rename_i ds e
    obtain ⟨p, vs, rfl, sq, rd⟩ := view_lst r2 (i1.keep k2) e
    exact ⟨rfl, p, vs, rfl, sq, fun p' hp => ((k.after k1).after k2).new r2 h2 rd.reverse hp⟩
  · exact h2.elim
noncomputable def aLRng (a : AE) : AE := fun ρ q => a ρ fun r ρ1 => match r with
  | .d (.int j) => (0 ≤ j ∧ j ≤ 1000000) ∧ q (.f (natsD (List.range j.toNat))) ρ1
  | _ => False
theorem tok_lrng (ha : TEok K ta a) : TEok K (tCB (fun xs H Q => ∃ (p : Addr) (n : Nat), xs = [.ref p] ∧ H p = some (.rng 0 (n : Nat)) ∧ n ≤ 1000000 ∧ ∀ l, H l = none → Q (.ref l) (upd H l (.lst (natsV (List.range n)))))
    (tCons (tCB (fun xs H Q => ∃ j : Int, xs = [.int j] ∧ ∀ p, H p = none → Q (.ref p) (upd H p (.rng 0 j))) (tCons ta tNil)) tNil)) (aLRng a) := by
  intro F σ ρ H q Q r h k
  refine ha F σ ρ H _ _ r h fun r1 ρ1 x H1 h1 rel1 => ?_
  obtain ⟨r', k1, i1⟩ := rel1.inF
  split at h1
  · rename_i j
    obtain ⟨⟨h0, h2⟩, h1⟩ := h1
    obtain ⟨n, rfl⟩ := Int.eq_ofNat_of_zero_le h0
    refine ⟨_, by rw [i1.int], fun p hp => ⟨p, n, rfl, upd_same, by first | assumption | decide | (clear hp; omega), fun l hl => ?_⟩⟩
    have rp := r'.fresh (o := .rng 0 (n : Nat)) hp
    refine ((k.after k1).after (Kp.fresh hp)).new rp h1 ?_ hl
    rw [Int.toNat_natCast]
    exact repNats.mpr rfl
  · exact h1.elim
end
end L2
set_option Elab.async false
set_option linter.all false
set_option maxRecDepth 100000
namespace L2
open PySem PySem.Spec PyProof.Rows
noncomputable abbrev nD (n : Nat) : D := .int (n : Nat)
noncomputable abbrev nv (n : Nat) : Sv := .vl (.int (n : Nat))
noncomputable def ownB (pr : Nat → Bool) : En → Nat → Bool
  | [], _ => true
  | s :: ss, i => (!s.own || pr i) && ownB pr ss (i + 1)
theorem ownB_ok {pr : Nat → Bool} : ∀ {ss : En} {j : Nat}, ownB pr ss j = true → ∀ i, (gt ss i).own = true → pr (j + i) = true
  | [], _, _, i, h => by cases h
  | s :: ss, j, hb, 0, h => by
    simp only [ownB, Bool.and_eq_true, Bool.or_eq_true, Bool.not_eq_true'] at hb
    rcases hb.1 with q | q
    · rw [show (gt (s :: ss) 0) = s from rfl, q] at h; cases h
    · exact q
  | s :: ss, j, hb, i + 1, h => by
    simp only [ownB, Bool.and_eq_true] at hb
    have := ownB_ok hb.2 i h
    rwa [show j + 1 + i = j + (i + 1) by (clear this hb h; omega)] at this
theorem DefN.aok2 {P : Program} {w : World} {K : PySem.W.Frag} {mg : Str → Option Value} {base : Heap} {x : Str} {st : Stmt} {N ps : List Str} {k : Nat} {a : AS} (D : DefN K mg x st ps) (Sc : FnScope N ps (defScope st)) (pr : Nat → Bool) (us : En) (S : ASp) (hus : List.replicate (N.length - ps.length) Sv.un = us)
    (hbody : ∀ (f : Addr) (cdv : Value) (A : Around) (outer : List Env) (s : Shared) (H : Hp) (E : XK), Room k (A.deeper (envOfC x (defScope st) s.heap.objs.size f cdv)) →
      ∃ t, PSs (cxOf CX0 P w K mg base N x (defScope st) f cdv A outer s H E).nox (defBody st) t ∧ TSok K pr t a)
    (hS : ∀ ss q, S ss q → ss.length = ps.length ∧ ownB pr ss 0 = true ∧ a ⟨fun ρ => q (.d .non) (outS ss ρ), fun r ρ => fin pr r ρ fun r' ρ' => q r' (outS ss ρ'), fun _ => False, fun _ => False⟩ (ss ++ us)) : OkN P w K mg base (k + 1) x ps (spA K S) :=
  D.aok Sc pr S hbody fun ss q h => ⟨(hS ss q h).1, fun i hi => by have := ownB_ok (hS ss q h).2.1 i hi; rwa [Nat.zero_add] at this, by rw [hus]; exact (hS ss q h).2.2⟩
theorem rngD_get {lo : Int} {n k : Nat} {d : D} (h : (rngD lo n)[k]? = some d) : k < n ∧ d = .int (lo + k) := by
  unfold rngD at h
  rw [List.getElem?_map] at h
  obtain ⟨j, e1, e2⟩ := Option.map_eq_some_iff.mp h
  have lt : k < n := by
    rcases Nat.lt_or_ge k n with q | q
    · exact q
    · rw [List.getElem?_eq_none (by simpa using q)] at e1; cases e1
  rw [List.getElem?_range lt] at e1
  cases e1
  exact ⟨lt, e2.symm⟩
noncomputable abbrev turnA (n : Nat) (js : List Nat) (g : AG) (tc : AT) (te : AE) (ρ : En) (d : D) (acc : List D) (N : List D → En → Prop) : Prop :=
  g d (blkE n js ρ) fun ρ1 => tc ρ1 fun b ρ2 => if b = true then te ρ2 fun r ρ3 => sto [r.frz] ρ3 fun es ρ4 => N (acc ++ es) (back ρ (js.map R.o) (ρ4.drop n)) else N acc (back ρ (js.map R.o) (ρ2.drop n))
section
variable {n : Nat} {js : List Nat} {c : En → Prop} {g : AG} {tc : AT} {te : AE} {q : List D → En → Prop}
theorem compA_rng {lo : Int} {m : Nat} (f : Nat → D) {ρ : En} (hc : c ρ) (hs : ∀ k acc (N : List D → En → Prop), k < m → N (acc ++ [f k]) ρ → turnA n js g tc te ρ (.int (lo + k)) acc N)
    (hd : q ((List.range m).map f) ρ) : compA n js c g tc te q (rngD lo m) [] ρ := by
  refine compA_inv (fun k acc ρ' => k ≤ m ∧ ρ' = ρ ∧ acc = (List.range k).map f) (fun k acc ρ' _ h => h.2.1 ▸ hc) ?_ ?_ ρ ⟨Nat.zero_le _, rfl, rfl⟩
  · rintro k d acc _ N hk ⟨_, rfl, rfl⟩ hN
    obtain ⟨lt, rfl⟩ := rngD_get hk
    refine hs k _ N lt (hN _ _ ⟨lt, rfl, ?_⟩)
    rw [List.range_succ, List.map_append]; rfl
  · rintro acc _ ⟨_, rfl, rfl⟩
    rw [rngD_len]; exact hd
end
section
variable {c : En → Prop} {g : AG} {b : AS} {e : AEnds}
theorem forA_rng {lo : Int} {m : Nat} (I : Nat → En → Prop) (hc : ∀ k ρ, I k ρ → c ρ) (hs : ∀ (k : Nat) ρ (N : En → Prop), k < m → I k ρ → (∀ ρ', I (k + 1) ρ' → N ρ') → g (.int (lo + k)) ρ fun ρ1 => b { nx := N, ct := N, bk := e.nx, rt := e.rt } ρ1)
    (hd : ∀ ρ, I m ρ → e.nx ρ) {ρ : En} (h0 : I 0 ρ) : forA c g b e (rngD lo m) ρ := by
  refine forA_inv I (fun k ρ _ h => hc k ρ h) (fun k d ρ N hk h hN => ?_) (fun ρ h => hd ρ (by rwa [rngD_len] at h)) ρ h0
  obtain ⟨lt, rfl⟩ := rngD_get hk
  exact hs k ρ N lt h hN
theorem forA_lst {α : Type} (h : α → D) {xs : List α} (I : Nat → En → Prop) (hc : ∀ k ρ, I k ρ → c ρ) (hs : ∀ (k : Nat) x ρ (N : En → Prop), xs[k]? = some x → I k ρ → (∀ ρ', I (k + 1) ρ' → N ρ') → g (h x) ρ fun ρ1 => b { nx := N, ct := N, bk := e.nx, rt := e.rt } ρ1)
    (hd : ∀ ρ, I xs.length ρ → e.nx ρ) {ρ : En} (h0 : I 0 ρ) : forA c g b e (xs.map h) ρ := by
  refine forA_inv I (fun k ρ _ h => hc k ρ h) (fun k d ρ N hk h' hN => ?_) (fun ρ h => hd ρ (by rwa [List.length_map] at h)) ρ h0
  rw [List.getElem?_map] at hk
  obtain ⟨x, e1, rfl⟩ := Option.map_eq_some_iff.mp hk
  exact hs k x ρ N e1 h' hN
end
theorem atI_nats {xs : List Nat} {i : Nat} (h : i < xs.length) : atI (natsD xs) ((i : Nat) : Int) = some (.int (xs.getD i 0 : Nat)) := by
  refine atI_nat ?_
  unfold natsD
  rw [List.getElem?_map, List.getElem?_eq_getElem h]
  simp [h]
theorem gEq_ok {neg : Bool} {r1 r2 : R} {ρ : En} {q : Ko} {d e : D} {b : Bool} (h1 : view ρ r1 = some d) (h2 : view ρ r2 = some e) (hd : d.depth ≤ 60) (hb : eqD d e = b) (hq : q (.d (.bl (if neg then !b else b))) ρ) : gEq neg r1 r2 ρ q := by
  unfold gEq
  rw [h1, h2]
  subst hb
  exact ⟨hd, hq⟩
theorem gIx_l {r1 : R} {ρ : En} {q : Ko} {ds : List D} {i : Int} {d : D} (hv : view ρ r1 = some (.lst ds)) (h : atI ds i = some d) (hq : q (.d d) ρ) : gIx r1 (.d (.int i)) ρ q := by
  unfold gIx
  rw [hv]
  simp only [h]
  exact hq
theorem cutS {A B : AS} {e : AEnds} {ρ : En} (P : En → Prop) (h1 : ∀ N : En → Prop, (∀ ρ', P ρ' → N ρ') → A { e with nx := N } ρ) (h2 : ∀ ρ', P ρ' → B e ρ') : aSeq A B e ρ := h1 (B e) h2
theorem nv_eq {x : Int} {n : Nat} (h : x = (n : Nat)) : Sv.vl (.int x) = nv n := by rw [h]
theorem minI (a b : Nat) : (if (b : Int) < (a : Int) then (b : Int) else (a : Int)) = ((min a b : Nat) : Int) := by split <;> omega
theorem maxI (a b : Nat) : (if (b : Int) > (a : Int) then (b : Int) else (a : Int)) = ((max a b : Nat) : Int) := by split <;> omega
theorem natsD_snoc (xs : List Nat) (x : Nat) : natsD (xs ++ [x]) = natsD xs ++ [nD x] := by unfold natsD; rw [List.map_append]; rfl
end L2
set_option Elab.async false
set_option linter.all false
set_option maxRecDepth 100000
namespace L2
open PySem PySem.Spec PyProof.Rows
theorem cutD_take (xs : List D) (k : Nat) : cutD xs none (some ((k : Nat) : Int)) = xs.take k := by
  unfold cutD
  have e0 : HT.sIx xs.length 0 none = 0 := rfl
  rw [e0, List.drop_zero, Nat.sub_zero, HT.sIx_nat]
  rcases Nat.le_total k xs.length with h | h
  · rw [Nat.min_eq_left h]
  · rw [Nat.min_eq_right h, List.take_of_length_le (Nat.le_refl _), List.take_of_length_le h]
noncomputable def SJoining : ASp := fun ss q => ∃ a b : Nat, ss = [nv a, nv b] ∧ q (.d (L2.pairD (min a b, max a b))) [nv a, nv b]
theorem cutD_drop (xs : List D) (k : Nat) : cutD xs (some ((k : Nat) : Int)) none = xs.drop k := by
  unfold cutD
  have e0 : HT.sIx xs.length xs.length none = xs.length := rfl
  rw [e0, HT.sIx_nat]
  rcases Nat.le_total k xs.length with h | h
  · rw [Nat.min_eq_left h, List.take_of_length_le (by rw [List.length_drop]; (clear h e0; omega))]
  · rw [Nat.min_eq_right h, List.drop_eq_nil_of_le (Nat.le_refl _), List.drop_eq_nil_of_le h]; simp
theorem natsD_len (xs : List Nat) : (natsD xs).length = xs.length := by rw [List.length_map]
theorem DefN.no {P : Program} {w : World} {K : PySem.W.Frag} {mg : Str → Option Value} {base : Heap} {x : Str} {st : Stmt} {N ps : List Str} (D : DefN K mg x st ps) (Sc : FnScope N ps (defScope st)) (k : Nat) : OkN P w K mg base (k + 1) x ps (spA K fun _ _ => False) :=
  D.ok Sc (fun vs H Q E h => by obtain ⟨_, _, _, _, h, _⟩ := h; exact h.elim) fun f cdv A outer s H vs Q E _ h => by obtain ⟨_, _, _, _, h, _⟩ := h; exact h.elim
end L2
set_option Elab.async false
set_option linter.all false
set_option maxRecDepth 100000
namespace L2
open PySem PySem.Spec PyProof.Rows
end L2
set_option Elab.async false
set_option linter.all false
set_option maxRecDepth 100000
namespace L2
open PySem PySem.Spec PyProof.Rows
section
variable {X : Cx} (K : PySem.W.Frag)
noncomputable def rRepL (K : PySem.W.Frag) : R2 := fun x y H Q => ∃ a xs, ∃ n : Nat, x = .ref a ∧ y = .int (n : Nat) ∧ SqL K H a xs ∧ n ≤ 1000 ∧ xs.length ≤ 1000 ∧ ∀ p, H p = none → Q (.ref p) (upd H p (.lst (List.replicate n xs).flatten))
theorem fold_rep (l : List Value) : ∀ (n : Nat) (acc : Array Value), List.foldl (fun x y => x ++ y) acc (List.replicate n l.toArray) = acc ++ ((List.replicate n l).flatten).toArray
  | 0, acc => by simp
  | n + 1, acc => by
    rw [List.replicate_succ, List.foldl_cons, fold_rep l n, List.replicate_succ, List.flatten_cons]
    simp
theorem vals_rep {xs : List V} {us : List Value} (h : Vals xs us) : ∀ n, Vals (List.replicate n xs).flatten (List.replicate n us).flatten
  | 0 => .nil
  | n + 1 => by rw [List.replicate_succ, List.replicate_succ, List.flatten_cons, List.flatten_cons]; exact h.append (vals_rep h n)
theorem wp_rep {M : Program} {w : World} {A : Around} {E : Value → Shared → Prop} {s : Shared} {a : Addr} {its : List Value} {m n : Nat} {t : Tok} {dd : Option Addr} {sl : Array (Option Value)} {Q : Value → Shared → Prop}
    (ho : s.heap.get? a = some { cls := .type "list", dict := dd, data := .seq its.toArray m, slots := sl }) (hm : its.length * n ≤ 1000000) (hn : n ≤ 1000)
    (hQ : Q (.ref s.heap.objs.size) { s with heap := s.heap.push { cls := .type "list", data := .seq ((List.replicate n its).flatten).toArray } }) : wpAny (model M w) A (binaryOp .Mult (.ref a) (.int (n : Nat) t)) Q E s := by
  have hm' : its.toArray.size * (n : Int).toNat ≤ 1000 * 1000 := by
    rw [List.size_toArray, Int.toNat_natCast]; exact hm
  have hf1 : ¬ (!Builtin.List.listFitsIndex (n : Int)) = true := by
    unfold Builtin.List.listFitsIndex
    simp only [Bool.not_eq_true', Bool.not_eq_false, Bool.and_eq_true, decide_eq_true_eq]
    (clear hm' hm ho; omega)
  have hf3 : ¬ its.toArray.size * (n : Int).toNat > (2 ^ 63 - 1) / 8 := by
    have e : (2 ^ 63 - 1) / 8 = 1152921504606846975 := by decide
    rw [e]; (clear e hf1 hn hm ho; omega)
  have hf2 : ¬ Builtin.List.listTooLong (its.toArray.size * (n : Int).toNat) = true := by
    generalize its.toArray.size * (n : Int).toNat = z at hm'
    unfold Builtin.List.listTooLong sizeLine
    simp only [decide_eq_true_eq]
    (clear hf3 hf1 hn hm ho; omega)
  have ho' : s.TypeIs (.ref a) "list" := ⟨_, ho, rfl⟩
  refine wpAny_binaryOp_repeat_ref (T := "list") (U := "int") (by decide) ho' (fun s' => typeIs_int s' n t) noFill_list_mul F.fills_int_mul F.slot_int_rmul repeat_list F.slot_int_index.lookup ?_
  refine call_meets F.slot_int_rmul (typeIs_int s n t) F.entry_int_rmul (F.args_int_rmul_2 _ _) (lm_int_rmul_list_any n t a its.toArray m dd sl) ⟨ho, rfl, ho', ?_⟩
  have hM0 := @lm_list_mul_any a its.toArray m dd sl (n : Int) t
  have e : List.foldl (fun x1 x2 => x1 ++ x2) #[] (List.replicate (if its.toArray.isEmpty = true then 0 else (n : Int).toNat) its.toArray) = ((List.replicate n its).flatten).toArray := by
    rw [fold_rep]
    cases its with
    | nil => simp
    | cons c r => simp
  generalize (n : Int) = k at *
  have hM := hM0 hf1 hf3 hf2
  refine call_meets F.slot_list_mul ho' F.entry_list_mul (F.args_list_mul_2 _ _) hM ⟨ho, ?_⟩
  rw [e]
  exact hQ
theorem op_repL (hK : X.K = K := by rfl) : OpR X (binaryOp .Mult) (rRepL K) := by
  subst hK
  intro pins s σ H x y v u Q I rx ry h
  obtain ⟨a, xs, n, rfl, rfl, ha, hn, hx, q⟩ := h
  cases rx
  obtain ⟨t, rfl⟩ := ry
  obtain ⟨its, r1, p1, _⟩ := I.list ha
  obtain ⟨⟨cls, dd, data, sl⟩, ho, hc, m, hd⟩ := p1.isList
  simp only at hc hd
  subst hc hd
  have hl : its.length = xs.length := r1.length.symm
  refine wp_rep ho (by rw [hl]; exact Nat.mul_le_mul hx hn) hn ?_
  refine ⟨.ref s.heap.objs.size, _, I.laid (t' := s.toks) (o := .lst (List.replicate n xs).flatten) (fun b ob q => Heap.get?_push_of_some _ q) (Nat.le_refl _) ?_, rfl, q _ (I.hok.fresh (Nat.le_refl _))⟩
  refine ⟨?_, (List.replicate n its).flatten, 0, vals_rep r1 n, Heap.get?_push_size _ rfl⟩
  refine small ?_
  have := Nat.mul_le_mul hn hx
  simp only [List.length_flatten, List.map_replicate, List.sum_replicate_nat]
  exact this
end
section
variable {prog : Program} {w : World} {A : Around} {it : Addr} {own wr : List Addr} {len : Nat} {Pv : Nat → Value → Prop} {Sx : Nat → Heap → Prop} {Rz : Result → Shared → Prop}
end
section
variable {X : Cx} (K : PySem.W.Frag)
end
section
variable {K : PySem.W.Frag} {te : TE} {ae : AE} {ts : TA} {as : AA}
noncomputable def gRep : R → R → AE := fun r1 r2 ρ q => match view ρ r1, r2 with
  | some (.lst ds), .d (.int n) => (0 ≤ n ∧ n ≤ 1000 ∧ ds.length ≤ 1000) ∧ q (.f (List.replicate n.toNat ds).flatten) ρ
  | _, _ => False
theorem RepDs.reps {H : Hp} {vs : List V} {ds : List D} (h : RepDs K H vs ds) : ∀ n, RepDs K H (List.replicate n vs).flatten (List.replicate n ds).flatten
  | 0 => .nil
  | n + 1 => by rw [List.replicate_succ, List.replicate_succ, List.flatten_cons, List.flatten_cons]; exact h.append (RepDs.reps h n)
theorem ook_rep : OpOk K (rRepL K) gRep := by
  intro F σ ρ H x y r1 r2 q Q a h1 h2 h b
  unfold gRep at h
  split at h
  · rename_i ds n e1
    obtain ⟨⟨c1, c2, c3⟩, h⟩ := h
    obtain ⟨l, vs, rfl, sq, rd⟩ := view_lst a h1 e1
    obtain ⟨m, rfl⟩ := Int.eq_ofNat_of_zero_le c1
    exact ⟨l, vs, m, rfl, h2.int, sq, by first | assumption | decide | (clear c3 e1; omega), by rw [rd.length]; exact c3, fun p hp => b.new a h (rd.reps _) hp⟩
  · exact h.elim
end
end L2
set_option Elab.async false
set_option linter.all false
set_option maxRecDepth 100000
namespace L2
open PySem PySem.Spec PyProof.Rows
section
variable {X : Cx} {st : Stmt} {rest : List Stmt} {t u : TS}
end
structure PAz (X : Cx) (es : List Expr) (t : TA) : Prop where
  h : PA X es t
section
variable {X : Cx} {e : Expr} {es : List Expr} {te : TE} {t : TA} {pos : Pos}
theorem za_nil : PAz X [] tNil := ⟨pa_nil⟩
theorem za_cons (n : NS e) (ha : PE X e te) (hr : PAz X es t) : PAz X (e :: es) (tCons te t) := ⟨pa_cons ha hr.h (n es X.env)⟩
theorem pz_lst (h : PAz X es t) : PE X (.List es pos) (tLst t) := pe_lst h.h
end
section
variable {X : Cx} {st : Stmt} {rest : List Stmt} {t u : TS} {i : Nat} {x : Str} {e : Expr} {es : List Expr} {te : TE} {ta : TA} {pos pos' : Pos}
end
end L2
set_option Elab.async false
set_option linter.all false
set_option maxRecDepth 100000
namespace HT
open PySem PySem.Spec PyProof.Rows
end HT
namespace L2
open PySem PySem.Spec PyProof.Rows
section
variable {X : Cx} (K : PySem.W.Frag)
end
section
variable {K : PySem.W.Frag} {ta : TE} {a : AE}
end
end L2
set_option Elab.async false
set_option linter.all false
set_option maxRecDepth 100000
namespace L2
open PySem PySem.Spec PyProof.Rows
section
variable {prog : Program} {w : World} {K0 : Type} [DecidableEq K0] {knd : KeyKind prog w K0} {A : Around} {E : Value → Shared → Prop} {s : Shared}
end
section
variable {X : Cx} {pins : List (Addr × Obj)} {σ : St} {H : Hp} {s : Shared} {A : Around} {E : Value → Shared → Prop}
end
noncomputable def dKey : D → Option Key
  | .int i => some (.inl i)
  | .str x => some (.inr x)
  | _ => none
section
variable {κ : Type} [DecidableEq κ]
noncomputable def valD (kvs : List (κ × D)) (k : κ) : Option D := (kvs.find? fun kv => decide (kv.1 = k)).map (·.2)
noncomputable def putD (kvs : List (κ × D)) (k : κ) (d : D) : List (κ × D) :=
  if (kvs.any fun kv => decide (kv.1 = k)) = true then kvs.map (fun kv => if kv.1 = k then (kv.1, d) else kv) else kvs ++ [(k, d)]
variable {K : PySem.W.Frag} {H : Hp}
theorem val_rep (k : κ) : ∀ {ks : List (κ × V)} {kvs : List (κ × D)}, ks.map Prod.fst = kvs.map Prod.fst → RepDs K H (ks.map Prod.snd) (kvs.map Prod.snd) →
    (∀ d, valD kvs k = some d → ∃ v, valV ks k = some v ∧ RepD K H v d) ∧ (valD kvs k = none → valV ks k = none)
  | [], [], _, _ => ⟨(fun _ h => nomatch h), fun _ => rfl⟩
  | p :: ks, q :: kvs, e, r => by
    simp only [List.map_cons, List.cons.injEq] at e
    rw [List.map_cons, List.map_cons] at r
    unfold RepDs at r
    obtain ⟨i1, i2⟩ := val_rep k e.2 r.2
    by_cases z : q.1 = k
    · have e1 : valD (q :: kvs) k = some q.2 := by simp [valD, List.find?_cons, z]
      rw [e1, valV_pos (e.1.trans z)]
      exact ⟨fun d h => ⟨_, rfl, by cases h; exact r.1⟩, fun h => by cases h⟩
    · have e1 : valD (q :: kvs) k = valD kvs k := by simp [valD, List.find?_cons, z]
      rw [e1, valV_neg (fun h => z (e.1 ▸ h))]
      exact ⟨i1, i2⟩
  | [], q :: kvs, e, _ => by simp at e
  | p :: ks, [], e, _ => by simp at e
theorem any_rep (k : κ) {ks : List (κ × V)} {kvs : List (κ × D)} (e : ks.map Prod.fst = kvs.map Prod.fst) : (ks.any fun kv => decide (kv.1 = k)) = kvs.any fun kv => decide (kv.1 = k) := by
  have h1 : (ks.any fun kv => decide (kv.1 = k)) = (ks.map Prod.fst).any fun x => decide (x = k) := by rw [List.any_map]; rfl
  have h2 : (kvs.any fun kv => decide (kv.1 = k)) = (kvs.map Prod.fst).any fun x => decide (x = k) := by rw [List.any_map]; rfl
  rw [h1, h2, e]
theorem repl_rep (k : κ) {v : V} {d : D} (rv : RepD K H v d) : ∀ {ks : List (κ × V)} {kvs : List (κ × D)}, ks.map Prod.fst = kvs.map Prod.fst → RepDs K H (ks.map Prod.snd) (kvs.map Prod.snd) →
    (ks.map fun kv => if kv.1 = k then (kv.1, v) else kv).map Prod.fst = (kvs.map fun kv => if kv.1 = k then (kv.1, d) else kv).map Prod.fst ∧ RepDs K H ((ks.map fun kv => if kv.1 = k then (kv.1, v) else kv).map Prod.snd) ((kvs.map fun kv => if kv.1 = k then (kv.1, d) else kv).map Prod.snd)
  | [], [], _, _ => ⟨rfl, .nil⟩
  | p :: ks, q :: kvs, e, r => by
    simp only [List.map_cons, List.cons.injEq] at e
    rw [List.map_cons, List.map_cons] at r
    unfold RepDs at r
    obtain ⟨i1, i2⟩ := repl_rep k rv e.2 r.2
    simp only [List.map_cons, e.1]
    by_cases z : q.1 = k
    · simp only [z, if_true]
      exact ⟨by rw [i1], .cons rv i2⟩
    · simp only [z, if_false]
      exact ⟨by rw [i1, e.1], .cons r.1 i2⟩
  | [], q :: kvs, e, _ => by simp at e
  | p :: ks, [], e, _ => by simp at e
theorem put_rep (k : κ) {v : V} {d : D} (rv : RepD K H v d) {ks : List (κ × V)} {kvs : List (κ × D)} (e : ks.map Prod.fst = kvs.map Prod.fst) (r : RepDs K H (ks.map Prod.snd) (kvs.map Prod.snd)) :
    (putK ks k v).map Prod.fst = (putD kvs k d).map Prod.fst ∧ RepDs K H ((putK ks k v).map Prod.snd) ((putD kvs k d).map Prod.snd) := by
  unfold putK putD
  rw [any_rep k e]
  split
  · exact repl_rep k rv e r
  · refine ⟨by rw [List.map_append, List.map_append, e]; rfl, ?_⟩
    rw [List.map_append, List.map_append]
    exact r.append (.one rv)
theorem keys_len {ks : List (κ × V)} {kvs : List (κ × D)} (e : ks.map Prod.fst = kvs.map Prod.fst) : ks.length = kvs.length := by
  have := congrArg List.length e
  simpa using this
end
section
variable {K : PySem.W.Frag} {F : Fr} {σ : St} {ρ ρ' : En} {H H' : Hp} {td ty tx : TE} {ad ay ax : AE}
theorem kV_of {v : V} {d : D} {k : Key} (h : RepD K H v d) (e : dKey d = some k) : v = kV k := by
  cases d with
  | int i => unfold RepD at h; injection e with e; subst e; exact h
  | str i => unfold RepD at h; injection e with e; subst e; exact h
  | non => cases e
  | bl _ => cases e
  | tup _ => cases e
  | lst _ => cases e
noncomputable def aDNew : AE := fun ρ q => q (.n (.dk [])) ρ
theorem tok_dnew : TEok K tDNewK aDNew := fun F σ ρ H q Q r h k p hp => k (.n (.dk [])) ρ _ _ h ⟨H, p, _, r, .refl, rfl, ⟨p, [], rfl, upd_same, rfl, .nil⟩, hp, rfl, rfl⟩
theorem dk_at {i : Nat} {x : V} {kvs : List (Key × D)} (r : Rel K F σ ρ H) (ei : σ[i]? = some (some x)) (hg : gt ρ i = .dk kvs) : ∃ t ks, x = .ref t ∧ H t = some (.dK ks) ∧ ks.map Prod.fst = kvs.map Prod.fst ∧ RepDs K (hid H (hs F σ ρ)) (ks.map Prod.snd) (kvs.map Prod.snd) := by
  have s := r.sl i
  rw [hg, ei] at s
  obtain ⟨t, ks, e, h1, h2, h3⟩ := s
  injection e with e; injection e with e
  exact ⟨t, ks, e, h1, h2, h3⟩
@[irreducible] noncomputable def gDGet (kvs : List (Key × D)) (d : D) (q : D → Prop) : Prop := match dKey d with
  | some k => (match valD kvs k with | some x => q x | none => False)
  | none => False
theorem gDGet_inv {kvs : List (Key × D)} {d : D} {q : D → Prop} (h : gDGet kvs d q) : ∃ k x, dKey d = some k ∧ valD kvs k = some x ∧ q x := by
  unfold gDGet at h
  split at h
  · rename_i k e
    split at h
    · rename_i x e'; exact ⟨k, x, e, e', h⟩
    · exact h.elim
  · exact h.elim
theorem gDGet_ok {kvs : List (Key × D)} {d x : D} {k : Key} {q : D → Prop} (e : dKey d = some k) (e' : valD kvs k = some x) (h : q x) : gDGet kvs d q := by
  unfold gDGet
  simp only [e, e']
  exact h
noncomputable def aDGet (a i : AE) : AE := fun ρ q => a ρ fun r ρ1 => match r with
  | .o j => i ρ1 fun r2 ρ2 => (match r2, gt ρ2 j with
    | .d d, .dk kvs => gDGet kvs d fun x => q (.d x) ρ2
    | _, _ => False)
  | _ => False
theorem tok_dget (ha : TEok K td ad) (hi : TEok K ty ay) : TEok K (tDGet td ty) (aDGet ad ay) := by
  intro F σ ρ H q Q r h k
  refine ha F σ ρ H _ _ r h fun r1 ρ1 x H1 h1 o1 => ?_
  obtain ⟨r1', k1, i1⟩ := o1.inF
  split at h1
  · rename_i j
    have ej : σ[j]? = some (some x) := i1
    refine hi F σ ρ1 H1 _ _ r1' h1 fun r2 ρ2 y H2 h2 o2 => ?_
    obtain ⟨r2', k2, i2⟩ := o2.inF
    split at h2
    · rename_i d kvs hg
      obtain ⟨kk, z, ek, ez, hq⟩ := gDGet_inv h2
      obtain ⟨t, ks, rfl, ht, e1, e2⟩ := dk_at r2' ej hg
      obtain ⟨v, ev, rv⟩ := (val_rep kk e1 e2).1 z ez
      refine ⟨t, v, rfl, ?_, ((k.after k1).after k2).dat r2' hq rv⟩
      rw [kV_of i2 ek, ← ev]
      exact DGet.k ht
    · exact h2.elim
  · exact h1.elim
noncomputable def aDPut (x o i : AE) : AS := fun e ρ => x ρ fun r ρ1 => sto [r.frz] ρ1 fun ds ρ2 => o ρ2 fun r2 ρ3 => match r2 with
  | .o j => i ρ3 fun r3 ρ4 => (match r3, gt ρ4 j, ds with
    | .d kd, .dk kvs, [d] => (match dKey kd with | some k => kvs.length ≤ 1000000 ∧ e.nx (pt ρ4 j (.dk (putD kvs k d))) | none => False)
    | _, _, _ => False)
  | _ => False
theorem sok_dput {pr : Nat → Bool} {tv : TE} {av : AE} (h : TEok K tv av) (ho : TEok K td ad) (hi : TEok K ty ay) : TSok K pr (sDPut td ty tv) (aDPut av ad ay) := by
  intro F σ ρ H D e hp r ha k
  refine h F σ ρ H _ _ r ha fun r1 ρ1 v H1 h1 o => ?_
  obtain ⟨r', k1, i1⟩ := o.inF
  obtain ⟨ds, ρ2, h2, r2, k2, rd⟩ := sto_ok r' (.cons i1 .nil) h1
  refine ho F σ ρ2 H1 _ _ r2 h2 fun r3 ρ3 x H3 h3 o3 => ?_
  obtain ⟨r3', k3, i3⟩ := o3.inF
  split at h3
  · rename_i j
    have ej : σ[j]? = some (some x) := i3
    refine hi F σ ρ3 H3 _ _ r3' h3 fun r4 ρ4 y H4 h4 o4 => ?_
    obtain ⟨r4', k4, i4⟩ := o4.inF
    split at h4
    · rename_i kd kvs d hg
      split at h4
      · rename_i kk ek
        obtain ⟨t, ks, rfl, ht, e1, e2⟩ := dk_at r4' ej hg
        unfold RepDs at rd
        have rd4 := (RepD.same rd.1 (k3.trans k4).vis)
        obtain ⟨p1, p2⟩ := put_rep kk rd4 e1 e2
        have hw := r4'.write (i := j) (l := t) (o := .dK (putK ks kk v)) (s := .dk (putD kvs kk d)) (by rw [hg]; rfl) ej rfl ⟨t, _, rfl, upd_same, p1, p2⟩
        refine ⟨t, _, rfl, ?_, k.nx _ _ _ h4.2 hw.1⟩
        rw [kV_of i4 ek]
        exact DPut.k ht (smallS (by rw [keys_len e1]; exact h4.1))
      · exact h4.elim
    · exact h4.elim
  · exact h3.elim
end
end L2
set_option Elab.async false
set_option linter.all false
set_option maxRecDepth 100000
namespace L2
open PySem PySem.Spec PyProof.Rows
section
variable {X : Cx} {pins : List (Addr × Obj)} {σ : St} {H : Hp} {s : Shared} {h' : Heap}
end
section
variable {K : PySem.W.Frag} {ts : TA} {as : AA}
end
end L2
set_option Elab.async false
set_option linter.all false
set_option maxRecDepth 100000
namespace L2
open PySem PySem.Spec PyProof.Rows
section
variable {prog : Program} {w : World} {A : Around} {E : Value → Shared → Prop} {s : Shared}
theorem collect_rng {Q : List Value → Shared → Prop} {r : Addr} {a b c : Int} {t u v : Tok} {n : Nat} (hh : A.handled = none) (hr : IsRange s.heap r a b c t u v) (hs : Builtin.Range.small a b c = true) (hn : Builtin.Range.rangeSize a b c = n) (hl : n ≤ 2 ^ 24)
    (hQ : ∀ h' tk acc, (∀ b o, s.heap.get? b = some o → h'.get? b = some o) → ItemsOf (fun i v => ∃ t, v = .int (a + i * c) t) acc n → Q acc.toList { s with heap := h', toks := tk }) : wpAny (model prog w) A (collect (.ref r)) Q E s := by
  unfold collect
  refine wpAny_bind (wpAny_runValue (codeAny_builtin F.entry_proto_collect ?_))
  rw [Around.under_plainId F.plain_proto_collect _]
  show wpAny _ A.in1 (newList [] >>= fun l => again (.builtin "list.__iadd__" ⟨[l, .ref r], []⟩)) _ _ s
  refine wpAny_bind (wpAny_newObj_type ?_)
  refine wpAny_pure ⟨plainId_quiet F.plain_list_iadd _, codeAny_builtin F.entry_list_iadd ?_⟩
  rw [Around.under_plainId F.plain_list_iadd _]
  show wpAny _ A.in1 (Builtin.List.listExtendWith (.ref s.heap.objs.size) (.ref r) (.ref s.heap.objs.size)) _ _ _
  have hS0 : (s.heap.push { cls := .type "list", data := .seq ([] : List Value).toArray }).get? s.heap.objs.size = some { cls := .type "list", data := .seq #[] 0 } := Heap.get?_push_size _ rfl
  have hr0 := Heap.get?_push_of_some { cls := .type "list", data := .seq ([] : List Value).toArray } hr
  have fin : ∀ h' tk acc c', (∀ b o, b ≠ s.heap.objs.size → (s.heap.push { cls := .type "list", data := .seq ([] : List Value).toArray }).get? b = some o → h'.get? b = some o) → h'.get? s.heap.objs.size = some { cls := .type "list", dict := none, data := .seq acc c', slots := #[] } → ItemsOf (fun i v => ∃ t, v = .int (a + i * c) t) acc n → wpAny (model prog w) A (match Value.ref s.heap.objs.size with
      | Value.ref a => do
        match (← load a).data with
          | Data.seq xs _ => pure xs.toList
          | _ => unsupported "internal:collect"
      | _ => unsupported "internal:collect") Q E { s with heap := h', toks := tk } := fun h' tk acc c' hk hS hacc => by
    show wpAny _ A (load s.heap.objs.size >>= _) _ _ _
    refine wpAny_bind (wpAny_load hS (wpAny_pure (hQ h' tk acc (fun b o e => ?_) hacc)))
    exact hk b o (Nat.ne_of_lt (Heap.lt_size e)) (Heap.get?_push_of_some _ e)
  refine wpAny_mono (wpAny_extend_range (A := A) (R := fun r s' => ∃ h' tk acc c', r = .ok (.ret (.ref s.heap.objs.size)) ∧ s' = { s with heap := h', toks := tk } ∧ (∀ b o, b ≠ s.heap.objs.size → (s.heap.push { cls := .type "list", data := .seq ([] : List Value).toArray }).get? b = some o → h'.get? b = some o) ∧ h'.get? s.heap.objs.size = some { cls := .type "list", dict := none, data := .seq acc c', slots := #[] } ∧ ItemsOf (fun i v => ∃ t, v = .int (a + i * c) t) acc n)
    (s := { s with heap := s.heap.push { cls := .type "list", data := .seq ([] : List Value).toArray } }) hh hr0 hs hn hl s.heap.objs.size (.ref s.heap.objs.size) _ hS0 fun h' tk acc c' hk hS hacc => ⟨h', tk, acc, c', rfl, rfl, hk, hS, hacc⟩) (fun f s' h => ?_) (fun e s' h => ?_)
  · cases f with
    | done f =>
      obtain ⟨h', tk, acc, c', e, rfl, hk, hS, hacc⟩ := h
      cases e
      exact fin h' tk acc c' hk hS hacc
    | again c' => exact ⟨h.1, codeAny_mono h.2 fun r s'' hr => by obtain ⟨h', tk, acc, c', rfl, rfl, hk, hS, hacc⟩ := hr; exact fin h' tk acc c' hk hS hacc⟩
  · obtain ⟨h', tk, acc, c', e, _⟩ := h
    cases e
theorem meets_tuple_rng {r : Addr} {a b c : Int} {t u v : Tok} {n : Nat} (hs : Builtin.Range.small a b c = true) (hn : Builtin.Range.rangeSize a b c = n) (hl : n ≤ 2 ^ 24) :
    Meets (Builtin.«tuple.__new__» ⟨[.type "tuple", .ref r], []⟩) (fun A R s => A.handled = none ∧ IsRange s.heap r a b c t u v ∧ ∀ (h' : Heap) (tk : Nat) (acc : Array Value), (∀ b o, s.heap.get? b = some o → h'.get? b = some o) → ItemsOf (fun i v => ∃ t, v = .int (a + i * c) t) acc n →
        R (.ok (.ret (.ref h'.objs.size))) { s with heap := h'.push { cls := .type "tuple", data := .seq acc }, toks := tk }) :=
  .of_wp fun prog w A R s h => by
    obtain ⟨hh, hr, h⟩ := h
    have hsub := sub_tuple_self
    have hinit := init_tuple_lookup
    have hmh := madeHere_tuple
    have hT : s.TypeIs (.ref r) "range" := ⟨_, hr, rfl⟩
    have hh1 : A.in1.handled = none := hh
    wp_walk using wpAny_typeOf hT, collect_rng hh1 hr hs hn hl
    intro h' tk acc hk hacc
    show wpAny _ _ (Builtin.Tuple.tupleExact acc.toList.toArray >>= fun v => ret v) _ _ _
    unfold Builtin.Tuple.tupleExact
    refine wpAny_bind (wpAny_newObj_type ?_ (show acc.toList.toArray.size ≤ sizeLine by simp only [Array.toArray_toList]; rw [hacc.1]; exact hl))
    refine wpAny_pure ⟨_, rfl, ?_⟩
    have e : acc.toList.toArray = acc := by simp
    rw [e]
    exact h h' tk acc hk hacc
theorem call_tuple_rng {Q : Value → Shared → Prop} {r : Addr} {a b c : Int} {t u v : Tok} {n : Nat} (hh : A.handled = none) (hr : IsRange s.heap r a b c t u v) (hs : Builtin.Range.small a b c = true) (hn : Builtin.Range.rangeSize a b c = n) (hl : n ≤ 2 ^ 24)
    (h : ∀ (h' : Heap) (tk : Nat) (acc : Array Value), (∀ b o, s.heap.get? b = some o → h'.get? b = some o) → ItemsOf (fun i v => ∃ t, v = .int (a + i * c) t) acc n → Q (.ref h'.objs.size) { s with heap := h'.push { cls := .type "tuple", data := .seq acc }, toks := tk }) : wpAny (model prog w) A (call (.type "tuple") [.ref r]) Q E s := by
  refine callType_new F.called_tuple (by decide) (F.typeCall_tuple_1 _) (F.newCall_tuple_1 _) (fun obj => F.args_object_init_2 obj _) F.entry_tuple_new (meets_tuple_rng hs hn hl) ⟨hh, hr, fun h' tk acc hk hacc => ⟨⟨_, Heap.get?_push_size _ rfl, rfl⟩, h h' tk acc hk hacc⟩⟩
end
noncomputable def rngV (lo : Int) (n : Nat) : List V := (List.range n).map fun (i : Nat) => V.int (lo + (i : Nat))
theorem vals_rng {lo : Int} {n : Nat} {acc : Array Value} (h : ItemsOf (fun i v => ∃ t, v = .int (lo + i * 1) t) acc n) : Vals (rngV lo n) acc.toList := by
  obtain ⟨h1, h2⟩ := h
  have gen : ∀ (m : Nat) (us : List Value), us.length = m → (∀ (i : Nat) (v : Value), us[i]? = some v → ∃ t, v = Value.int (lo + (i : Int) * 1) t) → Vals (rngV lo m) us := by
    intro m
    induction m with
    | zero => intro us e _; cases us with | nil => exact .nil | cons _ _ => cases e
    | succ m ih =>
      intro us e hx
      have e1 : us = us.take m ++ [us[m]] := by
        rw [List.take_append_getElem]
        exact (List.take_of_length_le (by first | assumption | decide | (clear h1; omega))).symm
      unfold rngV
      rw [e1, List.range_succ, List.map_append]
      refine Vals.append (ih _ (by rw [List.length_take]; (clear e1 h1; omega)) fun i v hv => ?_) ?_
      · rw [List.getElem?_take] at hv
        split at hv
        · exact hx i v hv
        · cases hv
      · obtain ⟨t, ht⟩ := hx m us[m] (List.getElem?_eq_getElem (by first | assumption | decide | (clear e1 h1; omega)))
        rw [ht]
        exact .cons ⟨t, by rw [Int.mul_one]⟩ .nil
  refine gen n acc.toList (by simpa using h1) fun i v hv => h2 i v (by simpa using hv)
section
variable {X : Cx}
theorem call_range2O : CallR X (.type "range") (fun xs H Q => ∃ i j : Int, xs = [.int i, .int j] ∧ ∀ p, H p = none → Q (.ref p) (upd H p (.rng i j))) := by
  intro pins s σ H xs us Q I r h
  obtain ⟨i, j, rfl, q⟩ := h
  obtain ⟨u, v, rfl, ⟨t, rfl⟩, ⟨t', rfl⟩⟩ := vals2 r
  refine call_range_2 ?_
  exact ⟨.ref s.heap.objs.size, upd H s.heap.objs.size (.rng i j), I.laid (fun b u e => Heap.get?_push_of_some _ e) (Nat.le_refl _) ⟨_, _, _, Heap.get?_push_size _ rfl⟩, rfl, q _ (I.hok.fresh (Nat.le_refl _))⟩
noncomputable def rRng (tup : Bool) : List V → Hp → VK → Prop := fun xs H Q => ∃ (p : Addr) (lo hi : Int), xs = [.ref p] ∧ H p = some (.rng lo hi) ∧ (-400000 ≤ lo ∧ lo ≤ 400000 ∧ -400000 ≤ hi ∧ hi ≤ 400000) ∧ ∀ l, H l = none → Q (.ref l) (upd H l (if tup then .tup (rngV lo (hi - lo).toNat) else .lst (rngV lo (hi - lo).toNat)))
theorem rng_size {lo hi : Int} : Builtin.Range.rangeSize lo hi 1 = ((hi - lo).toNat : Nat) := by rw [rangeSize_one]; split <;> omega
theorem rngV_len (lo : Int) (n : Nat) : (rngV lo n).length = n := by unfold rngV; simp
theorem call_tupleR2 (hc : X.calm = true) : CallR X (.type "tuple") (rRng true) := by
  intro pins s σ H xs us Q I r h
  obtain ⟨p, lo, hi, rfl, hp, ⟨b1, b2, b3, b4⟩, q⟩ := h
  obtain ⟨u, rfl, ru⟩ := vals1 r
  cases ru
  obtain ⟨t, u, v, e⟩ := (show ObjOk X.prog X.w H s.heap p (.rng lo hi) from I.hok p _ hp)
  refine call_tuple_rng (I.ok.hd hc) (show IsRange s.heap p lo hi 1 t u v from e) (small_one (by first | assumption | decide | (clear e b4 b3 hp hc; omega)) (by first | assumption | decide | (clear e b4 b3 hp hc; omega)) (by first | assumption | decide | (clear e b2 b1 hp hc; omega)) (by first | assumption | decide | (clear e b2 b1 hp hc; omega))) rng_size (show (hi - lo).toNat ≤ 2 ^ 24 by first | assumption | decide | (clear e hp hc; omega)) fun h' tk acc hk hi' => ?_
  have I1 : Inv X pins σ H { s with heap := h', toks := tk } := I.kept (t' := tk) hk
  have hfr : H h'.objs.size = none := I1.hok.fresh (Nat.le_refl _)
  refine ⟨.ref h'.objs.size, upd H h'.objs.size (.tup (rngV lo (hi - lo).toNat)), I1.laid (t' := tk) (fun b o e => Heap.get?_push_of_some _ e) (Nat.le_refl _) ?_, rfl, q _ hfr⟩
  have e : acc = acc.toList.toArray := by simp
  refine ⟨by rw [rngV_len]; exact small (by first | assumption | decide | (clear e hfr hp hc; omega)), acc.toList, vals_rng hi', ?_⟩
  rw [e]
  exact IsTup.new _ _
end
section
variable {K : PySem.W.Frag} {ts : TA} {as : AA}
theorem rep_rng {H : Hp} (lo : Int) (n : Nat) : RepDs K H (rngV lo n) (rngD lo n) := by
  unfold rngV rngD
  induction n with
  | zero => exact .nil
  | succ n ih =>
    rw [List.range_succ, List.map_append, List.map_append]
    exact ih.append (.one (by unfold RepD; rfl))
noncomputable def aRngO (tup : Bool) (as : AA) : AE := fun ρ q => as ρ fun rs ρ1 => match rs with
  | [.d (.int i), .d (.int j)] => (-400000 ≤ i ∧ i ≤ 400000 ∧ -400000 ≤ j ∧ j ≤ 400000) ∧ q (if tup then .d (.tup (rngD i (j - i).toNat)) else .f (rngD i (j - i).toNat)) ρ1
  | _ => False
theorem tok_rngO (tup : Bool) (ha : TAok K ts as) : TEok K (tCB (rRng tup) (tCons (tCB (fun xs H Q => ∃ i j : Int, xs = [.int i, .int j] ∧ ∀ p, H p = none → Q (.ref p) (upd H p (.rng i j))) ts) tNil)) (aRngO tup as) := by
  intro F σ ρ H q Q r h k
  refine ha F σ ρ H _ _ r h fun rs ρ1 vs H1 h1 r1 i1 k1 => ?_
  split at h1
  · rename_i i j
    obtain ⟨x, y, rfl, ix, iy⟩ := i1.two
    refine ⟨i, j, by rw [ix.int, iy.int], fun p hp => ⟨p, i, j, rfl, upd_same, h1.1, fun l hl => ?_⟩⟩
    have rp := r1.fresh (o := .rng i j) hp
    have kk := (k.after k1).after (Kp.fresh (o := .rng i j) hp)
    cases tup with
    | false => exact kk.new rp h1.2 (rep_rng _ _) hl
    | true => exact kk.newT rp h1.2 (rep_rng _ _) hl
  · exact h1.elim
noncomputable def aNever : AS := fun _ _ => False
theorem sok_never {pr : Nat → Bool} : TSok K pr tNever aNever := fun F σ ρ H D e hp r h k => h.elim
end
end L2
set_option Elab.async false
set_option linter.all false
set_option maxRecDepth 100000
namespace L2
open PySem PySem.Spec PyProof.Rows
section
variable {X : Cx} (K : PySem.W.Frag)
end
section
variable {K : PySem.W.Frag} {ta te : TE} {a ae : AE} {ts : TA} {as : AA}
noncomputable def aBits (a : AE) : AE := fun ρ q => a ρ fun r ρ1 => match r with
  | .d (.int i) => q (.d (.int (Builtin.Int.intBits i : Nat))) ρ1
  | _ => False
theorem tok_bits (ha : TEok K ta a) : TEok K (tBM0 K "int" (fun x xs H Q => ∃ i, x = .int i ∧ xs = [] ∧ Q (.int (Builtin.Int.intBits i : Nat)) H) ta) (aBits a) := by
  intro F σ ρ H q Q r h k
  refine ha F σ ρ H _ _ r h fun r1 ρ1 x H1 h1 o1 => ?_
  obtain ⟨r1', k1, i1⟩ := o1.inF
  split at h1
  · rename_i i
    have ex : x = .int i := i1.int
    subst ex
    exact ⟨by first | rfl | exact .inl rfl | trivial | simp [tyV], i, rfl, rfl, (k.after k1).int r1' h1⟩
  · exact h1.elim
end
end L2
set_option Elab.async false
set_option linter.all false
set_option maxRecDepth 100000
namespace L2
open PySem PySem.Spec PyProof.Rows
theorem size_down (a b : Int) : Builtin.Range.rangeSize a b (-1) = ((a - b).toNat : Nat) := by
  unfold Builtin.Range.rangeSize
  rw [if_neg (by decide)]
  simp only [Int.neg_neg, Int.ediv_one]
  split <;> omega
theorem small_down {a b : Int} (ha : -(2 ^ 61) ≤ a) (ha' : a < 2 ^ 61) (hb : -(2 ^ 61) ≤ b) (hb' : b < 2 ^ 61) : Builtin.Range.small a b (-1) = true := by
  unfold Builtin.Range.small
  rw [size_down]
  simp only [Builtin.Range.rangeFitsLong, Bool.and_eq_true, Bool.or_eq_true, decide_eq_true_eq, beq_iff_eq, show ¬ ((-1 : Int) > 0) by decide, if_false]
  omega
section
variable {X : Cx} {tg : Expr}
theorem vals3 {a b c : V} {us : List Value} (r : Vals [a, b, c] us) : ∃ u v w, us = [u, v, w] ∧ RelV a u ∧ RelV b v ∧ RelV c w := by
  cases r with
  | cons r1 r => cases r with
    | cons r2 r => cases r with
      | cons r3 r => cases r; exact ⟨_, _, _, rfl, r1, r2, r3⟩
noncomputable def dwnV (lo : Int) (n : Nat) : List V := (List.range n).map fun (i : Nat) => V.int (lo - (i : Nat))
theorem dwnV_len (lo : Int) (n : Nat) : (dwnV lo n).length = n := by unfold dwnV; simp
theorem vals_dwn {lo : Int} {n : Nat} {acc : Array Value} (h : ItemsOf (fun i v => ∃ t, v = .int (lo + i * (-1)) t) acc n) : Vals (dwnV lo n) acc.toList := by
  obtain ⟨h1, h2⟩ := h
  have gen : ∀ (m : Nat) (us : List Value), us.length = m → (∀ (i : Nat) (v : Value), us[i]? = some v → ∃ t, v = Value.int (lo + (i : Int) * (-1)) t) → Vals (dwnV lo m) us := by
    intro m
    induction m with
    | zero => intro us e _; cases us with | nil => exact .nil | cons _ _ => cases e
    | succ m ih =>
      intro us e hx
      have e1 : us = us.take m ++ [us[m]] := by
        rw [List.take_append_getElem]
        exact (List.take_of_length_le (by first | assumption | decide | (clear h1; omega))).symm
      unfold dwnV
      rw [e1, List.range_succ, List.map_append]
      refine Vals.append (ih _ (by rw [List.length_take]; (clear e1 h1; omega)) fun i v hv => ?_) ?_
      · rw [List.getElem?_take] at hv
        split at hv
        · exact hx i v hv
        · cases hv
      · obtain ⟨t, ht⟩ := hx m us[m] (List.getElem?_eq_getElem (by first | assumption | decide | (clear e1 h1; omega)))
        rw [ht]
        exact .cons ⟨t, by rw [show lo + (m : Int) * (-1) = lo - m by (clear ht e1 e h1; omega)]⟩ .nil
  refine gen n acc.toList (by simpa using h1) fun i v hv => h2 i v (by simpa using hv)
noncomputable def tLDwn (ta : TA) : TE := fun σ H Q => ta σ H fun vs H1 => ∃ i j : Int, vs = [.int i, .int j, .int (-1)] ∧ (-400000 ≤ i ∧ i ≤ 400000 ∧ -400000 ≤ j ∧ j ≤ 400000) ∧ ∀ l, H1 l = none → Q (.ref l) (upd H1 l (.lst (dwnV i (i - j).toNat)))
theorem pe_ldwn {a b c : Expr} {ta : TA} {p p2 pos pos2 : Pos} (hc : X.calm = true) (hgl : Gl X "list") (hml : X.mg "list" = none) (hg : Gl X "range") (hm : X.mg "range" = none) (ha : PA X [a, b, c] ta)
    (ho : starEach [.Call (.Name "range" p2) [a, b, c] [] pos2] X.env = [(false, eval (.Call (.Name "range" p2) [a, b, c] [] pos2) X.env)] := by rfl)
    (hs : starEach [a, b, c] X.env = (false, eval a X.env) :: starEach [b, c] X.env := by rfl) (hs2 : (backTo pos2 (starEach [b, c] X.env)).any (·.1) = false := by rfl) :
    PE X (.Call (.Name "list" p) [.Call (.Name "range" p2) [a, b, c] [] pos2] [] pos) (tLDwn ta) := by
  intro pins s σ H Q I h
  refine wpAny_Call_Name_kw (ld_blt I hgl hml bt_list (PyProof.Rows.callWith_type1 ?_ ho rfl))
  rw [ho]
  show wpAny _ _ (spliced ((false, _) :: backTo pos [])) _ _ s
  refine Calls.spliced_cons ?_
  refine wpAny_Call_Name_kw (ld_blt I hg hm boot_range (PyProof.Rows.callWith_type1 (thn (ha pos2 pins s σ H _ I h) fun us s1 hZq => ?_) hs hs2))
  obtain ⟨vs, H1, I1, r1, q1⟩ := hZq
  obtain ⟨i, j, rfl, ⟨b1, b2, b3, b4⟩, q⟩ := q1
  obtain ⟨u, v, w, rfl, ⟨t, rfl⟩, ⟨t', rfl⟩, ⟨t'', rfl⟩⟩ := vals3 r1
  refine call_range_3 (by decide) ?_ (Or.inl (PyProof.noPylong_small (by decide)))
  refine Calls.spliced_nil ?_
  have I2 : Inv X pins σ H1 { s1 with heap := s1.heap.push { cls := .type "range", data := .fields #[.int i t, .int j t', .int (-1) t''] }, toks := s1.toks } := I1.kept fun b o e => Heap.get?_push_of_some _ e
  refine call_list_range (I2.ok.hd hc) (IsRange.new ..) (small_down (by first | assumption | decide | (clear b4 b3 hs2 hs ho hm hml hc; omega)) (by first | assumption | decide | (clear b4 b3 hs2 hs ho hm hml hc; omega)) (by first | assumption | decide | (clear b2 b1 hs2 hs ho hm hml hc; omega)) (by first | assumption | decide | (clear b2 b1 hs2 hs ho hm hml hc; omega))) (size_down i j) (show (i - j).toNat ≤ 2 ^ 24 by first | assumption | decide | (clear hs2 hs ho hm hml hc; omega)) fun h' tk acc c hk hl hi' => ?_
  refine ⟨.ref _, upd H1 _ (.lst (dwnV i (i - j).toNat)), I2.laid (t' := tk) (fun b o e => hk b o e) (Nat.le_refl _) ?_, rfl, q _ (I2.hok.fresh (Nat.le_refl _))⟩
  refine ⟨?_, acc.toList, c, vals_dwn hi', by simpa using hl⟩
  rw [dwnV_len]
  exact small (by first | assumption | decide | (clear hl hs2 hs ho hm hml hc; omega))
end
section
variable {K : PySem.W.Frag} {tk tv : TE} {ak av : AE} {ts : TA} {as : AA}
theorem InFs.three {F : Fr} {σ : St} {ρ : En} {H : Hp} {vs : List V} {r1 r2 r3 : R} (h : InFs K F σ ρ H vs [r1, r2, r3]) : ∃ x y z, vs = [x, y, z] ∧ InF K F σ ρ H x r1 ∧ InF K F σ ρ H y r2 ∧ InF K F σ ρ H z r3 := by
  cases h with
  | cons a h => cases h with
    | cons b h => cases h with
      | cons c h => cases h; exact ⟨_, _, _, rfl, a, b, c⟩
noncomputable def dwnD (lo : Int) (n : Nat) : List D := (List.range n).map fun (i : Nat) => D.int (lo - (i : Nat))
theorem rep_dwn {H : Hp} (lo : Int) (n : Nat) : RepDs K H (dwnV lo n) (dwnD lo n) := by
  unfold dwnV dwnD
  induction n with
  | zero => exact .nil
  | succ n ih =>
    rw [List.range_succ, List.map_append, List.map_append]
    exact ih.append (.one (by unfold RepD; rfl))
noncomputable def aLDwn (as : AA) : AE := fun ρ q => as ρ fun rs ρ1 => match rs with
  | [.d (.int i), .d (.int j), .d (.int (-1))] => (-400000 ≤ i ∧ i ≤ 400000 ∧ -400000 ≤ j ∧ j ≤ 400000) ∧ q (.f (dwnD i (i - j).toNat)) ρ1
  | _ => False
theorem tok_ldwn (ha : TAok K ts as) : TEok K (tLDwn ts) (aLDwn as) := by
  intro F σ ρ H q Q r h k
  refine ha F σ ρ H _ _ r h fun rs ρ1 vs H1 h1 r1 i1 k1 => ?_
  split at h1
  · obtain ⟨x, y, z, rfl, ix, iy, iz⟩ := i1.three
    exact ⟨_, _, by rw [ix.int, iy.int, iz.int], h1.1, fun l hl => (k.after k1).new r1 h1.2 (rep_dwn _ _) hl⟩
  · exact h1.elim
end
end L2
set_option Elab.async false
set_option linter.all false
set_option maxRecDepth 100000
namespace L2
open PySem PySem.Spec PyProof.Rows
section
variable {K : PySem.W.Frag} {ts : TA} {as : AA}
end
end L2
set_option Elab.async false
set_option linter.all false
set_option maxRecDepth 100000
namespace L2
open PySem PySem.Spec PyProof.Rows
section
variable {prog : Program} {w : World} {A : Around} {it : Addr} {own wr : List Addr} {len : Nat} {Pv : Nat → Value → Prop} {Sx : Nat → Heap → Prop} {Rz : Result → Shared → Prop}
end
section
variable {X : Cx} (K : PySem.W.Frag)
end
section
variable {K : PySem.W.Frag} {te : TE} {ae : AE} {ts : TA} {as : AA}
end
end L2
set_option Elab.async false
set_option linter.all false
set_option maxRecDepth 100000
namespace L2
open PySem PySem.Spec PyProof.Rows
open Builtin.SmallTypes (nextOf)
section
variable {prog : Program} {w : World}
variable {A : Around} {E : Value → Shared → Prop} {s : Shared} {z TI TO i1 i2 : Addr} {d1 d2 : List Addr} {S1 S2 : Nat → Heap → Prop} {g1 g2 : Nat → Option Value}
end
end L2
set_option Elab.async false
set_option linter.all false
set_option maxRecDepth 100000
namespace L2
open PySem PySem.Spec PyProof.Rows
section
variable {prog : Program} {w : World} {A : Around} {E : Value → Shared → Prop} {s : Shared}
end
section
variable {K : PySem.W.Frag} {ts : TA} {as : AA}
end
end L2
set_option Elab.async false
set_option linter.all false
set_option maxRecDepth 100000
namespace L2
open PySem PySem.Spec PyProof.Rows
section
variable {X : Cx} (K : PySem.W.Frag)
end
section
variable {K : PySem.W.Frag}
end
end L2
set_option Elab.async false
set_option linter.all false
set_option maxRecDepth 100000
namespace L2
open PySem PySem.Spec PyProof.Rows
section
variable {prog : Program} {w : World} {A : Around} {E : Value → Shared → Prop} {s : Shared} {r d : Addr} {n : Nat} {P : Nat → Value → Prop} {OK : Heap → Prop}
theorem collect_src {Q : List Value → Shared → Prop} (S : PySem.W.KdlSrc prog w "dict_values" r d n P OK) (hh : A.handled = none) (hok : OK s.heap) (hn : n ≤ sizeLine)
    (hQ : ∀ h' tk acc, (∀ b o, s.heap.get? b = some o → h'.get? b = some o) → ItemsOf P acc n → Q acc.toList { s with heap := h', toks := tk }) : wpAny (model prog w) A (collect (.ref r)) Q E s := by
  unfold collect
  refine wpAny_bind (wpAny_runValue (codeAny_builtin F.entry_proto_collect ?_))
  rw [Around.under_plainId F.plain_proto_collect _]
  show wpAny _ A.in1 (newList [] >>= fun l => again (.builtin "list.__iadd__" ⟨[l, .ref r], []⟩)) _ _ s
  refine wpAny_bind (wpAny_newObj_type ?_)
  refine wpAny_pure ⟨plainId_quiet F.plain_list_iadd _, codeAny_builtin F.entry_list_iadd ?_⟩
  rw [Around.under_plainId F.plain_list_iadd _]
  show wpAny _ A.in1 (Builtin.List.listExtendWith (.ref s.heap.objs.size) (.ref r) (.ref s.heap.objs.size)) _ _ _
  have hS0 : (s.heap.push { cls := .type "list", data := .seq ([] : List Value).toArray }).get? s.heap.objs.size = some { cls := .type "list", data := .seq #[] 0 } := Heap.get?_push_size _ rfl
  have hok0 : OK (s.heap.push { cls := .type "list", data := .seq ([] : List Value).toArray }) := S.keep _ _ hok fun b _ o e => Heap.get?_push_of_some _ e
  have hlt := S.there _ hok
  have fin : ∀ h' tk acc c', (∀ b o, b ≠ s.heap.objs.size → (s.heap.push { cls := .type "list", data := .seq ([] : List Value).toArray }).get? b = some o → h'.get? b = some o) → h'.get? s.heap.objs.size = some { cls := .type "list", dict := none, data := .seq acc c', slots := #[] } → ItemsOf P acc n → wpAny (model prog w) A (match Value.ref s.heap.objs.size with
      | Value.ref a => do
        match (← load a).data with
          | Data.seq xs _ => pure xs.toList
          | _ => unsupported "internal:collect"
      | _ => unsupported "internal:collect") Q E { s with heap := h', toks := tk } := fun h' tk acc c' hk hS hacc => by
    show wpAny _ A (load s.heap.objs.size >>= _) _ _ _
    refine wpAny_bind (wpAny_load hS (wpAny_pure (hQ h' tk acc (fun b o e => ?_) hacc)))
    exact hk b o (Nat.ne_of_lt (Heap.lt_size e)) (Heap.get?_push_of_some _ e)
  refine wpAny_mono (PySem.W.kdl_extend (A := A) (R := fun r s' => ∃ h' tk acc c', r = .ok (.ret (.ref s.heap.objs.size)) ∧ s' = { s with heap := h', toks := tk } ∧ (∀ b o, b ≠ s.heap.objs.size → (s.heap.push { cls := .type "list", data := .seq ([] : List Value).toArray }).get? b = some o → h'.get? b = some o) ∧ h'.get? s.heap.objs.size = some { cls := .type "list", dict := none, data := .seq acc c', slots := #[] } ∧ ItemsOf P acc n)
    (s := { s with heap := s.heap.push { cls := .type "list", data := .seq ([] : List Value).toArray } }) S hh hok0 s.heap.objs.size (Nat.ne_of_gt hlt.1) (Nat.ne_of_gt hlt.2) (.ref s.heap.objs.size) _ hS0 (fun h' tk acc c' hk hS hacc => ⟨h', tk, acc, c', rfl, rfl, hk, hS, hacc⟩) hn) (fun f s' h => ?_) (fun e s' h => ?_)
  · cases f with
    | done f =>
      obtain ⟨h', tk, acc, c', e, rfl, hk, hS, hacc⟩ := h
      cases e
      exact fin h' tk acc c' hk hS hacc
    | again c' => exact ⟨h.1, codeAny_mono h.2 fun r s'' hr => by obtain ⟨h', tk, acc, c', rfl, rfl, hk, hS, hacc⟩ := hr; exact fin h' tk acc c' hk hS hacc⟩
  · obtain ⟨h', tk, acc, c', e, _⟩ := h
    cases e
theorem meets_tuple_src (S : PySem.W.KdlSrc prog w "dict_values" r d n P OK) (hn : n ≤ sizeLine) :
    MeetsIn prog w (Builtin.«tuple.__new__» ⟨[.type "tuple", .ref r], []⟩) (fun A R s => A.handled = none ∧ OK s.heap ∧ ∀ (h' : Heap) (tk : Nat) (acc : Array Value), (∀ b o, s.heap.get? b = some o → h'.get? b = some o) → ItemsOf P acc n →
        R (.ok (.ret (.ref h'.objs.size))) { s with heap := h'.push { cls := .type "tuple", data := .seq acc }, toks := tk }) :=
  .of_wp fun A R s h => by
    obtain ⟨hh, hok, h⟩ := h
    have hsub := sub_tuple_self
    have hinit := init_tuple_lookup
    have hmh := madeHere_tuple
    have hT : s.TypeIs (.ref r) "dict_values" := S.type s hok
    have hh1 : A.in1.handled = none := hh
    wp_walk using wpAny_typeOf hT, collect_src S hh1 hok hn
    intro h' tk acc hk hacc
    show wpAny _ _ (Builtin.Tuple.tupleExact acc.toList.toArray >>= fun v => ret v) _ _ _
    unfold Builtin.Tuple.tupleExact
    refine wpAny_bind (wpAny_newObj_type ?_ (show acc.toList.toArray.size ≤ sizeLine by simp only [Array.toArray_toList]; rw [hacc.1]; exact hn))
    refine wpAny_pure ⟨_, rfl, ?_⟩
    have e : acc.toList.toArray = acc := by simp
    rw [e]
    exact h h' tk acc hk hacc
theorem call_tuple_src {Q : Value → Shared → Prop} (S : PySem.W.KdlSrc prog w "dict_values" r d n P OK) (hn : n ≤ sizeLine) (hh : A.handled = none) (hok : OK s.heap)
    (h : ∀ (h' : Heap) (tk : Nat) (acc : Array Value), (∀ b o, s.heap.get? b = some o → h'.get? b = some o) → ItemsOf P acc n → Q (.ref h'.objs.size) { s with heap := h'.push { cls := .type "tuple", data := .seq acc }, toks := tk }) : wpAny (model prog w) A (call (.type "tuple") [.ref r]) Q E s := by
  refine callType_codes (Q₁ := fun obj s₁ => s₁.TypeIs obj "tuple" ∧ Q obj s₁) F.called_tuple (F.typeCall_tuple_1 _) F.entry_object_init
    (codeAny_call_builtin F.called_tuple.plain F.entry_tuple_new (wpAny_of_eq (F.newCall_tuple_1 _) (meets_tuple_src S hn A.in1 _ s ⟨hh, hok, fun h' tk acc hk hacc => ⟨⟨_, Heap.get?_push_size _ rfl, rfl⟩, h h' tk acc hk hacc⟩⟩))) fun obj s₁ hq => ?_
  exact ⟨hq.1, F.args_object_init_2 obj _, object_init_meets F.called_tuple.init.lookup F.called_tuple.made (by decide) prog w A.in1 _ s₁ ⟨hq.1, rfl, hq.2⟩⟩
end
theorem kv_vals {P : Program} {w : World} : ∀ {kvs : List (Key × V)} {vs : List (Key × Value)}, KV kvs vs → Vals (kvs.map Prod.snd) (vs.map Prod.snd)
  | _, _, .nil => .nil
  | _, _, .cons h t => .cons h.2 (kv_vals (P := P) (w := w) t)
section
variable {X : Cx} {o : Expr} {td : TE} {p apos cpos pos : Pos}
noncomputable def tTupVals (td : TE) : TE := fun σ H Q => td σ H fun x H1 => ∃ a kvs, x = .ref a ∧ H1 a = some (.dK kvs) ∧ ∀ l, H1 l = none → Q (.ref l) (upd H1 l (.tup (kvs.map Prod.snd)))
theorem pe_tupVals (hc : X.calm = true) (hg : Gl X "tuple") (hm : X.mg "tuple" = none) (ho : PE X o td) (hbase : attributeBase o "values" X.env (eval o X.env) = eval o X.env := by rfl) (hline : (apos.endLine == cpos.line) = true := by rfl)
    (hs : starEach [.Call (.Attribute o "values" apos) [] [] cpos] X.env = [(false, eval (.Call (.Attribute o "values" apos) [] [] cpos) X.env)] := by rfl) :
    PE X (.Call (.Name "tuple" p) [.Call (.Attribute o "values" apos) [] [] cpos] [] pos) (tTupVals td) := by
  intro pins s σ H Q I h
  refine Call_ (ld_blt I hg hm bt_tuple (PyProof.Rows.callWith_type1 ?_ hs rfl))
  rw [hs]
  show wpAny _ _ (spliced ((false, eval (.Call (.Attribute o "values" apos) [] [] cpos) X.env) :: backTo pos [])) _ _ s
  refine Calls.spliced_cons (wpAny_Call_method0_late hbase hline (thn (ho pins s σ H _ I h) fun v s1 hZq => ?_))
  obtain ⟨x, H1, I1, r1, a, kvs, ex, ha, q1⟩ := hZq
  subst ex
  obtain rfl : v = Value.ref a := r1
  obtain ⟨z, hd, vs, rel, dd⟩ := dk_of I1.hok ha
  obtain ⟨t1, t2, _⟩ := isD_at I1 (.inl ⟨kvs, .inl ha⟩)
  refine ⟨"dict", "dict.values", PySem.F.plainAttrs_dict, PySem.F.slot_dict_values, PySem.F.type_dict_values, t1, t2, Calls.callWith_builtin rfl (PySem.evalArgs_none ?_)⟩
  refine call_meetsIn PySem.F.slot_dict_values dd.typeIs PySem.F.entry_dict_values (PySem.F.args_dict_values_1 _) (meets_dict_values (mixKind X.prog X.w) a hd) ⟨⟨vs, dd⟩, ?_⟩
  refine Calls.spliced_nil ?_
  obtain ⟨ep, da⟩ := dd.dictAt
  have I2 : Inv X pins σ H1 { s1 with heap := s1.heap.push { cls := .type "dict_values", data := .fields #[.ref a] } } := I1.kept (t' := s1.toks) fun b o e => Heap.get?_push_of_some _ e
  refine call_tuple_src (PySem.W.kdl_values (knd := mixKind X.prog X.w) (r := s1.heap.objs.size) (d := a) (kvs := vs) (ep := ep)) (by rw [← rel.length]; exact z) (I.ok.hd hc) ⟨⟨_, Heap.get?_push_size _ rfl, rfl, rfl⟩, da.push _⟩ fun h' tk acc hk hacc => ?_
  have I3 := I2.kept (h' := h') (t' := tk) hk
  have hfr : H1 h'.objs.size = none := I3.hok.fresh (Nat.le_refl _)
  refine ⟨.ref h'.objs.size, upd H1 h'.objs.size (.tup (kvs.map Prod.snd)), I3.laid (t' := tk) (fun b o e => Heap.get?_push_of_some _ e) (Nat.le_refl _) ?_, rfl, q1 _ hfr⟩
  have el : acc.toList = vs.map Prod.snd := PySem.W.kdl_vals_eq (kvs := vs) acc.toList (by simpa using hacc.1) fun j v hv => hacc.2 j v (by simpa using hv)
  have e : acc = (vs.map Prod.snd).toArray := by rw [← el]
  refine ⟨by rw [List.length_map]; exact z, vs.map Prod.snd, kv_vals (P := X.prog) (w := X.w) rel, ?_⟩
  rw [e]
  exact IsTup.new _ _
end
section
variable {K : PySem.W.Frag} {td : TE} {ad : AE}
noncomputable def aTupVals (a : AE) : AE := fun ρ q => a ρ fun r ρ1 => match r with
  | .o j => (match gt ρ1 j with
    | .dk kvs => q (.d (.tup (kvs.map Prod.snd))) ρ1
    | _ => False)
  | _ => False
theorem tok_tupVals (ha : TEok K td ad) : TEok K (tTupVals td) (aTupVals ad) := by
  intro F σ ρ H q Q r h k
  refine ha F σ ρ H _ _ r h fun r1 ρ1 x H1 h1 o1 => ?_
  obtain ⟨r1', k1, i1⟩ := o1.inF
  split at h1
  · rename_i j
    have ej : σ[j]? = some (some x) := i1
    split at h1
    · rename_i kvs hg
      obtain ⟨t, ks, rfl, ht, e1, e2⟩ := dk_at r1' ej hg
      exact ⟨t, ks, rfl, ht, fun l hl => (k.after k1).newT r1' h1 e2 hl⟩
    · exact h1.elim
  · exact h1.elim
end
section
variable {X : Cx}
noncomputable def gStar (K : PySem.W.Frag) (i j : Nat) : TG := fun v σ H Q => ∃ l xs y, v = .ref l ∧ SqL K H l (xs ++ [y]) ∧ xs.length ≤ 16000 ∧ ∀ p, H p = none → Q ((σ.set i (some (.ref p))).set j (some y)) (upd H p (.lst xs))
theorem vals_snoc {xs : List V} {y : V} {us : List Value} (h : Vals (xs ++ [y]) us) : ∃ as b, us = as ++ [b] ∧ Vals xs as ∧ RelV y b := by
  induction xs generalizing us with
  | nil => cases h with | cons h t => cases t; exact ⟨[], _, rfl, .nil, h⟩
  | cons x xs ih =>
    cases h with
    | cons h t => obtain ⟨as, b, rfl, h1, h2⟩ := ih t; exact ⟨_ :: as, b, rfl, .cons h h1, h2⟩
theorem pg_star {i j : Nat} {x y : Str} {k : Nat} {p1 p2 p3 pos : Pos} (hc : X.calm = true) (hx : PG X (.Name x p1) (gName i)) (hy : PG X (.Name y p3) (gName j))
    (hn : assignEach [.Starred (.Name x p1) p2, .Name y p3] X.env = [(true, assign (.Name x p1) X.env), (false, assign (.Name y p3) X.env)] := by rfl) : PG X (.Tuple [.Starred (.Name x p1) p2, .Name y p3] k pos) (gStar X.K i j) := by
  intro pins s σ H v u Q I r hw
  obtain ⟨l, xs, z, e1, hq, hl, hw⟩ := hw
  subst e1
  cases r
  obtain ⟨its, rv, pl, hz⟩ := I.list hq
  obtain ⟨as, b, rfl, va, rb⟩ := vals_snoc rv
  have hli := pl.isList
  have hh : X.A.handled = none := I.ok.hd hc
  have hlt : l ≠ s.heap.objs.size := by obtain ⟨o, ho, _⟩ := hli; exact Nat.ne_of_lt (Heap.lt_size ho)
  have la := va.length
  rw [assign_Tuple]
  refine wpAny_bind (wpAny_standAt ?_)
  unfold unpack
  rw [hn]
  refine wpAny_bind (wpAny_holding ?_)
  show wpAny _ _ (unpackItems (.ref l) 2 (some 0)) _ _ _
  unfold unpackItems
  refine wpAny_bind ?_
  unfold notIterableAtAll
  refine wpAny_bind (wpAny_specialOf hli.typeIs PySem.F.slot_list_iter.lookup ?_)
  refine wpAny_pure ?_
  simp only [Bool.false_eq_true, if_false]
  refine wpAny_bind (wpAny_holding (wpAny_pyIter_list hli ?_))
  refine wpAny_bind (wpAny_holding (wpAny_pure ?_))
  simp only [List.length_nil, Nat.lt_irrefl, if_false]
  have hli1 := hli.push { cls := .type "list_iterator", data := .fields #[.ref l, .int 0 0] }
  have hlt1 : l < s.heap.objs.size := by obtain ⟨o, ho, _⟩ := hli; exact Heap.lt_size ho
  have lp : (s.heap.push { cls := .type "list_iterator", data := .fields #[.ref l, .int 0 0] }).objs.size = s.heap.objs.size + 1 := by simp [Heap.push]
  refine wpAny_bind (wpAny_holding (PySem.W.kun_collect (s := { s with heap := s.heap.push { cls := .type "list_iterator", data := .fields #[.ref l, .int 0 0] } }) (T := "list_iterator") (.inr (.inr (.inl rfl))) (Walks.list (A := X.A.in1) hh s.heap.objs.size l hlt (as ++ [b]).toArray) (fun j u st => st.1.typeIs) (k := 0) (Nat.zero_le _) ⟨⟨_, Heap.get?_push_size _ rfl, rfl, rfl⟩, hli1⟩ (by show s.heap.objs.size < _; rw [lp]; exact Nat.lt_succ_self _) (by show l < _; rw [lp]; exact Nat.lt_succ_of_lt hlt1) (fun h₂ tk hk => ?_) (by simp; rw [sizeLine_eq]; (clear lp hlt1 hlt hh hz hn hc; omega))))
  have hr : List.drop 0 (as ++ [b]).toArray.toList = as ++ [b] := by simp
  rw [hr]
  have hrl : (as ++ [b]).length = as.length + 1 := by simp
  show wpAny _ _ (if (as ++ [b]).length < 1 then _ else _) _ _ _
  rw [if_neg (by rw [hrl]; (clear hr lp hlt1 hlt hh hz hn hc; omega))]
  show wpAny _ _ (newList ((as ++ [b]).take ((as ++ [b]).length - 1)) >>= fun d => pure ([] ++ [d] ++ (as ++ [b]).drop ((as ++ [b]).length - 1))) _ _ _
  have et : (as ++ [b]).take ((as ++ [b]).length - 1) = as := by rw [hrl]; simp
  have ed : (as ++ [b]).drop ((as ++ [b]).length - 1) = [b] := by rw [hrl]; simp
  rw [et, ed]
  have I2 : Inv X pins σ H { s with heap := h₂, toks := tk } := I.kept (t' := tk) fun q o e => hk q o (Nat.ne_of_lt (Heap.lt_size e)) (Heap.get?_push_of_some _ e)
  refine wpAny_bind (wpAny_newObj_type (wpAny_pure ?_) (by show as.toArray.size ≤ sizeLine; simp; rw [sizeLine_eq]; (clear ed et hr lp hlt1 hlt hh hz hn hc; omega)))
  have I3 := I2.lnew (t' := tk) va (by rw [sizeLine_eq]; (clear ed et hr lp hlt1 hlt hh hz hn hc; omega))
  have q1 := hw _ I2.fresh
  show wpAny _ _ (assignInOrder [assign (.Name x p1) X.env, assign (.Name y p3) X.env] [.ref h₂.objs.size, b]) _ _ _
  refine assignInOrder_cons (thn (hx pins _ σ _ (.ref h₂.objs.size) _ (fun σ' H' => σ' = σ.set i (some (.ref h₂.objs.size)) ∧ H' = upd H h₂.objs.size (.lst xs)) I3 rfl ⟨rfl, rfl⟩) fun _ s4 hZq => ?_)
  obtain ⟨σ4, H4, I4, e1, e2⟩ := hZq
  subst e1 e2
  refine assignInOrder_cons (thn (hy pins _ _ _ z b (fun σ' H' => Q σ' H') I4 rb q1) fun _ s5 hZq => ?_)
  obtain ⟨σ5, H5, I5, q5⟩ := hZq
  exact assignInOrder_nil ⟨σ5, H5, I5, q5⟩
theorem pg_starK (K : PySem.W.Frag) {i j : Nat} {x y : Str} {k : Nat} {p1 p2 p3 pos : Pos} (hc : X.calm = true) (hx : PG X (.Name x p1) (gName i)) (hy : PG X (.Name y p3) (gName j)) (hK : X.K = K := by rfl)
    (hn : assignEach [.Starred (.Name x p1) p2, .Name y p3] X.env = [(true, assign (.Name x p1) X.env), (false, assign (.Name y p3) X.env)] := by rfl) : PG X (.Tuple [.Starred (.Name x p1) p2, .Name y p3] k pos) (gStar K i j) := by subst hK; exact pg_star hc hx hy hn
end
section
variable {K : PySem.W.Frag} {te : TE} {ae : AE} {pr : Nat → Bool}
noncomputable def aStar (i j : Nat) (x : AE) : AS := fun e ρ => x ρ fun r ρ1 => match r.frz with
  | .d (.lst ds) => ∃ xs y, ds = xs ++ [y] ∧ xs.length ≤ 16000 ∧ e.nx (pt (pt ρ1 j (.vl y)) i (.ow xs))
  | _ => False
theorem rep_snoc {H : Hp} : ∀ {vs : List V} {xs : List D} {y : D}, RepDs K H vs (xs ++ [y]) → ∃ as b, vs = as ++ [b] ∧ RepDs K H as xs ∧ RepD K H b y
  | [], xs, y, h => by have := h.length; simp at this
  | v :: vs, [], y, h => by
    have := h.length
    simp at this
    subst this
    rw [List.nil_append] at h
    unfold RepDs at h
    exact ⟨[], v, rfl, .nil, h.1⟩
  | v :: vs, x :: xs, y, h => by
    rw [List.cons_append] at h
    unfold RepDs at h
    obtain ⟨as, b, rfl, h1, h2⟩ := rep_snoc h.2
    exact ⟨v :: as, b, rfl, .cons h.1 h1, h2⟩
theorem sok_star {i j : Nat} (h : TEok K te ae) (hi : pr i = false) (hj : pr j = false) (hij : i ≠ j) : TSok K pr (tAsg te (gStar K i j)) (aStar i j ae) := by
  intro F σ ρ H D e hp r ha k
  refine h F σ ρ H _ _ r ha fun r1 ρ1 v H1 h1 o => ?_
  obtain ⟨r', k1, i1⟩ := o.inF
  split at h1
  · rename_i ds e1
    rw [e1] at i1
    have rd : RepD K _ v (.lst ds) := i1
    unfold RepD at rd
    obtain ⟨a, vs, rfl, sq, rd⟩ := rd
    obtain ⟨xs, y, rfl, hl, hn⟩ := h1
    obtain ⟨as, b, rfl, ra, rb⟩ := rep_snoc rd
    refine ⟨a, as, b, rfl, hid_sub.seq sq, by rw [ra.length]; exact hl, fun p hpn => ?_⟩
    rw [List.set_comm _ _ hij]
    have r2 := r'.set rb (nopin hp hj)
    have sv : Same (hid H1 (hs F σ ρ1)) (hid H1 (hs F (σ.set j (some b)) (pt ρ1 j (.vl y)))) := own_vis fun q hq => by
      obtain ⟨ne, q'⟩ := own_set rfl hq
      exact ⟨q', by rw [List.getElem?_set_ne ne]⟩
    exact k.nx _ _ _ hn (r2.setF (s := .ow xs) rfl ⟨p, as, rfl, upd_same, ra.same sv⟩ hpn (nopin hp hi))
  · exact h1.elim
end
end L2
set_option Elab.async false
set_option linter.all false
set_option maxRecDepth 100000
namespace L2
open PySem PySem.Spec PyProof.Rows
section
variable {X : Cx}
end
section
variable {K : PySem.W.Frag} {ta td tv : TE} {ad a av : AE} {ts : TA} {as : AA}
end
end L2
set_option Elab.async false
set_option linter.all false
set_option maxRecDepth 100000
namespace L2
open PySem PySem.Spec PyProof.Rows
section
variable {X : Cx} (K : PySem.W.Frag)
end
section
variable {K : PySem.W.Frag} {ta : TE} {a : AE} {ts : TA} {as : AA}
end
end L2
set_option Elab.async false
set_option linter.all false
set_option maxRecDepth 100000
namespace L2
open PySem PySem.Spec PyProof.Rows
section
variable {K : PySem.W.Frag} {t1 : TE} {a1 : AE} {S : ASp} {E : XK}
end
section
variable {K : PySem.W.Frag} {td : TE} {ad : AE}
end
end L2
set_option Elab.async false
set_option linter.all false
set_option maxRecDepth 100000
namespace L2
open PySem PySem.Spec PyProof.Rows
section
variable {M : Model} {A : Around} {E : Value → Shared → Prop} {s : Shared}
end
section
variable {X : Cx}
end
end L2
set_option Elab.async false
set_option linter.all false
set_option maxRecDepth 100000
namespace L2
open PySem PySem.Spec PyProof.Rows
section
variable {X : Cx} (K : PySem.W.Frag)
end
section
variable {K : PySem.W.Frag}
end
end L2
set_option Elab.async false
set_option linter.all false
set_option maxRecDepth 100000
namespace L2
open PySem PySem.Spec PyProof.Rows
noncomputable def Fly (h : Heap) (e C T : Addr) : Prop :=
  ∃ oe vs oT ts, h.get? e = some oe ∧ oe.cls = .ref C ∧ oe.dict = none ∧ oe.data = .fields vs ∧ vs[1]? = some (.ref T) ∧ T ≠ e ∧ h.get? T = some oT ∧ oT.data = .fields ts ∧ ts[3]? = some .none
structure Gone (fs : List Addr) (h h' : Heap) (e : Addr) (hv : Value) : Prop where
  keep : ∀ b o, h.get? b = some o → b ≠ e → hv ≠ .ref b → b ∉ fs → h'.get? b = some o
  slot : ∀ b o, h.get? b = some o → b ≠ e → hv ≠ .ref b → ∃ sl, h'.get? b = some { o with slots := sl }
section
variable {M : Model} {A : Around} {E : Value → Shared → Prop} {s : Shared} {base : Heap} {env : Env} {outer : List Env} {L e C : Addr} {oe : Obj} {vs : Array Value}
theorem lv_entry {hd : Value} {had : Bool} {Q : Unit → Shared → Prop} (fr : A.frames = some (env :: outer)) (ff : s.heap.FunFrames base (env :: outer)) (lf : env.frame = some L)
    (ge : s.heap.get? e = some oe) (gc : oe.cls = .ref C) (gd : oe.dict = none) (gf : oe.data = .fields vs) (gz : 1 < vs.size)
    (fin : ∀ h' T, s.heap.objs.size ≤ T → Fly h' e C T → (∀ b o, s.heap.get? b = some o → b ≠ e → b ∉ frs (env :: outer) → h'.get? b = some o) → (∀ b o, s.heap.get? b = some o → b ≠ e → ∃ sl, h'.get? b = some { o with slots := sl }) → Q () { s with heap := h' }) :
    wpAny M A (do let a ← frameOf env; let pl ← entryPlaceOf L had; let b ← EntryCells.newEntry hd a .none (rawInt L) .none pl; setField (.ref e) 1 b) (fun _ s' => wpAny M A (setFlight (.ref e) none) Q E s') E s := by
  have off : e ∉ frs (env :: outer) := fun q => by
    obtain ⟨_, o, go, no⟩ := ff.mem q
    cases ge.symm.trans go
    exact no vs gf
  refine wpAny_bind (wpAny_frameOf_fun fr ff lf fun ha sa => wpAny_bind (wpAny_entryPlaceOf fun pl ip => ?_))
  unfold EntryCells.newEntry newFields
  refine wpAny_bind (wpAny_newObj_type ?_ (ip.sizeOk5 _ _ _ _ _))
  have ge1 : ha.get? e = some oe := (sa.2.1 e off).trans ge
  have sz : ha.objs.size = s.heap.objs.size := sa.1
  generalize hT : ([hd, Value.ref L, .none, rawInt L, .none] ++ (if pl.isEmpty then List.replicate 6 Value.none else pl)).toArray = tv
  have tz : 3 < tv.size := by rw [← hT, List.size_toArray, List.length_append]; simp only [List.length_cons, List.length_nil]; (clear hT sz ge1 off gz gf gd gc ge lf fr; omega)
  have neT : e ≠ ha.objs.size := Nat.ne_of_lt (Heap.lt_size ge1)
  refine wpAny_setField (Heap.get?_push_of_some _ ge1) gf gz ?_
  generalize hp : ha.push { cls := .type "traceback", dict := none, data := .fields tv } = hb
  have gT : hb.get? ha.objs.size = some { cls := .type "traceback", dict := none, data := .fields tv } := by rw [← hp]; exact Heap.get?_push_size _ rfl
  have kb : ∀ b o, ha.get? b = some o → hb.get? b = some o := fun b o q => by rw [← hp]; exact Heap.get?_push_of_some _ q
  have w1 := Obj.data_mapFields gf fun a => a.setIfInBounds 1 (.ref ha.objs.size)
  have g3 := Heap.get?_update_self (Obj.mapFields fun a => a.setIfInBounds 1 (.ref ha.objs.size)) (kb e oe ge1) (Obj.isFreed_of_fields w1)
  have gT3 := (Heap.get?_update_other hb (Obj.mapFields fun a => a.setIfInBounds 1 (.ref ha.objs.size)) neT).trans gT
  unfold setFlight
  refine wpAny_bind (wpAny_field g3 w1 (x := .ref ha.objs.size) (by simp [gz]) ?_)
  rw [if_pos (by simp : (Value.ref ha.objs.size != Value.none) = true)]
  refine wpAny_setField gT3 rfl tz ?_
  have on : ∀ b o, b ≠ e → ha.get? b = some o → ((hb.update e (Obj.mapFields fun a => a.setIfInBounds 1 (.ref ha.objs.size))).update ha.objs.size (Obj.mapFields fun a => a.setIfInBounds 3 ((none : Option Addr).elim Value.none fun f => rawInt f))).get? b = some o := fun b o ne q => by
    rw [Heap.get?_update_other _ _ (Nat.ne_of_gt (Heap.lt_size q)), Heap.get?_update_other _ _ (Ne.symm ne)]
    exact kb b o q
  refine fin _ ha.objs.size (by rw [sz]; exact Nat.le_refl _) ⟨_, _, _, _, (Heap.get?_update_other _ _ neT.symm).trans g3, (Obj.cls_mapFields _ _).trans gc, ?_, w1, by simp [gz], neT.symm, Heap.get?_update_self _ gT3 (Obj.isFreed_of_fields (Obj.data_mapFields rfl _)), Obj.data_mapFields rfl _, by simp [tz]⟩ (fun b o q ne nf => on b o ne ((sa.2.1 b nf).trans q)) fun b o q ne => ?_
  · obtain ⟨oc, od, oda, osl⟩ := oe
    cases gf
    exact gd
  · obtain ⟨sl, q'⟩ := sa.2.2 b o q
    exact ⟨sl, on b _ ne q'⟩
theorem lv {hv : Value} {Q : Unit → Shared → Prop} (fr : A.frames = some (env :: outer)) (ff : s.heap.FunFrames base (env :: outer)) (lf : env.frame = some L)
    (ge : s.heap.get? e = some oe) (gc : oe.cls = .ref C) (gd : oe.dict = none) (gf : oe.data = .fields vs) (g1 : vs[1]? = some hv)
    (hh : hv = .none ∨ ∃ T oT ts, hv = .ref T ∧ T ≠ e ∧ s.heap.get? T = some oT ∧ oT.data = .fields ts ∧ ts[3]? = some .none)
    (fin : ∀ h' T, s.heap.objs.size ≤ T → Fly h' e C T → Gone (frs (env :: outer)) s.heap h' e hv → Q () { s with heap := h' }) :
    wpAny M A (noteFrame (.ref e) env) (fun _ s' => wpAny M A (setFlight (.ref e) none) Q E s') E s := by
  have gz := (Array.getElem?_eq_some_iff.mp g1).1
  unfold noteFrame
  simp only [lf]
  refine wpAny_bind (wpAny_field ge gf g1 ?_)
  rcases hh with rfl | ⟨T, oT, ts, rfl, nT, gT, fT, t3⟩
  · rw [if_neg (by decide)]
    exact lv_entry fr ff lf ge gc gd gf gz fun h' T' q1 q2 q3 q4 => fin h' T' q1 q2 ⟨fun b o a1 a2 _ a4 => q3 b o a1 a2 a4, fun b o a1 a2 _ => q4 b o a1 a2⟩
  · rw [if_pos (by simp : (Value.ref T != Value.none) = true)]
    refine wpAny_bind (wpAny_field gT fT t3 ?_)
    rw [if_neg (by simp [rawInt] : ¬ (Value.none == rawInt L) = true)]
    refine wpAny_bind (wpAny_setField gT fT (Array.getElem?_eq_some_iff.mp t3).1 ?_)
    have ot : ∀ b, b ≠ T → (s.heap.update T (Obj.mapFields fun a => a.setIfInBounds 3 Value.none)).get? b = s.heap.get? b := fun b q => Heap.get?_update_other _ _ (Ne.symm q)
    have gT' := Heap.get?_update_self (Obj.mapFields fun a => a.setIfInBounds 3 Value.none) gT (Obj.isFreed_of_fields (Obj.data_mapFields fT _))
    have nr : ∀ b o, s.heap.get? b = some o → (∀ us, o.data ≠ .fields us) → b ≠ T := fun b o q nf z => by
      subst z
      cases gT.symm.trans q
      exact nf ts fT
    refine lv_entry fr (ff.of_keeps fun b o q nf => ⟨o, (ot b (nr b o q nf)).trans q, rfl⟩) lf ((ot e nT.symm).trans ge) gc gd gf gz fun h' T' q1 q2 q3 q4 => fin h' T' ?_ q2 ⟨fun b o a1 a2 a3 a4 => q3 b o ((ot b fun z => a3 (by rw [z])).trans a1) a2 a4, fun b o a1 a2 a3 => q4 b o ((ot b fun z => a3 (by rw [z])).trans a1) a2⟩
    rwa [Heap.size_update] at q1
end
noncomputable def Hot (h0 h : Heap) (H : Hp) (e C : Addr) : Prop :=
  ∃ oe vs hv, h.get? e = some oe ∧ oe.cls = .ref C ∧ oe.dict = none ∧ oe.data = .fields vs ∧ vs[1]? = some hv ∧ h0.get? e = none ∧ H e = none ∧
    (hv = .none ∨ ∃ T oT ts, hv = .ref T ∧ T ≠ e ∧ h.get? T = some oT ∧ oT.data = .fields ts ∧ ts[3]? = some .none ∧ h0.get? T = none ∧ H T = none)
section
variable {X : Cx} {pins : List (Addr × Obj)} {σ : St} {H : Hp} {s : Shared} {h0 : Heap} {e C : Addr}
theorem lvI {E : Value → Shared → Prop} {Q : Unit → Shared → Prop} (I : Inv X pins σ H s) (hs : X.stack = X.env :: X.outer) (hf : X.env.frame = some X.env.locals) (hsub : ∀ b o, h0.get? b = some o → b < s.heap.objs.size) (hot : Hot h0 s.heap H e C)
    (fin : ∀ h' ch, (∀ b ∈ ch, h0.get? b = none ∧ H b = none) → e ∈ ch → Un (frs X.stack) ch H H s.heap h' → HOk X.prog X.w H h' → Hot h0 h' H e C → Q () { s with heap := h' }) :
    wpAny (model X.prog X.w) X.A (noteFrame (.ref e) X.env) (fun _ s' => wpAny (model X.prog X.w) X.A (setFlight (.ref e) none) Q E s') E s := by
  obtain ⟨oe, vs, hv, ge, gc, gd, gf, g1, ye, ue, hh⟩ := hot
  have hh' : hv = .none ∨ ∃ T oT ts, hv = .ref T ∧ T ≠ e ∧ s.heap.get? T = some oT ∧ oT.data = .fields ts ∧ ts[3]? = some .none := by
    rcases hh with q | ⟨T, oT, ts, q1, q2, q3, q4, q5, _⟩
    · exact .inl q
    · exact .inr ⟨T, oT, ts, q1, q2, q3, q4, q5⟩
  refine lv (hs ▸ I.ok.frames) (hs ▸ I.stack) hf ge gc gd gf g1 hh' fun h' T q1 ⟨oe', vs', oT', ts', f1, f2, f3, f4, f5, f6, f7, f8, f9⟩ g => ?_
  have hch : ∀ b ∈ e :: (match hv with | .ref T => [T] | _ => []), h0.get? b = none ∧ H b = none := fun b hb => by
    rcases List.mem_cons.mp hb with rfl | hb
    · exact ⟨ye, ue⟩
    · rcases hh with rfl | ⟨T, oT, ts, rfl, _, _, _, _, y, u⟩
      · cases hb
      · rw [List.mem_singleton.mp hb]; exact ⟨y, u⟩
  have nch : ∀ b, b ∉ e :: (match hv with | .ref T => [T] | _ => []) → b ≠ e ∧ hv ≠ .ref b := fun b hb => ⟨fun z => hb (z ▸ .head _), fun z => hb (by subst z; exact .tail _ (.head _))⟩
  have there : ∀ b o, s.heap.get? b = some o → ∃ o', h'.get? b = some o' ∨ b = e ∨ hv = .ref b := fun b o q => by
    by_cases z1 : b = e
    · exact ⟨o, .inr (.inl z1)⟩
    · by_cases z2 : hv = .ref b
      · exact ⟨o, .inr (.inr z2)⟩
      · obtain ⟨sl, q'⟩ := g.slot b o q z1 z2
        exact ⟨_, .inl q'⟩
  refine fin h' _ hch (.head _) ⟨fun b o q n nf nx => g.keep b o q (nch b nx).1 (nch b nx).2 (by rw [← hs]; exact nf), fun b o q n _ nx => g.slot b o q (nch b nx).1 (nch b nx).2, fun b o _ n _ => n, fun b o q nx => ?_, fun _ _ q => q, fun _ _ _ q => q, fun b ps q => ⟨#[], by rw [q]; simp⟩⟩ (fun a o q => ?_) ⟨oe', vs', _, f1, f2, f3, f4, f5, ye, ue, .inr ⟨T, oT', ts', rfl, f6, f7, f8, f9, ?_, I.hok.fresh q1⟩⟩
  · obtain ⟨sl, q'⟩ := g.slot b o q (nch b nx).1 (nch b nx).2
    exact ⟨_, q'⟩
  · have tr : ∀ b o', H b = some o' → b ≠ e ∧ hv ≠ .ref b ∧ b ∉ frs (X.env :: X.outer) := fun b o' z => by
      refine ⟨fun w => ?_, fun w => ?_, fun w => ?_⟩
      · rw [w, ue] at z; cases z
      · rcases hh with y | ⟨T, oT, ts, y, _, _, _, _, _, u⟩
        · rw [y] at w; cases w
        · rw [y] at w; cases w; rw [u] at z; cases z
      · rw [← hs] at w
        rw [I.stkFree b w] at z; cases z
    refine (I.hok a o q).stay (fun b u hb z => ?_) (fun _ z => z) fun _ _ z => z
    have : ∃ o', H b = some o' := by
      rcases hb with rfl | hb
      · exact ⟨_, q⟩
      · exact ⟨_, hb⟩
    obtain ⟨o', ho'⟩ := this
    obtain ⟨a1, a2, a3⟩ := tr b o' ho'
    exact g.keep b u z a1 a2 a3
  · cases z : h0.get? T with
    | none => rfl
    | some o => exact absurd (hsub T o z) (Nat.not_lt.mpr q1)
end
noncomputable def CX1 (P : Program) (w : World) : CXT := fun outer H s E e s' =>
  ∃ a C H', e = .ref a ∧ s'.os = s.os ∧ AllBare s'.gens ∧ Un (frs outer) [] H H' s.heap s'.heap ∧ HOk P w H' s'.heap ∧ Hot s.heap s'.heap H' a C ∧ E e (some C) H'
section
variable {P : Program} {w : World} {K : PySem.W.Frag} {mg : Str → Option Value} {base : Heap} {N : List Str} {qual : Str} {scope : Scope} {f : Addr} {cd : Value} {A : Around} {outer : List Env} {s0 : Shared} {H0 : Hp} {E : XK}
theorem leave1 {pins : List (Addr × Obj)} {σ : St} {H : Hp} {s : Shared} {e C : Addr} (I : Inv (cxOf (CX1 P w) P w K mg base N qual scope f cd A outer s0 H0 E) pins σ H s) (hot : Hot s0.heap s.heap H e C) (he : E (.ref e) (some C) H) :
    (cxOf (CX1 P w) P w K mg base N qual scope f cd A outer s0 H0 E).xe (.ref e) s := by
  show wpAny (model P w) _ (leaving _ (.ref e)) _ _ s
  unfold leaving
  refine wpAny_bind (lvI I rfl rfl (fun b o q => ?_) hot fun h' ch hch hin un hok hot' => ?_)
  · exact Nat.lt_of_lt_of_le (Heap.lt_size q) I.sz
  · have lo : ∀ b o, s0.heap.get? b = some o → b ∉ ch := fun b o q z => by rw [(hch b z).1] at q; cases q
    have nL : ∀ b o, s0.heap.get? b = some o → b ≠ s0.heap.objs.size := fun b o q => Nat.ne_of_lt (Heap.lt_size q)
    refine ⟨e, C, H, rfl, I.os, I.bare, ⟨fun b o q n nf _ => ?_, fun b o q n hb _ => ?_, fun b o q n _ => I.base.free b o q n (fun z => nomatch z), fun b o q _ => ?_, I.base.tups, I.base.frzs, I.base.tbls⟩, hok, hot', he⟩
    · refine un.keep b o (I.base.keep b o q n nf fun z => nomatch z) (I.base.free b o q n fun z => nomatch z) (fun z => ?_) (lo b o q)
      rcases List.mem_cons.mp z with z | z
      · exact nL b o q z
      · exact nf z
    · obtain ⟨sl, q'⟩ := I.base.slot b o q n hb fun z => nomatch z
      obtain ⟨sl', q''⟩ := un.slot b _ q' (I.base.free b o q n fun z => nomatch z) (.tail _ hb) (lo b o q)
      exact ⟨sl', q''⟩
    · obtain ⟨o', q'⟩ := I.base.there b o q fun z => nomatch z
      exact un.there b o' q' (lo b o q)
end
abbrev bmV : List Value := [.type "ValueError", .type "Exception", .type "BaseException", .type "object"]
theorem own_cls {K : PySem.W.Frag} {h : Heap} {x : Str} {C : Addr} {mg : Str → Option Value} (KX : K.In h) (hm : mg x = some (.ref C)) (q : PySem.W.excIn K C bmV "ValueError.__new__" = true) : OwnCls x C bmV "ValueError.__new__" mg h := by
  unfold PySem.W.excIn at q
  split at q
  next dd cd sl lk =>
    split at q
    next C' bm k0 k1 k2 k3 n k5 em es =>
      simp only [Bool.and_eq_true, beq_iff_eq, Bool.not_eq_true'] at q
      obtain ⟨⟨⟨⟨⟨rfl, rfl⟩, nd⟩, tl⟩, nk⟩, ni⟩ := q
      obtain ⟨a1, a2, a3, a4, a5, a6, a7, a8, a9, a10, a11⟩ := cd
      obtain ⟨l⟩ := sl
      dsimp only at em nd nk ni es
      subst em nd es
      exact ⟨hm, bm, a4, a1, a5, a2, a6, a7, a8, a9, a10, dd, k0, k1, k2, k3, k5, _, KX _ _ lk, .of_isNs (PySem.W.isNs_of_in KX nk), PySem.W.nsMap_none_of_in KX nk ni, PySem.W.tail_of_in KX tl⟩
    · cases q
  · cases q
theorem HOk.get {P : Program} {w : World} {H : Hp} {h : Heap} {a : Addr} {o : HO} (k : HOk P w H h) (e : H a = some o) : ∃ u, h.get? a = some u := by
  have x := k a o e
  cases o with
  | lst xs => obtain ⟨_, _, _, _, e⟩ := x; exact ⟨_, e⟩
  | tup xs => obtain ⟨_, _, _, ob, e, _⟩ := x; exact ⟨_, e⟩
  | dK kvs => obtain ⟨_, _, _, _, o, _, _, e, _⟩ := x; exact ⟨_, e⟩
  | dT kvs => obtain ⟨_, _, _, _, o, _, _, e, _⟩ := x; exact ⟨_, e⟩
  | set S n => obtain ⟨o, _, _, _, e, _⟩ := x; exact ⟨_, e⟩
  | ins C dx fs => obtain ⟨_, _, _, e, _⟩ := x; exact ⟨_, e⟩
  | own y => exact x
  | xd fs => obtain ⟨_, ⟨_, _, _, e, _⟩, _⟩ := x; exact ⟨_, e⟩
  | rng lo hi => obtain ⟨_, _, _, e⟩ := x; exact ⟨_, e⟩
  | frz ob u => obtain ⟨e, _⟩ := x; exact ⟨_, e⟩
  | tbl ps => exact ⟨_, x⟩
  | met f y => exact ⟨_, x⟩
  | ext φ => obtain ⟨_, e, _⟩ := x; exact e
theorem Inv.back0 {X : Cx} {pins : List (Addr × Obj)} {σ : St} {H : Hp} {s : Shared} (I : Inv X pins σ H s) (hx : X.ex = []) {b : Addr} (h : s.heap.get? b = none) : X.s₀.heap.get? b = none := by
  cases q : X.s₀.heap.get? b with
  | none => rfl
  | some o =>
    obtain ⟨o', q'⟩ := I.base.there b o q (by rw [hx]; simp)
    rw [h] at q'; cases q'
structure Tie (X : Cx) (C : Addr) (R : VK) : Prop where
  ex : X.ex = []
  run : ∀ {pins : List (Addr × Obj)} {σ : St} {H : Hp} {s : Shared} {e : Addr}, Inv X pins σ H s → Hot X.s₀.heap s.heap H e C → R .non H → X.xe (.ref e) s
noncomputable def SPr (X : Cx) (pins : List (Addr × Obj)) (D : Ends) (f : Flow) (s' : Shared) : Prop :=
  match f with
  | .next => ∃ σ' H', Inv X pins σ' H' s' ∧ D.nx σ' H'
  | _ => False
noncomputable def PSr (X : Cx) (R : VK) (st : Stmt) (t : TS) : Prop :=
  ∀ (pins : List (Addr × Obj)) (s : Shared) (σ : St) (H : Hp) (D : Ends), D.rt = R → Inv X pins σ H s → t D σ H → wpAny (model X.prog X.w) X.A (exec st X.env) (SPr X pins D) X.xe s
noncomputable def PSsr (X : Cx) (R : VK) (st : List Stmt) (t : TS) : Prop :=
  ∀ (pins : List (Addr × Obj)) (s : Shared) (σ : St) (H : Hp) (D : Ends), D.rt = R → Inv X pins σ H s → t D σ H → wpAny (model X.prog X.w) X.A (execs st X.env) (SPr X pins D) X.xe s
noncomputable def noEnds (D : Ends) : Ends := { nx := D.nx, rt := fun _ _ => False, bk := fun _ _ => False, ct := fun _ _ => False }
section
variable {X : Cx} {R : VK} {C : Addr}
theorem psr_of {st : Stmt} {t : TS} (h : PS X.nox st t) (ht : ∀ D σ H, t D σ H → t (noEnds D) σ H := by intro _ _ _ h; exact h) : PSr X R st t := fun pins s σ H D _ I hw => by
  refine wpAny_mono (h pins s σ H (noEnds D) (I.wish _) (ht D σ H hw)) (fun f s' q => ?_) fun _ _ z => False.elim z
  cases f with
  | next => obtain ⟨σ', H', I', q⟩ := q; exact ⟨σ', H', I'.unwish, q⟩
  | brk => obtain ⟨_, _, _, q⟩ := q; exact q
  | cont => obtain ⟨_, _, _, q⟩ := q; exact q
  | ret u => obtain ⟨_, _, _, _, _, q⟩ := q; exact q
theorem pssr_nil : PSsr X R [] tNext := fun _ _ σ H _ _ I h => wpAny_execs_nil ⟨σ, H, I, h⟩
theorem pssr_cons {st : Stmt} {rest : List Stmt} {t u : TS} (h1 : PSr X R st t) (h2 : PSsr X R rest u) : PSsr X R (st :: rest) (tSeq t u) := by
  intro pins s σ H D e I h
  refine wpAny_execs_cons (thn (h1 pins s σ H { D with nx := u D } e I h) fun f s1 q => ?_)
  cases f with
  | next =>
    obtain ⟨σ', H', I', q⟩ := q
    exact h2 pins s1 σ' H' D e I' q
  | ret v => exact q
  | brk => exact q
  | cont => exact q
theorem pssr_never {st : List Stmt} : PSsr X R st tNever := fun _ _ _ _ _ _ _ h => h.elim
theorem psr_if {c : Expr} {a b : List Stmt} {tc : TT} {t u : TS} {pos : Pos} (hc : PT X.nox c tc) (ha : PSsr X R a t) (hb : PSsr X R b u) : PSr X R (.If c a b pos) (tIfS tc t u) := by
  intro pins s σ H D e I h
  refine wpAny_If (thn (hc.nox pins s σ H _ I h) fun d s1 hZq => ?_)
  obtain ⟨H1, I1, q1⟩ := hZq
  cases d with
  | true => exact ha pins s1 σ H1 D e I1 q1
  | false => exact hb pins s1 σ H1 D e I1 q1
theorem psr_raise {x : Str} (T : Tie X C R) (hc : X.calm = true) (hm : X.mg x = some (.ref C)) (hq : PySem.W.excIn X.K C bmV "ValueError.__new__" = true) {e0 : Expr} {v0 : V} {np cpos pos : Pos} (ha : PE X.nox e0 (tC v0))
    (hg : Gl X x := by rfl) (he : starEach [e0] X.env = [(false, eval e0 X.env)] := by rfl) (hdb : (x == ("__debug__" : Str)) = false := by decide) : PSr X R (.Raise (some (.Call (.Name x np) [e0] [] cpos)) none pos) (tRet (tC .non)) := by
  intro pins s σ H D e I h
  obtain ⟨tl, N, nm, q, bs, hdct, sn, sub, ab, col, dd, k0, k1, k2, k3, k5, mN, hC, hN, hni, tw⟩ := (own_cls I.mod.kin hm hq).obj
  refine wpAny_Raise_call_subT (k5 := k5) (k3 := k3) (k2 := k2) (k1 := k1) (k0 := k0) (dd := dd) (col := col) (ab := ab) (sub := sub) (sn := sn) (hdct := hdct) (bs := bs) (N := N) (q := q) (nm := nm) (C := C) (bm := tl) (mN := mN) PySem.F.excBase_ValueError (tw.hasType (by decide +kernel)) (I.ok.hd hc) (by rw [he]; rfl) hni (ld_glob I hg hm ⟨rfl, ?_⟩ hdb)
  rw [he]
  refine Calls.evalArgs_plain (Calls.spliced_cons ?_)
  refine thn (ha.nox pins s σ H (fun v H' => H' = H) I rfl) fun u s1 ⟨x, H1, I1, r1, q1⟩ => Calls.spliced_nil ?_
  subst q1
  refine ⟨rfl, by show (1 : Nat) ≤ _; decide, I1.bk _ _ hC, hN.keeps I1.bk, tw.keeps I1.bk, fun h' a mk => ?_⟩
  obtain ⟨tt, g1, g2, g3⟩ := mk.there
  refine T.run (I1.kept (t' := s1.toks) mk.keeps) ⟨_, _, .none, g1, rfl, rfl, rfl, rfl, I1.back0 T.ex mk.new, ?_, .inl rfl⟩ (e ▸ h)
  cases z : H1 a with
  | none => rfl
  | some o =>
    obtain ⟨u, z'⟩ := I1.hok.get z
    rw [mk.new] at z'; cases z'
end
theorem PA.nox {X : Cx} {es : List Expr} {t : TA} (h : PA X.nox es t) : PA X es t := fun pos pins s σ H Q I hw =>
  wpAny_mono (h pos pins s σ H Q (I.wish _) hw) (fun _ _ ⟨xs, H', I', r, q⟩ => ⟨xs, H', I'.unwish, r, q⟩) fun _ _ z => False.elim z
noncomputable abbrev XW (E : XK) (C : Addr) : VK := fun _ H' => ∀ e, E (.ref e) (some C) H'
noncomputable def spX (C : Addr) (sp : Sp) : Sp := fun vs H Q E => sp vs H (XW E C) E
structure OkX (P : Program) (w : World) (K : PySem.W.Frag) (mg : Str → Option Value) (base : Heap) (k : Nat) (x : Str) (ps : List Str) (C : Addr) (sp : Sp) : Prop where
  ex : ∃ f fd, mg x = some (.ref f) ∧ PySem.W.keepIn K (.ref f) = true ∧ Binds K fd ps [] ∧ FnOk P w K mg base (CX1 P w) k f fd ps (spX C sp)
section
variable {P : Program} {w : World} {K : PySem.W.Frag} {mg : Str → Option Value} {base : Heap} {N : List Str} {qual : Str} {scope : Scope} {f : Addr} {cd : Value} {A : Around} {outer : List Env} {s0 : Shared} {H0 : Hp} {E : XK} {C : Addr}
theorem tie1 : Tie (cxOf (CX1 P w) P w K mg base N qual scope f cd A outer s0 H0 E) C (XW E C) := ⟨rfl, fun I hot hr => leave1 I hot (hr _)⟩
theorem Hot.older {h0 h1 h : Heap} {H : Hp} {e C : Addr} (q : Hot h1 h H e C) (le : ∀ b, h1.get? b = none → h0.get? b = none) : Hot h0 h H e C := by
  obtain ⟨oe, vs, hv, a1, a2, a3, a4, a5, a6, a7, a8⟩ := q
  refine ⟨oe, vs, hv, a1, a2, a3, a4, a5, le _ a6, a7, ?_⟩
  rcases a8 with z | ⟨T, oT, ts, b1, b2, b3, b4, b5, b6, b7⟩
  · exact .inl z
  · exact .inr ⟨T, oT, ts, b1, b2, b3, b4, b5, le _ b6, b7⟩
theorem pass1 : Passes (CX1 P w) (cxOf (CX1 P w) P w K mg base N qual scope f cd A outer s0 H0 E) E := by
  rintro pins σ H s e s' I ⟨a, C, H', rfl, os, bare, un, hok, hot, he⟩
  exact leave1 (I.call' os un hok bare fun b z => nomatch z) (hot.older fun b q => I.back0 rfl q) he
end
section
variable {X : Cx} {E : XK} {C : Addr} {K : PySem.W.Frag} {S : ASp}
theorem psr_call {k : Nat} {x : Str} {ps : List Str} {p cpos pos : Pos} {e : Expr} {es : List Expr} {t : TA} (F : OkX X.prog X.w X.K X.mg X.base k x ps C (spA K S)) (hr : Room k X.A) (hx : Passes (CX1 X.prog X.w) X E) (ha : PA X.nox (e :: es) t) (hg : Gl X x := by rfl)
    (hdb : (x == ("__debug__" : Str)) = false := by decide) (he : starEach (e :: es) X.env = (false, eval e X.env) :: starEach es X.env := by rfl) (hpl : (backTo cpos (starEach es X.env)).any (·.1) = false := by rfl)
    (hs : swapsWith (.Call (.Name x p) (e :: es) [] cpos) none pos.line X.env = pure false := by rfl) :
    PSr X (XW E C) (.Expr (.Call (.Name x p) (e :: es) [] cpos) pos) (tRet (tCall (spA K S) [] E0 t)) := by
  obtain ⟨f, fd, hm, hk, hb, F⟩ := F.ex
  intro pins s σ H D e1 I h
  have pe := pe_call (p := p) (sp := spX C (spA K S)) (E := E) F hr hg hm hk hb .nil hx ha.nox hdb he hpl
  have h' : tCall (spX C (spA K S)) [] E t σ H fun _ _ => False := by
    have h2 : t σ H fun vs H1 => spA K S (vs ++ []) H1 D.rt E0 := h
    rw [e1] at h2
    exact h2
  exact wpAny_Expr_any (thn (pe pins s σ H _ I h') fun v s1 ⟨_, _, _, _, q1⟩ => q1.elim) I.quiet hs
theorem pss_ofR {R : VK} {body : List Stmt} {t : TS} (h : PSsr X R body t) : PSs X body (fun _ σ H => ∃ D0 : Ends, D0.rt = R ∧ (∀ σ H, ¬ D0.nx σ H) ∧ t D0 σ H) := by
  rintro pins s σ H D I ⟨D0, e, no, ht⟩
  refine thn (h pins s σ H D0 e I ht) fun fl s' q => ?_
  cases fl with
  | next => obtain ⟨σ', H', _, q⟩ := q; exact (no _ _ q).elim
  | ret v => exact False.elim q
  | brk => exact False.elim q
  | cont => exact False.elim q
end
theorem DefN.aokX {P : Program} {w : World} {K : PySem.W.Frag} {mg : Str → Option Value} {base : Heap} {x : Str} {st : Stmt} {N ps : List Str} {k : Nat} {a : AS} (D : DefN K mg x st ps) (Sc : FnScope N ps (defScope st)) (pr : Nat → Bool) (us : En) (S : ASp) (C : Addr) (hus : List.replicate (N.length - ps.length) Sv.un = us)
    (hbody : ∀ (f : Addr) (cdv : Value) (A : Around) (outer : List Env) (s : Shared) (H : Hp) (E : XK), Room k (A.deeper (envOfC x (defScope st) s.heap.objs.size f cdv)) →
      ∃ t, PSsr (cxOf (CX1 P w) P w K mg base N x (defScope st) f cdv A outer s H E) (XW E C) (defBody st) t ∧ TSok K pr t a)
    (hS : ∀ ss q, S ss q → ss.length = ps.length ∧ ownB pr ss 0 = true ∧ a ⟨fun _ => False, fun r ρ => r = .d .non ∧ q (.d .non) (outS ss ρ), fun _ => False, fun _ => False⟩ (ss ++ us)) : OkX P w K mg base (k + 1) x ps C (spA K S) := by
  have lenOk : ∀ vs H Q E, spX C (spA K S) vs H Q E → vs.length = ps.length := fun vs H Q E h => by
    obtain ⟨ss, Z, q, r, hs', _⟩ := h
    have := r.len
    rw [List.length_map] at this
    rw [this]; exact (hS ss q hs').1
  obtain ⟨f, fd, hm, F, hb⟩ := D.ex
  refine ⟨f, fd, hm, F.kp, .all hb, ?_⟩
  obtain ⟨oc, od, kV, doc, pm, an, cdv, ct, osl, rfl, lk, hcd⟩ := F.ex
  refine fn_of lk hcd Sc lenOk fun A outer s H vs Q E hr h => ?_
  have hl := lenOk _ _ _ _ h
  obtain ⟨ss, Z, q, r0, hs', post⟩ := h
  obtain ⟨h1, h2, h3⟩ := hS ss q hs'
  obtain ⟨t, ht, tok⟩ := hbody f cdv A outer s H E hr
  refine ⟨_, pss_ofR ht, { nx := fun _ _ => False, rt := XW E C, bk := fun _ _ => False, ct := fun _ _ => False }, rfl, fun _ _ z => z, ?_⟩
  have hp : ∀ i a, (F0 vs ss H Z).pin i a → pr i = true := fun i a h => by
    rcases h with h | h
    · have := ownB_ok h2 i h.1; rwa [Nat.zero_add] at this
    · exact h.elim
  unfold start
  rw [hl]
  rw [← hus] at h3
  refine tok (F0 vs ss H Z) _ _ H _ _ hp (r0.ext _) h3 ⟨fun _ _ _ z => z.elim, fun _ _ _ z => z.elim, fun _ _ _ z => z.elim, fun σ' ρ' rr v H' hq r => ?_⟩
  obtain ⟨e, hq⟩ := hq
  subst e
  obtain ⟨r1, r2⟩ := r
  obtain ⟨o1, o2, o3⟩ := r0.out r1
  exact post (.d .non) _ v H' hq o3 (fun i z => nomatch z) ⟨o1, r2.same o2⟩
section
variable {X : Cx} {pins : List (Addr × Obj)} {σ σ1 : St} {H H1 : Hp} {s s1 : Shared} {h' : Heap} {ch : List Addr} {e C : Addr}
theorem Inv.hot (I1 : Inv X pins σ1 H1 s1) (I : Inv X pins σ H s) (hx : X.ex = []) (un : Un (frs X.stack) ch H H s.heap h') (hok : HOk X.prog X.w H h') (hch : ∀ b ∈ ch, s1.heap.get? b = none) : Inv X pins σ H { s with heap := h' } := by
  have n0 : ∀ b o, X.s₀.heap.get? b = some o → b ∉ ch := fun b o q z => by
    obtain ⟨o', q'⟩ := I1.base.there b o q (by rw [hx]; simp)
    rw [hch b z] at q'; cases q'
  have nf : ∀ b o, X.s₀.heap.get? b = some o → b ∉ X.fs → b ∉ frs X.stack := fun b o q n z => by
    rcases List.mem_cons.mp (I.stkSub b z) with z | z
    · exact absurd (Nat.lt_of_lt_of_le (Heap.lt_size q) I.ok.above) (by rw [z]; exact Nat.lt_irrefl _)
    · exact n z
  have nx : ∀ b, b ∉ X.ex := fun b => by rw [hx]; simp
  obtain ⟨m, ⟨o, es, ep, ho, r⟩, hl⟩ := id I.loc
  have nL : X.env.locals ∉ ch := fun z => by
    obtain ⟨m1, ⟨o1, _, _, ho1, _⟩, _⟩ := id I1.loc
    rw [hch _ z] at ho1; cases ho1
  have nC : ∀ x c, X.env.cells.lookup x = some c → c ∉ ch := fun x c q z => by
    obtain ⟨v, o1, ho1, _⟩ := I1.cell x c q
    rw [hch _ z] at ho1; cases ho1
  have cell : ∀ {x c v}, X.env.cells.lookup x = some c → s.heap.IsCell c v → Heap.IsCell h' c v := fun {x c v} q ⟨oc, hoc, hd⟩ => by
    obtain ⟨sl, q'⟩ := un.any hoc (I.freeC x c q) (nC x c q)
    exact ⟨_, q', hd⟩
  obtain ⟨sl, hL⟩ := un.any ho I.free nL
  refine ⟨I.ok, I.os, I.bare, ⟨fun b o q n f _ => ?_, fun b o q n f _ => ?_, fun b o q n _ => I.base.free b o q n (nx b), fun b o q _ => ?_, I.base.tups, I.base.frzs, I.base.tbls⟩, ⟨m, ⟨_, es, ep, hL, r⟩, fun i x v a1 a2 a3 => ?_⟩, fun x c q => ?_, I.free, I.freeC, fun p hp => ?_, hok, I.len⟩
  · exact un.keep b o (I.base.keep b o q n f (nx b)) (I.base.free b o q n (nx b)) (nf b o q f) (n0 b o q)
  · obtain ⟨sl1, q1⟩ := I.base.slot b o q n f (nx b)
    obtain ⟨sl2, q2⟩ := un.any q1 (I.base.free b o q n (nx b)) (n0 b o q)
    exact ⟨sl2, q2⟩
  · obtain ⟨o', q'⟩ := I.base.there b o q (nx b)
    exact un.there b o' q' (n0 b o q)
  · obtain ⟨u, ru, lk⟩ := hl i x v a1 a2 a3
    refine ⟨u, ru, ?_⟩
    rcases lk with z | ⟨z1, c, z2, z3⟩
    · exact .inl z
    · exact .inr ⟨z1, c, z2, cell z2 z3⟩
  · obtain ⟨v, hv⟩ := I.cell x c q
    exact ⟨v, cell q hv⟩
  · obtain ⟨p1, p2, p3, p4, p5⟩ := I.pin p hp
    refine ⟨un.keep _ _ p1 p2 (fun z => ?_) (fun z => ?_), p2, p3, p4, p5⟩
    · rcases List.mem_cons.mp (I.stkSub _ z) with z | z
      · exact p3 z
      · exact p4 z
    · have := (I1.pin p hp).1
      rw [hch _ z] at this; cases this
theorem sfI {A : Around} {E : Value → Shared → Prop} {Q : Unit → Shared → Prop} {h0 : Heap} (I : Inv X pins σ H s) (hot : Hot h0 s.heap H e C)
    (fin : ∀ h' ch, (∀ b ∈ ch, h0.get? b = none) → Un (frs X.stack) ch H H s.heap h' → HOk X.prog X.w H h' → (∃ oe vs, h'.get? e = some oe ∧ oe.cls = .ref C ∧ oe.dict = none ∧ oe.data = .fields vs) → Q () { s with heap := h' }) :
    wpAny (model X.prog X.w) A (setFlight (.ref e) none) Q E s := by
  obtain ⟨oe, vs, hv, ge, gc, gd, gf, g1, ye, ue, hh⟩ := hot
  unfold setFlight
  refine wpAny_bind (wpAny_field ge gf g1 ?_)
  rcases hh with rfl | ⟨T, oT, ts, rfl, nT, gT, fT, t3, yT, uT⟩
  · rw [if_neg (by decide)]
    exact wpAny_pure (fin s.heap [] (fun _ z => nomatch z) (.kept fun _ _ q => q) I.hok ⟨oe, vs, ge, gc, gd, gf⟩)
  · rw [if_pos (by simp : (Value.ref T != Value.none) = true)]
    refine wpAny_setField gT fT (Array.getElem?_eq_some_iff.mp t3).1 ?_
    have ot : ∀ b, b ≠ T → (s.heap.update T (Obj.mapFields fun a => a.setIfInBounds 3 ((none : Option Addr).elim Value.none fun f => rawInt f))).get? b = s.heap.get? b := fun b q => Heap.get?_update_other _ _ (Ne.symm q)
    have nin : ∀ b, b ∉ [T] → b ≠ T := fun b q z => q (by rw [z]; exact .head _)
    refine fin _ [T] (fun b z => by rw [List.mem_singleton.mp z]; exact yT) ⟨fun b o q _ _ n => (ot b (nin b n)).trans q, fun b o q _ _ n => ⟨o.slots, (ot b (nin b n)).trans q⟩, fun _ _ _ n _ => n, fun b o q n => ⟨o, (ot b (nin b n)).trans q⟩, fun _ _ q => q, fun _ _ _ q => q, fun b ps q => ⟨#[], by rw [q]; simp⟩⟩ (fun a o q => ?_) ⟨oe, vs, (ot e nT.symm).trans ge, gc, gd, gf⟩
    refine (I.hok a o q).stay (fun b u hb z => (ot b fun w => ?_).trans z) (fun _ z => z) fun _ _ z => z
    subst w
    rcases hb with hb | hb
    · rw [← hb, uT] at q; cases q
    · rw [uT] at hb; cases hb
end
noncomputable def OneCall (X : Cx) (body : List Stmt) (c : Expr) : Prop := ∀ (Q : Flow → Shared → Prop) (E : Value → Shared → Prop) (pins : List (Addr × Obj)) (σ : St) (H : Hp) (s : Shared), Inv X pins σ H s → wpAny (model X.prog X.w) X.A (eval c X.env) (fun _ _ => False) E s → wpAny (model X.prog X.w) X.A (execs body X.env) Q E s
section
variable {X : Cx} {K : PySem.W.Frag} {S : ASp}
theorem one_expr {c : Expr} {pos : Pos} (hs : swapsWith c none pos.line X.env = pure false := by rfl) : OneCall X [.Expr c pos] c := fun Q E pins σ H s I h =>
  wpAny_execs_cons (wpAny_Expr_any (thn h fun _ _ z => z.elim) I.quiet hs)
theorem ps_try0 {body : List Stmt} {t : TS} {h0 : ExceptHandler} {hs : List ExceptHandler} {pos : Pos} (h : PSs X.nox body t) : PS X (.Try body (h0 :: hs) [] [] pos) t := by
  intro pins s σ H D I ht
  refine wpAny_Try_except (wpAny_mono (h pins s σ H D (I.wish _) ht) (fun f s1 q => ?_) fun _ _ z => False.elim z)
  have q' := SP.unwish q
  cases f with
  | next => exact wpAny_execs_nil q'
  | ret v => exact q'
  | brk => exact q'
  | cont => exact q'
theorem ps_or {st : Stmt} {t u : TS} (h1 : PS X st t) (h2 : PS X st u) : PS X st (fun D σ H => t D σ H ∨ u D σ H) := fun pins s σ H D I h => h.elim (h1 pins s σ H D I) (h2 pins s σ H D I)
end
end L2
set_option Elab.async false
set_option linter.all false
set_option maxRecDepth 100000
namespace L2
open PySem PySem.Spec PyProof.Rows PySem.W
section
variable {prog : Program} {w : World} {A : Around} {E : Value → Shared → Prop} {s : Shared} {K : PySem.W.Frag} {x D : Addr} {ox : Obj} {odo : Option Obj}
theorem exc_class {Q : Option Value → Shared → Prop} (KX : K.In s.heap) (I : PySem.W.InstAt s.heap x ox D odo) (hga : findIn K (.ref D) "__getattribute__" = some (some (.builtin "BaseException.__getattribute__"))) (hgn : findIn K (.ref D) "__getattr__" = some none)
    (hf : findObj K D odo "__class__" = some (.bind (.builtin "getset_descriptor.__get__") (.builtin "object.__class__"))) (hm : mroIn K D (.type "object") = some true) (hb : subIn K (.ref D) (.type "BaseException") = some true)
    (h : Q (some (.ref D)) { s with toks := s.toks + 1 }) : wpAny (model prog w) A (getAttr? (.ref x) "__class__") Q E s := by
  obtain ⟨hh, g, d, t, os⟩ := s
  have L0 := I.type (M := model prog w)
  have L1 := looks_findIn (M := model prog w) KX hga
  have L2 := looks_findIn (M := model prog w) KX hgn
  have L3 := looks_find (M := model prog w) KX I hf
  have L4 := looks_subIn (M := model prog w) KX hb
  have f3 := PySem.F.excAttr_ValueError.ga.bind (.ref x)
  have hk : builtinKind "BaseException.__getattribute__" = some .slot := by decide +kernel
  have hsp : splitId "BaseException.__getattribute__" = some ("BaseException", "__getattribute__") := by decide +kernel
  have ha := PySem.F.args_bexc_ga (.ref x) (.str "__class__" t)
  unfold getAttr? getAttrBy? getAttrBy
  refine wpAny_bind (wpAny_mkText (wpAny_bind (wpAny_attempt (wpAny_holding (wpAny_bind (L0.at (wpAny_bind (L1.at ?_))))))))
  show wpAny _ _ (getAttrByItsOwn _ _ _ _ _ _) _ _ _
  unfold getAttrByItsOwn
  repeat (any_goals (first | assumption | with_reducible refine L0.at ?_ | with_reducible refine L1.at ?_ | with_reducible refine L2.at ?_ | wp_step))
  refine codeAny_call_builtin PySem.F.excAttr_ValueError.ga.plain PySem.F.entry_bexc_ga ?_
  simp only [checkBuiltinCall, hk, hsp]
  refine wpAny_bind ?_
  unfold isInstance
  repeat (any_goals (first | assumption | with_reducible refine L0.at ?_ | with_reducible refine L4.at ?_ | with_reducible refine L3.at ?_ | wp_step))
  refine class_get (s := ⟨hh, g, d, t + 1, os⟩) (ox := ox) (od := odo) KX I hm ?_
  show wpAny _ _ (ret (.ref D)) _ _ _
  refine wpAny_pure ?_
  exact handed_on rfl (wpAny_pure h)
end
structure ExIs (K : PySem.W.Frag) (C : Addr) : Prop where
  ga : findIn K (.ref C) "__getattribute__" = some (some (.builtin "BaseException.__getattribute__"))
  gn : findIn K (.ref C) "__getattr__" = some none
  cl : findObj K C none "__class__" = some (.bind (.builtin "getset_descriptor.__get__") (.builtin "object.__class__"))
  mo : mroIn K C (.type "object") = some true
  be : subIn K (.ref C) (.type "BaseException") = some true
  is : (clsIn K C).isSome = true
theorem ExIs.of {K : PySem.W.Frag} {C : Addr} (ga : findIn K (.ref C) "__getattribute__" = some (some (.builtin "BaseException.__getattribute__"))) (gn : findIn K (.ref C) "__getattr__" = some none) (hc : hasDictIn K C = true) (ha : findIn K (.ref C) "__class__" = some (some (.builtin "object.__class__")))
    (hn : specialIn K (.builtin "object.__class__") "__get__" = some (some (.builtin "getset_descriptor.__get__"))) (ht : takesIn K (.builtin "object.__class__") = some true) (mo : mroIn K C (.type "object") = some true) (be : subIn K (.ref C) (.type "BaseException") = some true) : ExIs K C := by
  obtain ⟨cd, hcd, _⟩ := any_some hc
  refine ⟨ga, gn, ?_, mo, be, by rw [hcd]; rfl⟩
  unfold findObj
  rw [hcd, Option.bind_some, ha, Option.bind_some]
  simp only [hn, ht, Option.bind_some]
theorem kitx_exc {K : PySem.W.Frag} {a C : Addr} {oe : Obj} (q : ExIs K C) : KitX K (.ref a) (.ref C) (fun h => PySem.W.InstAt h a oe C none) where
  ty := fun _ _ _ I => I.type
  it := fun _ _ KX _ => by
    have z := q.is
    unfold clsIn at z
    split at z
    next lk =>
      intro A' Q' E' s' k w
      unfold isType loadHead
      exact wpAny_bind (wpAny_loadPart (k _ _ (KX _ _ lk)) (wpAny_pure w))
    · cases z
  ne := fun h tp dd its n sl KX g => Bool.eq_false_iff.mpr fun e => by
    have e' : C = tp := Value.ref.inj (beq_iff_eq.mp e)
    subst e'
    have z := q.is
    unfold clsIn at z
    split at z
    next lk => cases (KX _ _ lk).symm.trans g
    · cases z
  ca := fun KX I k => exc_class KX I q.ga q.gn q.cl q.mo q.be k
section
variable {Y : Cx} {a C Dc : Addr} {oe : Obj} {vs : Array Value} {b : Bool}
end
section
variable {K : PySem.W.Frag} {pr : Nat → Bool} {t u : TS} {a b : AS} {S : ASp} {ts : TA} {as : AA} {th : Addr → TS} {ah : AS} {i : Nat}
noncomputable def aOr2 (a b : AS) : AS := fun k ρ => a k ρ ∨ b k ρ
theorem sok_or (h1 : TSok K pr t a) (h2 : TSok K pr u b) : TSok K pr (fun D σ H => t D σ H ∨ u D σ H) (aOr2 a b) := fun F σ ρ H D e hp r ha k => ha.elim (fun z => .inl (h1 F σ ρ H D e hp r z k)) fun z => .inr (h2 F σ ρ H D e hp r z k)
end
end L2
set_option Elab.async false
set_option linter.all false
set_option maxRecDepth 100000
namespace L2
open PySem PySem.Spec PyProof.Rows PySem.W
section
variable {X : Cx} {pins : List (Addr × Obj)} {σ σ1 : St} {H H1 : Hp} {s s1 : Shared} {h' : Heap} {e C : Addr}
noncomputable def mcx (X : Cx) (e : Addr) : Cx := { X with A := X.A.mark (some (.ref e)), calm := false, xe := fun _ _ => False }
theorem Inv.mcx (I : Inv X pins σ H s) (e : Addr) : Inv (mcx X e) pins σ H s :=
  ⟨⟨I.ok.mod, I.ok.kind, I.ok.glob, I.ok.blt, I.ok.above, I.ok.inj, I.ok.has, I.ok.cab, fun z => (nomatch z), I.ok.frames, I.ok.stk, I.ok.exf, I.ok.bs, I.ok.bsz, I.ok.noex, I.ok.exfs, I.ok.funs, I.ok.frf⟩, I.os, I.bare, I.base, I.loc, I.cell, I.free, I.freeC, I.pin, I.hok, I.len⟩
theorem Inv.trackX {od : Option Addr} (I1 : Inv X pins σ1 H1 s1) (I : Inv X pins σ H s) (hex : X.ex = []) (ue : H e = none) (y : s1.heap.get? e = none) (hp : exP e C od s.heap) : Inv X pins σ (upd H e (.ext (exP e C od))) s := by
  obtain ⟨oe, vs, ge, gc, gd, gf⟩ := id hp
  have y0 := I1.back0 hex y
  have ne : ∀ {b : Addr} {o : HO}, H b = some o → b ≠ e := fun z w => by rw [w, ue] at z; cases z
  have n0 : ∀ b o, X.s₀.heap.get? b = some o → b ≠ e := fun b o q z => by rw [z, y0] at q; cases q
  have nL : X.env.locals ≠ e := fun z => by
    obtain ⟨m1, ⟨o1, _, _, ho1, _⟩, _⟩ := id I1.loc
    rw [z, y] at ho1; cases ho1
  have nC : ∀ x c, X.env.cells.lookup x = some c → c ≠ e := fun x c q z => by
    obtain ⟨v, o1, ho1, _⟩ := I1.cell x c q
    rw [z, y] at ho1; cases ho1
  refine ⟨I.ok, I.os, I.bare, ⟨I.base.keep, I.base.slot, fun b o q n x => ?_, I.base.there, fun b xs q => ?_, fun b o u q => ?_, fun b ps q => ?_⟩, I.loc, I.cell, ?_, fun x c q => ?_, fun p hp' => ?_, fun a o q => ?_, I.len⟩
  · rw [upd_ne (n0 b o q)]; exact I.base.free b o q n x
  · have := I.base.tups b xs q
    rw [upd_ne (ne this)]; exact this
  · have := I.base.frzs b o u q
    rw [upd_ne (ne this)]; exact this
  · obtain ⟨more, this⟩ := I.base.tbls b ps q
    exact ⟨more, by rw [upd_ne (ne this)]; exact this⟩
  · rw [upd_ne nL]; exact I.free
  · rw [upd_ne (nC x c q)]; exact I.freeC x c q
  · obtain ⟨p1, p2, p3, p4, p5⟩ := I.pin p hp'
    refine ⟨p1, ?_, p3, p4, p5⟩
    rw [upd_ne fun z => ?_]
    · exact p2
    · have := (I1.pin p hp').1
      rw [z, y] at this; cases this
  · by_cases z : a = e
    · subst z
      rw [upd_same] at q
      cases q
      exact ⟨hp, ⟨oe, ge⟩, fun h1 h2 ⟨oe, vs, g1, g2, g3, g4⟩ k => ⟨oe, vs, k _ g1, g2, g3, g4⟩⟩
    · rw [upd_ne z] at q
      exact (I.hok a o q).stay (fun _ _ _ w => w) (fun b w => by rw [upd_ne (ne w)]; exact w) fun b xs w => by rw [upd_ne (ne w)]; exact w
theorem Inv.goes {m : Str → Option Value} {v : Option Value} {n : Str} {i : Nat} {t' : Nat} (I : Inv (L2.mcx X e) pins σ H s) (ok : X.Ok) (hN : X.N.Nodup) (hi : X.N[i]? = some n) (hm : ∀ (i : Nat) (x : Str) (v : V), X.N[i]? = some x → σ[i]? = some (some v) → Vis X.env.scope x → ∃ u, RelV v u ∧ Look X.env s.heap m x u) (sb : Heap.SameBut X.env.locals s.heap h') (hn : h'.Ns X.env.locals (fun x => if x = n then v else m x)) :
    Inv X pins (σ.set i none) H { s with heap := h', toks := t' } := by
  have kp : ∀ b o, b ≠ X.env.locals → s.heap.get? b = some o → h'.get? b = some o := fun b o n q => (sb.2 b n).trans q
  have n0 : ∀ b o, X.s₀.heap.get? b = some o → b ≠ X.env.locals := fun b o q => Nat.ne_of_lt (Nat.lt_of_lt_of_le (Heap.lt_size q) I.ok.above)
  have cl : ∀ x c, X.env.cells.lookup x = some c → c ≠ X.env.locals := fun x c q z => by
    obtain ⟨v, oc, hoc, hdc⟩ := I.cell x c q
    obtain ⟨m, ⟨o, es, ep, ho, hdo, _⟩, _⟩ := id I.loc
    rw [z] at hoc
    cases hoc.symm.trans (show s.heap.get? X.env.locals = some o from ho)
    rw [hdc] at hdo; cases hdo
  refine ⟨ok, I.os, I.bare, ⟨fun b o q n f x => kp b o (n0 b o q) (I.base.keep b o q n f x), fun b o q n f x => ?_, I.base.free, fun b o q x => ?_, I.base.tups, I.base.frzs, I.base.tbls⟩, ⟨_, hn, fun j x v' a1 a2 a3 => ?_⟩, fun x c q => ?_, I.free, I.freeC, fun p hp => ?_, fun a o q => ?_, by rw [List.length_set]; exact I.len⟩
  · obtain ⟨sl, q'⟩ := I.base.slot b o q n f x
    exact ⟨sl, kp b _ (n0 b o q) q'⟩
  · obtain ⟨o', q'⟩ := I.base.there b o q x
    exact ⟨o', kp b o' (n0 b o q) q'⟩
  · have ij : i ≠ j := fun z => by
      subst z
      have : i < σ.length := by rw [I.len]; exact (List.getElem?_eq_some_iff.mp hi).1
      rw [List.getElem?_set_self this] at a2; cases a2
    rw [List.getElem?_set_ne ij] at a2
    obtain ⟨u, ru, lk⟩ := hm j x v' a1 a2 a3
    refine ⟨u, ru, ?_⟩
    have xn : x ≠ n := fun z => by
      subst z
      have l1 := (List.getElem?_eq_some_iff.mp hi).1
      have := (List.getElem?_inj l1 hN).mp (hi.trans a1.symm)
      exact ij this
    rcases lk with ⟨z1, z2⟩ | ⟨z1, c, z2, oc, z3, z4⟩
    · exact .inl ⟨z1, by show (if x = n then v else m x) = some u; rw [if_neg xn]; exact z2⟩
    · exact .inr ⟨z1, c, z2, oc, kp c oc (cl x c z2) z3, z4⟩
  · obtain ⟨v, oc, hoc, hdc⟩ := I.cell x c q
    exact ⟨v, oc, kp c oc (cl x c q) hoc, hdc⟩
  · obtain ⟨p1, p2, p3, p4, p5⟩ := I.pin p hp
    exact ⟨kp _ _ p3 p1, p2, p3, p4, p5⟩
  · refine (I.hok a o q).stay (fun b u hb z => kp b u (fun w => ?_) z) (fun _ z => z) fun _ _ z => z
    have fr : H b = none := by rw [w]; exact I.free
    rcases hb with hb | hb
    · rw [← hb, fr] at q; cases q
    · rw [fr] at hb; cases hb
end
theorem ex_matchB {M : Model} {A : Around} {E : Value → Shared → Prop} {h : Heap} {g : Array GenState} {d : Drawn} {t : Nat} {os : OsState} {e C Dc : Addr} {oe : Obj} {x y : Str} {mg : Str → Option Value} {Q : Bool → Shared → Prop} {b : Bool}
    (oC : OwnCls x C bmV "ValueError.__new__" mg h) (oD : OwnCls y Dc bmV "ValueError.__new__" mg h) (ge : h.get? e = some oe) (gc : oe.cls = .ref C) (hs : ∀ (A' : Around) (E' : Value → Shared → Prop) (Q' : Bool → Shared → Prop), Q' b ⟨h, g, d, t, os⟩ → wpAny M A' (isSubtype (.ref C) (.ref Dc)) Q' E' ⟨h, g, d, t, os⟩)
    (hq : Q b ⟨h, g, d, t, os⟩) : wpAny M A (excMatches (.ref e) (.ref Dc)) Q E ⟨h, g, d, t, os⟩ := by
  obtain ⟨b1, N1, m1, q1, s1, c1, n1, u1, a1, l1, d1, k10, k11, k12, k13, k15, M1, hC, _, _, T1⟩ := oC.obj
  obtain ⟨b2, N2, m2, q2, s2, c2, n2, u2, a2, l2, d2, k20, k21, k22, k23, k25, M2, hD, _, _, T2⟩ := oD.obj
  have hB : (Value.ref Dc :: b2).contains (.type "BaseException") = true := by rw [List.contains_cons, T2.hasType (b := true) (by decide +kernel), Bool.or_true]
  have f := tc_notTuple
  unfold excMatches
  repeat (first | (with_reducible refine wpAny_loadPart_at ge ?_; rw [gc]) | with_reducible refine wpAny_loadPart_at hD ?_ | (with_reducible refine wpAny_isSubtype_exc hD ?_; rw [hB]) | wp_step)
  refine hs _ _ _ ?_
  cases b with
  | true =>
    repeat wp_step
    exact hq
  | false =>
    repeat wp_step
    exact hq
noncomputable def goE (i : Nat) (D : Ends) : Ends := { nx := fun σ H => D.nx (σ.set i none) H, rt := D.rt, bk := fun σ H => D.bk (σ.set i none) H, ct := fun σ H => D.ct (σ.set i none) H }
section
variable {X : Cx} {K : PySem.W.Frag} {S : ASp}
theorem catch_yes {i : Nat} {y z n : Str} {C Dc a : Addr} {np hpos : Pos} {suite : List Stmt} {b0 : Stmt} {rest : List ExceptHandler} {th : TS} {D : Ends} {pins : List (Addr × Obj)} {σ : St} {H1 H2 : Hp} {s1 s3 : Shared}
    (hex : X.ex = []) (hz : X.mg z = some (.ref C)) (hy : X.mg y = some (.ref Dc)) (q1 : PySem.W.excIn X.K C bmV "ValueError.__new__" = true) (q2 : PySem.W.excIn X.K Dc bmV "ValueError.__new__" = true) (q3 : PySem.W.subIn X.K (.ref C) (.ref Dc) = some true)
    (hN : X.N.Nodup) (hi : X.N[i]? = some n) (hloc : X.env.scope.names.lookup n = some .local) (hh : ∀ a, PSs (mcx X a) (b0 :: suite) th) (hgy : Gl X y) (hdy : (y == ("__debug__" : Str)) = false)
    (I1 : Inv X pins σ H1 s1) (I3 : Inv X pins σ H2 s3) (hot3 : Hot s1.heap s3.heap H2 a C) (hW : th (goE i D) (σ.set i (some (.ref a))) (upd H2 a (.ext (exP a C none)))) :
    wpAny (model X.prog X.w) X.A (handleBy (.ref a) X.env (.ExceptHandler (some (.Name y np)) (some n) (b0 :: suite) hpos :: rest)) (SP X pins D) X.xe s3 := by
  obtain ⟨oe3, vs3, hv3, ge3, gc3, gd3, gf3, g13, y3, u3, hh3⟩ := id hot3
  refine wpAny_handleBy_cons (codeAny_handlers_test (ld_glob (I3.mcx a) hgy hy ?_ hdy)) (by intro q; cases q)
  refine ex_matchB (b := true) (own_cls I3.kIn hz q1) (own_cls I3.kIn hy q2) ge3 gc3 (fun A' E' Q' q => (PySem.W.looks_subIn I3.kIn q3).at q) (codeAny_handlers_suite_as ?_)
  refine sfI I3 hot3 fun h4 ch4 hch4 un4 hok4 hZq => ?_
  obtain ⟨oe4, vs4, ge4, gc4, gd4, gf4⟩ := hZq
  have I4 := Inv.hot I1 I3 hex un4 hok4 hch4
  have I4' := (Inv.trackX (C := C) (od := none) I1 I4 hex u3 y3 ⟨oe4, vs4, ge4, gc4, gd4, gf4⟩).mcx a
  refine store_ok2 (X := L2.mcx X a) (v := .ref a) I4' hN hi (.inl hloc) rfl (fun s5 I5 _ => ?_) (.inr hloc)
  refine wpAny_mono (hh a pins s5 _ _ (goE i D) I5 hW) (fun fl s6 q6 => ?_) fun _ _ z => False.elim z
  have go : ∀ {σ6 : St} {H6 : Hp} {Q : Unit → Shared → Prop}, Inv (L2.mcx X a) pins σ6 H6 s6 → (∀ s7, Inv X pins (σ6.set i none) H6 s7 → Q () s7) → wpAny (model X.prog X.w) X.A (do bindName X.env n .none; unbindBehindTheSuite X.env n hpos) Q X.xe s6 := fun I6 k => by
    obtain ⟨m6, hn6, hm6⟩ := id I6.loc
    refine wpAny_nameGoes_keeps hloc hn6 (by show (X.env.scope.kind == _ || _) = _; rw [I3.ok.kind]; rfl) fun h7 v7 hn7 hs7 => ?_
    exact k _ (I6.goes I3.ok hN hi hm6 hs7 hn7)
  cases fl with
  | next => obtain ⟨σ6, H6, I6, q⟩ := q6; exact go I6 fun s7 I7 => ⟨_, H6, I7, q⟩
  | brk => obtain ⟨σ6, H6, I6, q⟩ := q6; exact go I6 fun s7 I7 => ⟨_, H6, I7, q⟩
  | cont => obtain ⟨σ6, H6, I6, q⟩ := q6; exact go I6 fun s7 I7 => ⟨_, H6, I7, q⟩
  | ret u => obtain ⟨v, σ6, H6, I6, rv, q⟩ := q6; exact go I6 fun s7 I7 => ⟨v, _, H6, I7, rv, q⟩
theorem ps_try2 {k i : Nat} {x y n : Str} {ps : List Str} {C Dc : Addr} {p cpos np hpos pos : Pos} {e : Expr} {es : List Expr} {t : TA} {body suite : List Stmt} {b0 : Stmt} {th : TS} (z : Str)
    (F : OkX X.prog X.w X.K X.mg X.base k x ps C (spA K S)) (hr : Room k X.A) (hc : X.calm = true) (hex : X.ex = []) (hst : X.stack = X.env :: X.outer) (hfr : X.env.frame = some X.env.locals) (ha : PA X.nox (e :: es) t)
    (hb1 : OneCall X body (.Call (.Name x p) (e :: es) [] cpos)) (hz : X.mg z = some (.ref C)) (hy : X.mg y = some (.ref Dc)) (q1 : PySem.W.excIn X.K C bmV "ValueError.__new__" = true) (q2 : PySem.W.excIn X.K Dc bmV "ValueError.__new__" = true) (q3 : PySem.W.subIn X.K (.ref C) (.ref Dc) = some true)
    (hN : X.N.Nodup) (hi : X.N[i]? = some n) (hloc : X.env.scope.names.lookup n = some .local)
    (hh : ∀ a, PSs (mcx X a) (b0 :: suite) th)
    (hg : Gl X x := by rfl) (hgy : Gl X y := by rfl) (hdb : (x == ("__debug__" : Str)) = false := by decide) (hdy : (y == ("__debug__" : Str)) = false := by decide) (he : starEach (e :: es) X.env = (false, eval e X.env) :: starEach es X.env := by rfl) (hpl : (backTo cpos (starEach es X.env)).any (·.1) = false := by rfl) :
    PS X (.Try body [.ExceptHandler (some (.Name y np)) (some n) (b0 :: suite) hpos] [] [] pos) (fun D σ H => t σ H fun vs H1 => spA K S (vs ++ []) H1 (fun _ H' => ∀ a, H' a = none → th (goE i D) (σ.set i (some (.ref a))) (upd H' a (.ext (exP a C none)))) E0) := by
  intro pins s σ H D I h
  obtain ⟨f, fd, hm, hk, hb, F⟩ := F.ex
  refine wpAny_Try_except (hb1 _ _ pins σ H _ I ?_)
  refine wpAny_Call_Name_kw (ld_glob I hg hm ?_ hdb)
  refine PySem.W.callWith_K (h₀ := X.base) I.ok.mod.kin hk (wpAny_mono (ha cpos pins s σ H _ (I.wish _) h) (fun us s1 ⟨vs, H1, I1w, r, q⟩ => ⟨I1w.unwish.kIn, ?_⟩) fun _ _ z => False.elim z) he hpl
  have I1 := I1w.unwish
  have q' : spX C (spA K S) (vs ++ []) H1 (fun _ _ => False) (fun _ cls H' => cls = some C ∧ ∀ a, H' a = none → th (goE i D) (σ.set i (some (.ref a))) (upd H' a (.ext (exP a C none)))) := by
    obtain ⟨ss, Z, q', a1, a2, a3⟩ := q
    exact ⟨ss, Z, q', a1, a2, fun r ss' v H' b1 b2 b3 b4 _ => ⟨rfl, a3 r ss' v H' b1 b2 b3 b4⟩⟩
  have hl : (us ++ []).length = ps.length := by
    rw [← (r.append (.nil : Vals [] [])).length]
    exact F.len (vs ++ []) H1 _ _ q'
  refine wpAny_call (codeAny_mono (F.run X.A X.stack s1 H1 ⟨us, []⟩ (us ++ []) (vs ++ []) _ _ hr I1.env0 (hb s1 us I1.kIn hl) (r.append .nil) q') fun rr s2 hq => ?_)
  cases rr with
  | ok fl =>
    cases fl with
    | ret u => obtain ⟨_, _, _, _, _, _, _, z⟩ := hq; exact z.elim
    | next => exact False.elim hq
    | brk => exact False.elim hq
    | cont => exact False.elim hq
  | error ev =>
    obtain ⟨a, C', H2, rfl, os, bare, un, hok, hot, hC, hW⟩ := hq
    cases hC
    have I2 : Inv X pins σ H2 s2 := I1.call' os un hok bare fun b z => nomatch z
    have sub1 : ∀ b o, s1.heap.get? b = some o → b < s2.heap.objs.size := fun b o q => by
      obtain ⟨o', q'⟩ := un.there b o q fun z => nomatch z
      exact Heap.lt_size q'
    refine lvI I2 hst hfr sub1 hot fun h3 ch3 hch3 _ un3 hok3 hot3 => ?_
    have I3 := Inv.hot I1 I2 hex un3 hok3 fun b hb => (hch3 b hb).1
    obtain ⟨oe3, vs3, hv3, ge3, gc3, gd3, gf3, g13, y3, u3, hh3⟩ := id hot3
    exact catch_yes hex hz hy q1 q2 q3 hN hi hloc hh hgy hdy I1 I3 hot3 (hW a u3)
end
section
variable {X : Cx} {R : VK} {E : XK} {C : Addr} {K : PySem.W.Frag} {S : ASp}
theorem psr_or {st : Stmt} {t u : TS} (h1 : PSr X R st t) (h2 : PSr X R st u) : PSr X R st (fun D σ H => t D σ H ∨ u D σ H) := fun pins s σ H D e I h => h.elim (h1 pins s σ H D e I) (h2 pins s σ H D e I)
theorem psr_ret {k : Nat} {x : Str} {ps : List Str} {p cpos pos : Pos} {e : Expr} {es : List Expr} {t : TA} (F : OkX X.prog X.w X.K X.mg X.base k x ps C (spA K S)) (hr : Room k X.A) (hx : Passes (CX1 X.prog X.w) X E) (ha : PA X.nox (e :: es) t) (hg : Gl X x := by rfl)
    (hdb : (x == ("__debug__" : Str)) = false := by decide) (he : starEach (e :: es) X.env = (false, eval e X.env) :: starEach es X.env := by rfl) (hpl : (backTo cpos (starEach es X.env)).any (·.1) = false := by rfl) :
    PSr X (XW E C) (.Return (some (.Call (.Name x p) (e :: es) [] cpos)) pos) (tRet (tCall (spA K S) [] E0 t)) := by
  obtain ⟨f, fd, hm, hk, hb, F⟩ := F.ex
  intro pins s σ H D e1 I h
  have pe := pe_call (p := p) (sp := spX C (spA K S)) (E := E) F hr hg hm hk hb .nil hx ha.nox hdb he hpl
  have h' : tCall (spX C (spA K S)) [] E t σ H fun _ _ => False := by
    have h2 : t σ H fun vs H1 => spA K S (vs ++ []) H1 D.rt E0 := h
    rw [e1] at h2
    exact h2
  exact wpAny_Return_some (thn (pe pins s σ H _ I h') fun v s1 ⟨_, _, _, _, q1⟩ => q1.elim)
end
section
variable {Y : Cx} (K : PySem.W.Frag)
noncomputable def rIsX (K : PySem.W.Frag) (c : V) (u : Value) : List V → Hp → VK → Prop := fun xs H Q => ∃ a C b, xs = [.ref a, c] ∧ H a = some (.ext (exP a C none)) ∧ ExIs K C ∧ kitOne K (.ref C) u = some b ∧ Q (.bl b) H
theorem inst_ext {pins : List (Addr × Obj)} {σ : St} {H : Hp} {s : Shared} {a C : Addr} (I : Inv Y pins σ H s) (h : H a = some (.ext (exP a C none))) : ∃ oe, PySem.W.InstAt s.heap a oe C none := by
  obtain ⟨⟨oe, vs, ge, gc, gd, gf⟩, _, _⟩ := I.hok a _ h
  exact ⟨oe, ge, gc, by unfold notCls; rw [gf], by rw [gd]; trivial⟩
theorem call_isaX {c : V} {u : Value} (rc : ∀ u', RelV c u' → u' = u) (hK : Y.K = K := by rfl) : CallR Y (.builtin "isinstance") (rIsX K c u) := by
  subst hK
  intro pins s σ H xs us Q I r h
  obtain ⟨a, C, b, rfl, hH, q, hk, h⟩ := h
  cases r with
  | cons r1 rr =>
    cases rr with
    | cons r2 rr =>
      cases rr
      cases (show _ = Value.ref a from r1)
      rw [rc _ r2]
      obtain ⟨oe, it⟩ := inst_ext I hH
      exact kia_one (kitx_exc q) I.kIn it hk (by intro z; cases z) fun tk => ⟨.bl b, H, I.tok tk, rfl, h⟩
noncomputable def rCountB (K : PySem.W.Frag) : V → List V → Hp → VK → Prop := fun x vs H Q => ∃ (l : Addr) (bs : List Bool) (k : Bool), x = .ref l ∧ vs = [.bl k] ∧ SqL K H l (bs.map V.bl) ∧ Q (.int (bs.count k : Nat)) H
theorem mt_countB (hK : Y.K = K := by rfl) : MtR Y "list.count" (rCountB K) := by
  subst hK
  intro pins s σ H x vs v us Q I rx rv h
  obtain ⟨l, bs, k, rfl, rfl, hq, q⟩ := h
  cases rx
  obtain ⟨u, rfl, ru⟩ := rv.one
  cases ru
  obtain ⟨its, r, pl, hz⟩ := I.list hq
  obtain ⟨⟨cl, dd, dt, sl⟩, n, e, c1, c2, c3⟩ := pl
  simp only at c1 c2 c3
  subst c1 c2 c3
  have all : ∀ {bs : List Bool} {its : List Value}, Vals (bs.map V.bl) its → its = bs.map Value.bool := by
    intro bs
    induction bs with
    | nil => intro its r; cases r; rfl
    | cons b bs ih => intro its r; cases r with | cons r1 rr => rw [ih rr, show _ = Value.bool b from r1]; rfl
  have ei := all r
  subst ei
  refine call_meets PySem.F.slot_list_count ⟨_, e, rfl⟩ PySem.F.entry_list_count (PySem.F.args_list_count_2 _ _) (SeqAt.list_countAt l (bs.map Value.bool).toArray n none sl (.bool k) (isBoolOf k)) ⟨e, fun y hy => ?_, ?_⟩
  · have hy' : y ∈ bs.map Value.bool := by simpa using hy
    obtain ⟨b, _, rfl⟩ := List.mem_map.mp hy'
    exact SeqAt.EqAt.bool_bool b k
  · have ec : (bs.map Value.bool).toArray.toList.countP (isBoolOf k) = bs.count k := by
      show (bs.map Value.bool).countP (isBoolOf k) = bs.count k
      rw [List.countP_map]; rfl
    rw [ec]
    exact ⟨.int (bs.count k : Nat), H, I.tok _, ⟨s.toks, rfl⟩, q⟩
end
section
variable {K : PySem.W.Frag} {pr : Nat → Bool} {F : Fr} {σ : St} {ρ : En} {H : Hp} {th : TS} {ah : AS} {S : ASp} {ts : TA} {as : AA} {ta : TE} {a : AE}
theorem Rel.gone (r : Rel K F σ ρ H) {i : Nat} (hm : ∀ a, ¬ F.pin i a) : Rel K F (σ.set i none) (pt ρ i .un) H := by
  rcases Nat.lt_or_ge i ρ.length with hi | hi
  case inr =>
    rw [pt_out ρ i .un hi, List.set_eq_of_length_le (by rw [r.len]; exact hi)]; exact r
  have sub : ∀ a, owned (σ.set i none) (pt ρ i .un) a → owned σ ρ a := fun a ⟨j, hj, e⟩ => by
    obtain ⟨ij, hj⟩ := own_set rfl hj
    rw [List.getElem?_set_ne ij] at e
    exact ⟨j, hj, e⟩
  have vis : Same (hid H (hs F σ ρ)) (hid H (hs F (σ.set i none) (pt ρ i .un))) := hid_same fun a o e n => ⟨e, fun z => n (z.imp id (sub a))⟩
  refine ⟨by rw [List.length_set, pt_len, r.len], r.fr, r.zl, fun a h => r.zo a (sub a h), fun j a hj e => ?_, fun j a h => ?_, r.ml, r.ma, fun j k a hj hk ej ek => ?_, fun j => ?_⟩
  · obtain ⟨ij, hj⟩ := own_set rfl hj
    rw [List.getElem?_set_ne ij] at e
    exact r.ow j a hj e
  · have : i ≠ j := fun e => hm a (e ▸ h)
    rw [List.getElem?_set_ne this]; exact r.mi j a h
  · obtain ⟨nj, hj⟩ := own_set rfl hj
    obtain ⟨nk, hk⟩ := own_set rfl hk
    rw [List.getElem?_set_ne nj] at ej
    rw [List.getElem?_set_ne nk] at ek
    exact r.nd j k a hj hk ej ek
  · by_cases ij : i = j
    · subst ij
      rw [gt_pt ρ i .un hi]; trivial
    · rw [gt_pt_ne ρ i j _ ij, List.getElem?_set_ne ij]
      exact (r.sl j).keep vis fun _ _ _ _ e => e
noncomputable def goA (i : Nat) (k : AEnds) : AEnds := ⟨fun ρ => k.nx (pt ρ i .un), k.rt, fun ρ => k.bk (pt ρ i .un), fun ρ => k.ct (pt ρ i .un)⟩
noncomputable def aCatch (C : Addr) (i : Nat) (ah : AS) : AS := fun k ρ => ah (goA i k) (pt ρ i (.ex C none))
theorem sok_try2 {C : Addr} {i : Nat} (hi : pr i = false) (ht : TAok K ts as) (hh : TSok K pr th ah) :
    TSok K pr (fun D σ H => ts σ H fun vs H1 => spA K S (vs ++ []) H1 (fun _ H' => ∀ a, H' a = none → th (goE i D) (σ.set i (some (.ref a))) (upd H' a (.ext (exP a C none)))) E0) (aSeq (aDrop (aCall S as)) (aCatch C i ah)) := by
  intro F σ ρ H D k hp r ha ko
  have np := nopin hp hi
  refine sok_drop (pr := pr) (tok_call (E := E0) ht) F σ ρ H { D with nx := fun σ' H' => ∀ a, H' a = none → th (goE i D) (σ'.set i (some (.ref a))) (upd H' a (.ext (exP a C none))) } { k with nx := aCatch C i ah k } hp r ha ⟨fun σ' ρ' H' z r' a hn => ?_, ko.bk, ko.ct, ko.rt⟩
  have rf := (r'.fresh (o := .ext (exP a C none)) hn).setS (i := i) (v := .ref a) (s := .ex C none) rfl ⟨a, none, rfl, hid_of (fresh_vis r' hn) upd_same, trivial⟩ np
  exact hh F _ _ _ (goE i D) (goA i k) hp rf z ⟨fun σ2 ρ2 H2 q r2 => ko.nx _ _ _ q (r2.gone np), fun σ2 ρ2 H2 q r2 => ko.bk _ _ _ q (r2.gone np), fun σ2 ρ2 H2 q r2 => ko.ct _ _ _ q (r2.gone np), ko.rt⟩
noncomputable def aIsX (K : PySem.W.Frag) (i : Nat) (u : Value) : AE := fun ρ q => match gt ρ i with
  | .ex C none => ∃ b, ExIs K C ∧ kitOne K (.ref C) u = some b ∧ q (.d (.bl b)) ρ
  | _ => False
theorem tok_isX {i : Nat} {c : V} {u : Value} : TEok K (tCB (rIsX K c u) (tCons (tVar i) (tCons (tC c) tNil))) (aIsX K i u) := by
  intro F σ ρ H q Q a h b
  have s := a.sl i
  unfold aIsX at h
  split at h
  · rename_i C hg
    rw [hg] at s
    obtain ⟨e, od, e1, e2, e3⟩ := s
    obtain ⟨b', h1, h2, h3⟩ := h
    cases od with
    | some dx => exact e3.elim
    | none => exact ⟨.ref e, e1, e, C, b', rfl, (hid_some.mp e2).2, h1, h2, b.bl a h3⟩
  · exact h.elim
@[irreducible] noncomputable def gCnt (ds : List D) (k : Bool) (q : Nat → Prop) : Prop := ∃ bs : List Bool, ds = bs.map D.bl ∧ q (bs.count k)
theorem gCnt_ok {bs : List Bool} {k : Bool} {q : Nat → Prop} (h : q (bs.count k)) : gCnt (bs.map D.bl) k q := by unfold gCnt; exact ⟨bs, rfl, h⟩
theorem repBls2 {Hh : Hp} : ∀ {bs : List Bool} {vs : List V}, RepDs K Hh vs (bs.map D.bl) → vs = bs.map V.bl
  | [], [], _ => rfl
  | b :: bs, v :: vs, h => by
    unfold RepDs at h
    obtain ⟨h1, h2⟩ := h
    unfold RepD at h1
    rw [h1, repBls2 h2]; rfl
  | [], _ :: _, h => by unfold RepDs at h; exact h.elim
  | _ :: _, [], h => by unfold RepDs at h; exact h.elim
noncomputable def aCnt (a : AE) (as : AA) : AE := fun ρ q => a ρ fun r ρ1 => match view ρ1 r.frz with
  | some (.lst ds) => as ρ1 fun rs ρ2 => (match rs with
    | [.d (.bl k)] => gCnt ds k fun j => ρ1 = ρ2 ∧ q (.d (.int (j : Nat))) ρ2
    | _ => False)
  | _ => False
theorem tok_cnt (ha : TEok K ta a) (hs' : TAok K ts as) : TEok K (tBM K "list" (rCountB K) ta ts) (aCnt a as) := by
  intro F σ ρ H q Q r h k
  refine ha F σ ρ H _ _ r h fun r1 ρ1 x H1 h1 o1 => ?_
  obtain ⟨r1', k1, i1⟩ := o1.inF
  split at h1
  · rename_i ds e
    obtain ⟨l0, us0, rfl, sq0, _⟩ := view_lst r1' i1 e
    refine ⟨.inl ⟨rfl, _, sq0⟩, hs' F σ ρ1 H1 _ _ r1' h1 fun rs ρ2 vs H2 h2 r2 i2 k2 => ?_⟩
    split at h2
    · rename_i y
      obtain ⟨z, rfl, iz⟩ := i2.one
      unfold gCnt at h2
      obtain ⟨bs, rfl, e12, hq⟩ := h2
      subst e12
      obtain ⟨l, us, el, sq, rd⟩ := view_lst r2 (i1.keep k2) e
      rw [repBls2 rd] at sq
      exact ⟨l, bs, y, el, by rw [iz.blv], sq, ((k.after k1).after k2).int r2 hq⟩
    · exact h2.elim
  · exact h1.elim
end
end L2
set_option Elab.async false
set_option linter.all false
set_option maxRecDepth 100000
namespace L2
open PySem PySem.Spec PyProof.Rows Builtin
section
variable {X : Cx} (K : PySem.W.Frag)
end
section
variable {K : PySem.W.Frag}
end
end L2
set_option Elab.async false
set_option linter.all false
set_option maxRecDepth 100000
namespace L2
open PySem PySem.Spec PyProof.Rows
section
variable {K : PySem.W.Frag} {ts : TA} {as : AA}
end
end L2
set_option Elab.async false
set_option linter.all false
set_option maxRecDepth 100000
namespace L2
open PySem PySem.Spec PyProof.Rows
section
variable {K : PySem.W.Frag} {ts : TA} {as : AA}
end
end L2
set_option Elab.async false
set_option linter.all false
set_option maxRecDepth 100000
namespace K95
open PySem PySem.Spec PyProof.Rows L2
noncomputable def top (i : Nat) : Stmt := PySem.Challenge.pw_fewjoins_k95_no_such_width.main.body.getD i (.Pass ⟨0, 0, 0, 0⟩)
noncomputable abbrev s_givens_of : Stmt := top 15
noncomputable abbrev nm_givens_of : List Str := ["row"]
theorem sc_givens_of : FnScope nm_givens_of ["row"] (defScope s_givens_of) := ⟨rfl, rfl, rfl, by decide +kernel, rfl, by decide +kernel, by decide +kernel⟩
noncomputable abbrev s_joining : Stmt := top 17
noncomputable abbrev nm_joining : List Str := ["one", "other"]
theorem sc_joining : FnScope nm_joining ["one", "other"] (defScope s_joining) := ⟨rfl, rfl, rfl, by decide +kernel, rfl, by decide +kernel, by decide +kernel⟩
noncomputable abbrev s_chained : Stmt := top 19
noncomputable abbrev nm_chained : List Str := ["many", "joins", "things", "last", "thing"]
theorem sc_chained : FnScope nm_chained ["many", "joins", "things"] (defScope s_chained) := ⟨rfl, rfl, rfl, by decide +kernel, rfl, by decide +kernel, by decide +kernel⟩
noncomputable abbrev s_running : Stmt := top 22
noncomputable abbrev nm_running : List Str := ["n", "joins", "sums"]
theorem sc_running : FnScope nm_running ["n"] (defScope s_running) := ⟨rfl, rfl, rfl, by decide +kernel, rfl, by decide +kernel, by decide +kernel⟩
noncomputable abbrev s_running_halves : Stmt := top 23
noncomputable abbrev nm_running_halves : List Str := ["n", "joins", "sums"]
theorem sc_running_halves : FnScope nm_running_halves ["n"] (defScope s_running_halves) := ⟨rfl, rfl, rfl, by decide +kernel, rfl, by decide +kernel, by decide +kernel⟩
noncomputable abbrev s_all_but : Stmt := top 24
noncomputable abbrev nm_all_but : List Str := ["n", "clean", "joins", "outs"]
theorem sc_all_but : FnScope nm_all_but ["n", "clean"] (defScope s_all_but) := ⟨rfl, rfl, rfl, by decide +kernel, rfl, by decide +kernel, by decide +kernel⟩
noncomputable abbrev s_windows : Stmt := top 25
noncomputable abbrev nm_windows : List Str := ["n", "w", "joins", "sums", "others"]
theorem sc_windows : FnScope nm_windows ["n", "w"] (defScope s_windows) := ⟨rfl, rfl, rfl, by decide +kernel, rfl, by decide +kernel, by decide +kernel⟩
noncomputable abbrev s_neighbours : Stmt := top 26
noncomputable abbrev nm_neighbours : List Str := ["n", "joins"]
theorem sc_neighbours : FnScope nm_neighbours ["n"] (defScope s_neighbours) := ⟨rfl, rfl, rfl, by decide +kernel, rfl, by decide +kernel, by decide +kernel⟩
noncomputable abbrev s_all_sums : Stmt := top 27
noncomputable abbrev nm_all_sums : List Str := ["n", "joins", "things", "row", "others", "greatest"]
theorem sc_all_sums : FnScope nm_all_sums ["n"] (defScope s_all_sums) := ⟨rfl, rfl, rfl, by decide +kernel, rfl, by decide +kernel, by decide +kernel⟩
noncomputable abbrev s_refuse_width : Stmt := top 28
noncomputable abbrev nm_refuse_width : List Str := ["width", "least", "most"]
theorem sc_refuse_width : FnScope nm_refuse_width ["width", "least", "most"] (defScope s_refuse_width) := ⟨rfl, rfl, rfl, by decide +kernel, rfl, by decide +kernel, by decide +kernel⟩
noncomputable abbrev s_running_sums : Stmt := top 29
noncomputable abbrev nm_running_sums : List Str := ["many", "joins", "things", "sums", "thing"]
theorem sc_running_sums : FnScope nm_running_sums ["many", "joins", "things"] (defScope s_running_sums) := ⟨rfl, rfl, rfl, by decide +kernel, rfl, by decide +kernel, by decide +kernel⟩
noncomputable abbrev s_sums_by_halves : Stmt := top 30
noncomputable abbrev nm_sums_by_halves : List Str := ["many", "joins", "things", "half", "front", "others"]
theorem sc_sums_by_halves : FnScope nm_sums_by_halves ["many", "joins", "things"] (defScope s_sums_by_halves) := ⟨rfl, rfl, rfl, by decide +kernel, rfl, by decide +kernel, by decide +kernel⟩
noncomputable abbrev s_taken_out : Stmt := top 31
noncomputable abbrev nm_taken_out : List Str := ["many", "joins", "total"]
theorem sc_taken_out : FnScope nm_taken_out ["many", "joins"] (defScope s_taken_out) := ⟨rfl, rfl, rfl, by decide +kernel, rfl, by decide +kernel, by decide +kernel⟩
noncomputable abbrev s_parted_sums : Stmt := top 32
noncomputable abbrev nm_parted_sums : List Str := ["many", "joins", "ahead", "from_behind", "behind", "parted"]
theorem sc_parted_sums : FnScope nm_parted_sums ["many", "joins"] (defScope s_parted_sums) := ⟨rfl, rfl, rfl, by decide +kernel, rfl, by decide +kernel, by decide +kernel⟩
noncomputable abbrev s_law_tape : Stmt := top 34
noncomputable abbrev nm_law_tape : List Str := ["_law_script"]
theorem sc_law_tape : FnScope nm_law_tape ["_law_script"] (defScope s_law_tape) := ⟨rfl, rfl, rfl, by decide +kernel, rfl, by decide +kernel, by decide +kernel⟩
noncomputable abbrev s_law_draw : Stmt := top 35
noncomputable abbrev nm_law_draw : List Str := ["_law_tape_here", "_law_many", "_law_found", "_law_spot", "_law_cells", "_law_cell", "_law_seed"]
theorem sc_law_draw : FnScope nm_law_draw ["_law_tape_here", "_law_many"] (defScope s_law_draw) := ⟨rfl, rfl, rfl, by decide +kernel, rfl, by decide +kernel, by decide +kernel⟩
noncomputable abbrev s_law_alone : Stmt := top 36
noncomputable abbrev nm_law_alone : List Str := ["_law_error", "_law_place", "_law_kinds"]
theorem sc_law_alone : FnScope nm_law_alone ["_law_error", "_law_place"] (defScope s_law_alone) := ⟨rfl, rfl, rfl, by decide +kernel, rfl, by decide +kernel, by decide +kernel⟩
noncomputable abbrev s_law_number : Stmt := top 37
noncomputable abbrev nm_law_number : List Str := ["_law_tape_here", "_law_way"]
theorem sc_law_number : FnScope nm_law_number ["_law_tape_here"] (defScope s_law_number) := ⟨rfl, rfl, rfl, by decide +kernel, rfl, by decide +kernel, by decide +kernel⟩
noncomputable abbrev s_law_asked : Stmt := top 38
noncomputable abbrev nm_law_asked : List Str := ["_law_way", "_law_n", "_law_w"]
theorem sc_law_asked : FnScope nm_law_asked ["_law_way", "_law_n", "_law_w"] (defScope s_law_asked) := ⟨rfl, rfl, rfl, by decide +kernel, rfl, by decide +kernel, by decide +kernel⟩
noncomputable abbrev s_law_told : Stmt := top 39
noncomputable abbrev nm_law_told : List Str := ["_law_way", "_law_n", "_law_w", "_law_kept", "e"]
theorem sc_law_told : FnScope nm_law_told ["_law_way", "_law_n", "_law_w"] (defScope s_law_told) := ⟨rfl, rfl, rfl, by decide +kernel, rfl, by decide +kernel, by decide +kernel⟩
noncomputable abbrev s_law_due : Stmt := top 40
noncomputable abbrev nm_law_due : List Str := ["_law_way", "_law_n", "_law_w"]
theorem sc_law_due : FnScope nm_law_due ["_law_way", "_law_n", "_law_w"] (defScope s_law_due) := ⟨rfl, rfl, rfl, by decide +kernel, rfl, by decide +kernel, by decide +kernel⟩
noncomputable abbrev s_law : Stmt := top 41
noncomputable abbrev nm_law : List Str := ["_law_script", "_law_tape_here", "_law_turn", "_law_n", "_law_w", "_law_begun", "_law_k", "_law_way"]
theorem sc_law : FnScope nm_law ["_law_script"] (defScope s_law) := ⟨rfl, rfl, rfl, by decide +kernel, rfl, by decide +kernel, by decide +kernel⟩
section
variable {P : Program} {w : World} {K : PySem.W.Frag} {mg : Str → Option Value} {base : Heap}
theorem ok_law_tape (D : DefN K mg "_law_tape" s_law_tape ["_law_script"]) (B : BI mg) : OkN P w K mg base 1 "_law_tape" ["_law_script"] (spA K STape) := by
  refine OkN.imp (sp := spTapeX K) ?_ tape_of
  refine D.ok sc_law_tape (fun vs H Q E h => ?_) (fun f cdv A outer s H vs Q E hr h => ?_)
  · obtain ⟨a, ns, rfl, _⟩ := h
    rfl
  · obtain ⟨a, ns, rfl, hS, k⟩ := h
    refine ⟨_, (pss_one (ps_ret (pe_disp (pps_cons pe_str (pe_slice (sl_listK K) (pv 0) po_none (po_some pe_int)) (pps_cons pe_str pe_int (pps_cons pe_str pe_int pps_nil))) rfl rfl (by simp) (by decide)))), ?_⟩
    intro t ht
    have s0 : Same H (upd H t (.dK [])) := (Same.refl H).new ht
    refine ⟨_, rfl, 63, rfl, a, _, rfl, s0.seq hS, fun l hl => ?_⟩
    have ntl : t ≠ l := ne_of_none upd_same hl
    refine ⟨by rw [upd_ne ntl, upd_same], [(Sum.inr ("cells" : Str), V.ref l), (Sum.inr ("spot" : Str), V.int 0), (Sum.inr ("left" : Str), V.int 0)], rfl, (by show 3 ≤ 15; decide), ?_⟩
    rw [tape_made]
    have fin := k t l ht (s0.free hl) ntl
    have eq : upd (upd (upd H t (.dK [])) l (.lst (cutV (ns.map V.int) none (some 63)))) t (.dK (tapeK l 0 0)) = upd (upd H l (.lst ((ns.take 63).map V.int))) t (.dK (tapeK l 0 0)) := by
      rw [cut63]
      funext b
      unfold upd
      by_cases h1 : b = t
      · rw [if_pos h1, if_pos h1]
      · rw [if_neg h1, if_neg h1, if_neg h1]
    rw [eq]
    exact fin
theorem ok_law_draw (D : DefN K mg "_law_draw" s_law_draw ["_law_tape_here", "_law_many"]) (B : BI mg) : OkN P w K mg base 1 "_law_draw" ["_law_tape_here", "_law_many"] (spA K SDraw) := by
  refine OkN.imp (sp := spDrawX K) ?_ draw_of
  refine D.ok sc_law_draw (fun vs H Q E h => ?_) (fun f cdv A outer s H vs Q E hr h => ?_)
  · obtain ⟨t, c, m, sp, lf, ns, n, rfl, _⟩ := h
    rfl
  · obtain ⟨t, c, m, sp, lf, ns, n, rfl, hT, hC, h1, h2, h3, hn, hm, k⟩ := h
    have hu := hu_of hr
    have hm0 := hm.1
    have gl : DGet H t (kV (Sum.inr "left")) (some (.int lf)) := by rw [← tape_left (c := c) (sp := sp)]; exact DGet.k hT
    have gs : DGet H t (kV (Sum.inr "spot")) (some (.int sp)) := by rw [← tape_spot (c := c) (lf := lf)]; exact DGet.k hT
    have gc : DGet H t (kV (Sum.inr "cells")) (some (.ref c)) := by rw [← tape_cells (sp := sp) (lf := lf)]; exact DGet.k hT
    refine ⟨_, (pss_cons (ps_if (pt_cmpR op_gt (pe_dget hu (pv 0) pe_str (fun _ _ => rfl)) pe_int (nomark _))
      (pss_cons (ps_set (i := 2) sc_law_draw.nd rfl (by first | exact Or.inl rfl | exact Or.inr rfl) (pe_op op_mod (pe_dget hu (pv 0) pe_str (fun _ _ => rfl)) (pv 1)))
      (pss_cons (ps_dput hu (pv 0) pe_str (pe_op op_fdivL (pe_dget hu (pv 0) pe_str (fun _ _ => rfl)) (pv 1)) rfl)
      (pss_one (ps_ret (pv 2)))))
      pss_nil)
      (pss_cons (ps_set (i := 3) sc_law_draw.nd rfl (by first | exact Or.inl rfl | exact Or.inr rfl) (pe_dget hu (pv 0) pe_str (fun _ _ => rfl)))
      (pss_cons (ps_dput hu (pv 0) pe_str (pe_op op_add (pv 3) pe_int) rfl)
      (pss_cons (ps_set (i := 4) sc_law_draw.nd rfl (by first | exact Or.inl rfl | exact Or.inr rfl) (pe_dget hu (pv 0) pe_str (fun _ _ => rfl)))
      (pss_cons (ps_set (i := 5) sc_law_draw.nd rfl (by first | exact Or.inl rfl | exact Or.inr rfl) pe_int)
      (pss_cons (ps_if (pt_cmpR op_gt (pe_callB (call_lenK K) rfl B.len_ bt_len (pa_cons (pv 4) pa_nil)) pe_int (nomark _))
      (pss_one (ps_set (i := 5) sc_law_draw.nd rfl (by first | exact Or.inl rfl | exact Or.inr rfl) (pe_ix (ix_seqK K) (pv 4) (pe_op op_mod (pv 3) (pe_callB (call_lenK K) rfl B.len_ bt_len (pa_cons (pv 4) pa_nil))) (fun _ _ => rfl))))
      pss_nil)
      (pss_cons (ps_if (PW.pt (pw_and (pt_cmpR op_ge (pv 5) (pe_op op_pow pe_int pe_int) (nomark _)) (pw_and1 (pt_cmpR op_lt (pv 3) (pe_callB (call_lenK K) rfl B.len_ bt_len (pa_cons (pv 4) pa_nil)) (nomark _)))))
      (pss_cons (ps_dput hu (pv 0) pe_str (pe_op op_fdivL (pe_op op_sub (pv 5) (pe_op op_pow pe_int pe_int)) (pv 1)) rfl)
      (pss_one (ps_ret (pe_op op_mod (pe_op op_sub (pv 5) (pe_op op_pow pe_int pe_int)) (pv 1)))))
      pss_nil)
      (pss_cons (ps_set (i := 6) sc_law_draw.nd rfl (by first | exact Or.inl rfl | exact Or.inr rfl) (pe_op op_mod (pe_op op_mul (pe_op op_add (pe_op op_add (pe_op op_add (pe_op op_mod (pv 5) pe_int) (pe_op op_mul (pe_op op_mul pe_int (pv 3)) (pv 3))) (pe_op op_mul pe_int (pv 3))) pe_int) pe_int) pe_int))
      (pss_one (ps_ret (pe_op op_mod (pe_op op_fdivL (pe_op op_mod (pe_op op_mul (pv 6) (pe_op op_add (pv 6) pe_int)) pe_int) pe_int) (pv 1)))))))))))), ?_⟩
    refine ⟨_, rfl, t, _, rfl, gl, _, _, rfl, rfl, _, rfl, ite2 (fun hl => ?_) fun hl => ?_⟩
    · refine ⟨_, rfl, t, _, rfl, gl, _, rfl, _, _, rfl, rfl, hm0, ?_⟩
      refine ⟨_, rfl, t, _, rfl, gl, _, rfl, _, _, rfl, rfl, hm, _, rfl, t, _, rfl, DPut.k (k := Sum.inr "left") hT (small1000 (by show 3 ≤ 1000; decide)), _, rfl, ?_⟩
      rw [put_left]
      exact drawn (Q := fun z H => Q (.int z) H) hm0 fun r hr => k r _ _ hr h1 (by first | assumption | decide | (clear hr hl hm0 hu hn h3 h1 hT; omega)) (Int.ediv_nonneg h3 (Int.le_of_lt hm0))
    · refine ⟨_, rfl, t, _, rfl, gs, ?_⟩
      refine ⟨_, rfl, _, _, rfl, rfl, _, rfl, t, _, rfl, DPut.k (k := Sum.inr "spot") hT (small1000 (by show 3 ≤ 1000; decide)), ?_⟩
      rw [put_spot]
      have hT1 : (upd H t (.dK (tapeK c (sp + 1) lf))) t = some (.dK (tapeK c (sp + 1) lf)) := upd_same
      have hC1 : SqL K (upd H t (.dK (tapeK c (sp + 1) lf))) c (ns.map V.int) := Grow.seq (Grow.refl.upd _) hT hC
      have gr1 : Grow t H (upd H t (.dK (tapeK c (sp + 1) lf))) := Grow.refl.upd _
      have gc1 : DGet (upd H t (.dK (tapeK c (sp + 1) lf))) t (kV (Sum.inr "cells")) (some (.ref c)) := by rw [← tape_cells (sp := sp + 1) (lf := lf)]; exact DGet.k hT1
      have kk : ∀ (r : Nat) (lf' : Int), (r : Int) < m → 0 ≤ lf' → Q (.int (r : Nat)) (upd (upd H t (.dK (tapeK c (sp + 1) lf))) t (.dK (tapeK c (sp + 1) lf'))) := fun r lf' hr hl => by rw [upd_upd]; exact k r _ _ hr (by first | assumption | decide | (clear hl hr hT1 hm0 hu hn h3 h2 hT; omega)) (by first | assumption | decide | (clear hl hr hT1 hm0 hu hn h3 h1 hT; omega)) hl
      have kl : ∀ (r : Nat), (r : Int) < m → Q (.int (r : Nat)) (upd H t (.dK (tapeK c (sp + 1) lf))) := fun r hr => k r _ _ hr (by first | assumption | decide | (clear hr hT1 hl hm0 hu hn h3 h2 hT; omega)) (by first | assumption | decide | (clear hr hT1 hl hm0 hu hn h3 h1 hT; omega)) h3
      generalize upd H t (.dK (tapeK c (sp + 1) lf)) = H1 at hT1 hC1 gr1 gc1 kk kl ⊢
      refine ⟨_, rfl, t, _, rfl, gc1, ?_⟩
      have p18 : (10 : Int) ^ (18 : Int).toNat = 1000000000000000000 := by decide
      have fits : CPow 10 18 := ⟨by decide, by decide, by decide⟩
      have pos1 : (0 : Int) < 2147483629 := by decide
      have pos2 : (0 : Int) < 2147483647 := by decide
      have spOk : -(2 ^ 64) < sp ∧ sp < 2 ^ 64 := by first | assumption | decide | (clear pos2 pos1 p18 hT1 hl hm0 hu h3 hT; omega)
      refine ⟨_, rfl, c, _, rfl, .inl hC1, _, _, rfl, rfl, _, rfl, ite2 (fun hl => ?_) fun hl => ?_⟩
      · have hl' : 0 < ns.length := by
          have := of_decide_eq_true hl
          rw [List.length_map] at this
          (clear hl spOk pos2 pos1 p18 hT1 hm0 hu hn h3 h2 h1 hT; omega)
        have el : ((ns.map V.int).length : Int) = ns.length := by rw [List.length_map]
        have hb0 : 0 ≤ sp % ((ns.map V.int).length : Int) := Int.emod_nonneg _ (by first | assumption | decide | (clear hl spOk pos2 pos1 p18 hT1 hm0 hu hn h3 h2 h1 hT; omega))
        have hb1 : sp % ((ns.map V.int).length : Int) < ((ns.map V.int).length : Int) := Int.emod_lt_of_pos _ (by first | assumption | decide | (clear hb0 hl spOk pos2 pos1 p18 hT1 hm0 hu hn h3 h2 h1 hT; omega))
        obtain ⟨j, hj⟩ := Int.eq_ofNat_of_zero_le hb0
        have hj' : j < ns.length := by rw [hj] at hb1; (clear hj hb0 hl' hl spOk pos2 pos1 p18 hT1 hm0 hu hn h3 h2 h1 hT; omega)
        refine ⟨_, rfl, _, rfl, _, rfl, c, _, rfl, .inl hC1, _, _, rfl, rfl, (by show (0 : Int) < ((ns.map V.int).length : Int); (clear hj' hj hb1 hb0 hl spOk pos2 pos1 p18 hT1 hm0 hu hn h3 h2 h1 hT; omega)), .inl ⟨c, _, _, V.int ns[j], rfl, rfl, hC1, ?_, ?_⟩⟩
        · rw [hj]
          exact atI_nat (by simp [hj'])
        · generalize ns[j] = z
          refine ⟨_, rfl, _, _, rfl, rfl, fits, _, _, rfl, rfl, _, rfl, ite2 (fun hz => ?_) fun hz => ?_⟩
          · refine ⟨_, rfl, _, rfl, c, _, rfl, .inl hC1, _, _, rfl, rfl, _, rfl, ite2 (fun hs => ?_) fun hs => ?_⟩
            · refine ⟨_, rfl, _, _, rfl, rfl, fits, _, _, rfl, rfl, _, rfl, _, _, rfl, rfl, hm, _, rfl, t, _, rfl, DPut.k (k := Sum.inr "left") hT1 (small1000 (by show 3 ≤ 1000; decide)), ?_⟩
              rw [put_left]
              refine ⟨_, rfl, _, _, rfl, rfl, fits, _, _, rfl, rfl, _, rfl, _, _, rfl, rfl, hm0, ?_⟩
              refine drawn (Q := fun z H => Q (.int z) H) hm0 fun r hr => kk r _ hr (Int.ediv_nonneg ?_ (Int.le_of_lt hm0))
              have hz' := of_decide_eq_true hz
              rw [p18] at hz' ⊢
              (clear hr hs hz hj' hj hb1 hb0 el hl' hl spOk pos2 pos1 p18 hT1 hm0 hu hn h3 h2 h1 hT; omega)
            · refine ⟨_, rfl, _, _, rfl, rfl, pos1, _, rfl, _, _, rfl, rfl, .inl ⟨by decide, by decide⟩, _, rfl, _, _, rfl, rfl, .inr spOk, _, _, rfl, rfl, _, rfl, _, _, rfl, rfl, .inl ⟨by decide, by decide⟩, _, _, rfl, rfl, _, _, rfl, rfl, _, _, rfl, rfl, .inr ⟨by decide, by decide⟩, _, _, rfl, rfl, pos2, ?_⟩
              refine ⟨_, rfl, _, rfl, _, _, rfl, rfl, _, _, rfl, rfl, .inl seedOk, _, _, rfl, rfl, pos1, _, _, rfl, rfl, dv64, _, rfl, _, _, rfl, rfl, hm0, ?_⟩
              exact drawn (Q := fun z H => Q (.int z) H) hm0 fun r hr => kl r hr
          · refine ⟨_, rfl, _, _, rfl, rfl, pos1, _, rfl, _, _, rfl, rfl, .inl ⟨by decide, by decide⟩, _, rfl, _, _, rfl, rfl, .inr spOk, _, _, rfl, rfl, _, rfl, _, _, rfl, rfl, .inl ⟨by decide, by decide⟩, _, _, rfl, rfl, _, _, rfl, rfl, _, _, rfl, rfl, .inr ⟨by decide, by decide⟩, _, _, rfl, rfl, pos2, ?_⟩
            refine ⟨_, rfl, _, rfl, _, _, rfl, rfl, _, _, rfl, rfl, .inl seedOk, _, _, rfl, rfl, pos1, _, _, rfl, rfl, dv64, _, rfl, _, _, rfl, rfl, hm0, ?_⟩
            exact drawn (Q := fun z H => Q (.int z) H) hm0 fun r hr => kl r hr
      · refine ⟨_, rfl, _, _, rfl, rfl, fits, _, _, rfl, rfl, _, rfl, ite2 (fun hz => ?_) fun hz => ?_⟩
        · refine ⟨_, rfl, _, rfl, c, _, rfl, .inl hC1, _, _, rfl, rfl, _, rfl, ite2 (fun hs => ?_) fun hs => ?_⟩
          · refine ⟨_, rfl, _, _, rfl, rfl, fits, _, _, rfl, rfl, _, rfl, _, _, rfl, rfl, hm, _, rfl, t, _, rfl, DPut.k (k := Sum.inr "left") hT1 (small1000 (by show 3 ≤ 1000; decide)), ?_⟩
            rw [put_left]
            refine ⟨_, rfl, _, _, rfl, rfl, fits, _, _, rfl, rfl, _, rfl, _, _, rfl, rfl, hm0, ?_⟩
            refine drawn (Q := fun z H => Q (.int z) H) hm0 fun r hr => kk r _ hr (Int.ediv_nonneg ?_ (Int.le_of_lt hm0))
            have hz' := of_decide_eq_true hz
            rw [p18] at hz' ⊢
            (clear hr hs hz hl spOk pos2 pos1 p18 hT1 hm0 hu hn h3 h2 h1 hT; omega)
          · refine ⟨_, rfl, _, _, rfl, rfl, pos1, _, rfl, _, _, rfl, rfl, .inl ⟨by decide, by decide⟩, _, rfl, _, _, rfl, rfl, .inr spOk, _, _, rfl, rfl, _, rfl, _, _, rfl, rfl, .inl ⟨by decide, by decide⟩, _, _, rfl, rfl, _, _, rfl, rfl, _, _, rfl, rfl, .inr ⟨by decide, by decide⟩, _, _, rfl, rfl, pos2, ?_⟩
            refine ⟨_, rfl, _, rfl, _, _, rfl, rfl, _, _, rfl, rfl, .inl seedOk, _, _, rfl, rfl, pos1, _, _, rfl, rfl, dv64, _, rfl, _, _, rfl, rfl, hm0, ?_⟩
            exact drawn (Q := fun z H => Q (.int z) H) hm0 fun r hr => kl r hr
        · refine ⟨_, rfl, _, _, rfl, rfl, pos1, _, rfl, _, _, rfl, rfl, .inl ⟨by decide, by decide⟩, _, rfl, _, _, rfl, rfl, .inr spOk, _, _, rfl, rfl, _, rfl, _, _, rfl, rfl, .inl ⟨by decide, by decide⟩, _, _, rfl, rfl, _, _, rfl, rfl, _, _, rfl, rfl, .inr ⟨by decide, by decide⟩, _, _, rfl, rfl, pos2, ?_⟩
          refine ⟨_, rfl, _, rfl, _, _, rfl, rfl, _, _, rfl, rfl, .inl seedOk, _, _, rfl, rfl, pos1, _, _, rfl, rfl, dv64, _, rfl, _, _, rfl, rfl, hm0, ?_⟩
          exact drawn (Q := fun z H => Q (.int z) H) hm0 fun r hr => kl r hr
end
end K95
set_option Elab.async false
set_option linter.all false
set_option maxRecDepth 100000
set_option maxHeartbeats 1000000
namespace K95
open PySem PySem.Spec PyProof.Rows L2
noncomputable def SRefuse : ASp := fun ss q => ∃ a b c : Int, ss = [.vl (.int a), .vl (.int b), .vl (.int c)] ∧ b ≤ a ∧ a ≤ c ∧ q (.d .non) [.vl (.int a), .vl (.int b), .vl (.int c)]
noncomputable def SCh : ASp := fun ss q => ∃ (m : Nat) (ds : List D) (xs : List Nat), ss = [nv m, .ow ds, .vl (.lst (natsD xs))] ∧ 0 < xs.length ∧ ds.length + xs.length ≤ 1000 ∧ ∀ (t : Nat) (es : List D), es.length ≤ ds.length + xs.length → q (.d (nD t)) [nv m, .ow es, .vl (.lst (natsD xs))]
noncomputable def SRu : ASp := fun ss q => ∃ (m : Nat) (ds : List D) (xs : List Nat), ss = [nv m, .ow ds, .vl (.lst (natsD xs))] ∧ 0 < xs.length ∧ ds.length + 2 * xs.length ≤ 900 ∧ ∀ (ys : List Nat) (es : List D), ys.length = xs.length → es.length ≤ ds.length + 2 * xs.length → q (.f (natsD ys)) [nv m, .ow es, .vl (.lst (natsD xs))]
noncomputable def SHf : Nat → ASp
  | 0 => fun _ _ => False
  | j + 1 => fun ss q => ∃ (m : Nat) (ds : List D) (xs : List Nat), ss = [nv m, .ow ds, .vl (.lst (natsD xs))] ∧ 0 < xs.length ∧ xs.length ≤ 2 ^ j ∧ ds.length + j * 2 ^ j ≤ 900 ∧ ∀ (ys : List Nat) (es : List D), ys.length = xs.length → es.length ≤ ds.length + j * 2 ^ j → q (.f (natsD ys)) [nv m, .ow es, .vl (.lst (natsD xs))]
noncomputable def SPt : ASp := fun ss q => ∃ n : Nat, ss = [nv n, .ow []] ∧ 2 ≤ n ∧ n ≤ 12 ∧ ∀ (ys : List Nat) (es : List D), q (.f (natsD ys)) [nv n, .ow es]
noncomputable def SOne (lo hi : Nat) : ASp := fun ss q => ∃ n : Nat, ss = [nv n] ∧ lo ≤ n ∧ n ≤ hi ∧ ∀ d, q (.d d) [nv n]
noncomputable def SAll : ASp := fun ss q => ∃ (n : Nat) (b : Bool), ss = [nv n, .vl (.bl b)] ∧ 2 ≤ n ∧ n ≤ 12 ∧ ∀ d, q (.d d) [nv n, .vl (.bl b)]
noncomputable def SWin : ASp := fun ss q => ∃ n w : Nat, ss = [nv n, nv w] ∧ 2 ≤ w ∧ w ≤ n ∧ n ≤ 12 ∧ ∀ d, q (.d d) [nv n, nv w]
theorem cut1 (xs : List Nat) : L2.cutD (natsD xs) (some 1) none = (xs.drop 1).map nD := by
  have := cutD_drop (natsD xs) 1
  rw [show ((1 : Nat) : Int) = 1 from rfl] at this
  rw [this]; unfold natsD; rw [List.map_drop]
theorem atk {xs : List Nat} {z : Int} (h0 : 0 ≤ z) (h : z < xs.length) : ∃ t : Nat, atI (natsD xs) z = some (nD t) := by
  obtain ⟨i, rfl⟩ := Int.eq_ofNat_of_zero_le h0
  exact ⟨_, atI_nats (by first | assumption | decide | (clear h0; omega))⟩
theorem half_c (n : Nat) : ((n : Int) + 1) / 2 = (((n + 1) / 2 : Nat) : Int) := by first | assumption | decide | omega
theorem atm {xs : List Nat} (h : 0 < xs.length) : ∃ t : Nat, atI (natsD xs) (-1) = some (nD t) := by
  rcases List.eq_nil_or_concat xs with rfl | ⟨ys, y, rfl⟩
  · cases h
  · exact ⟨y, by rw [List.concat_eq_append, natsD_snoc]; exact atI_last _ _⟩
section
variable {P : Program} {w : World} {K : PySem.W.Frag} {mg : Str → Option Value} {base : Heap}
theorem ok_joining (dn : DefN K mg "joining" s_joining ["one", "other"]) (B : BI mg) : OkN P w K mg base 1 "joining" ["one", "other"] (spA K SJoining) := by
  refine dn.aok2 (k := 0) sc_joining (fun j => j == 0 || j == 1) [] SJoining rfl (fun f cdv A outer s H E hr => have hu := hu_of hr; ⟨_, (pss_one (ps_ret (pe_tup (pa_cons (pe_callB (call_min2 rfl) rfl B.min_ bt_min (pa_cons (pv 0) (pa_cons (pv 1) pa_nil))) (pa_cons (pe_callB (call_max2 rfl) rfl B.max_ bt_max (pa_cons (pv 0) (pa_cons (pv 1) pa_nil))) pa_nil))))), (sok_ret (tok_tup (taok_cons (tok_cb cbok_min (taok_cons tok_var (taok_cons tok_var taok_nil))) (taok_cons (tok_cb cbok_max (taok_cons tok_var (taok_cons tok_var taok_nil))) taok_nil))))⟩) ?_
  rintro ss q ⟨a, b, rfl, hq⟩
  refine ⟨rfl, rfl, by simp, ?_⟩
  show q (.d (.tup [.int (if (b : Int) < (a : Int) then (b : Int) else (a : Int)), .int (if (b : Int) > (a : Int) then (b : Int) else (a : Int))])) [nv a, nv b]
  rw [minI, maxI]; exact hq
theorem ok_chained (dn : DefN K mg "chained" s_chained ["many", "joins", "things"]) (B : BI mg) (g_joining : OkN P w K mg base 1 "joining" ["one", "other"] (spA K SJoining)) : OkN P w K mg base 2 "chained" ["many", "joins", "things"] (spA K SCh) := by
  refine dn.aok2 (k := 1) sc_chained (fun j => j == 0 || j == 1 || j == 2) [.un, .un] SCh rfl (fun f cdv A outer s H E hr => have hu := hu_of hr; ⟨_, (pss_cons (ps_set (i := 3) sc_chained.nd rfl (by first | exact Or.inl rfl | exact Or.inr rfl) (pe_ix (ix_seqK K) (pv 2) pe_int (fun _ _ => rfl)))
    (pss_cons (ps_for PassesOwn.never rfl (pi_seqK K (pe_slice (sl_listK K) (pv 2) (po_some pe_int) po_none)) (pg_name (i := 4) sc_chained.nd rfl (by first | exact Or.inl rfl | exact Or.inr rfl))
    (pss_cons (ps_expr (pe_bmK K PySem.F.plainAttrs_list PySem.F.slot_list_append PySem.F.type_list_append mt_append (pv 1) (pa_cons (pe_fn g_joining (hr.mono (by decide)) (pa_cons (pv 3) (pa_cons (pv 4) pa_nil))) pa_nil)))
    (pss_one (ps_set (i := 3) sc_chained.nd rfl (by first | exact Or.inl rfl | exact Or.inr rfl) (pe_op op_sub (pe_op op_add (pv 0) (pe_callB (call_lenK K) rfl B.len_ bt_len (pa_cons (pv 1) pa_nil))) pe_int)))))
    (pss_one (ps_ret (pv 3))))), (sok_seq (sok_set (tok_op ook_ix tok_var tok_int) rfl)
    (sok_seq (sok_for (pin := (fun _ => false)) (tiok_seq (tok_slL tok_var (took_part tok_int) took_no)) (tgok_name rfl)
    (sok_seq (sok_drop (tok_app tok_var (taok_cons (tok_call (taok_cons tok_var (taok_cons tok_var taok_nil))) taok_nil)))
    (sok_set (tok_op ook_int0 (tok_op ook_int0 tok_var (tok_cb cbok_len (taok_cons tok_var taok_nil))) tok_int) rfl)))
    (sok_ret tok_var)))⟩) ?_
  rintro ss q ⟨m, ds, xs, rfl, hx, hl, hq⟩
  obtain ⟨t0, e0⟩ := atk (z := 0) (Int.le_refl 0) (by (clear hl; omega) : (0 : Int) < xs.length)
  refine ⟨rfl, rfl, gIx_l rfl e0 ?_⟩
  show forA _ _ _ _ (L2.cutD (natsD xs) (some 1) none) _
  rw [cut1]
  refine forA_lst nD (fun k ρ => ∃ (t : Nat) (es : List D) (s4 : Sv), es.length ≤ ds.length + k ∧ ρ = [nv m, .ow es, .vl (.lst (natsD xs)), nv t, s4]) (fun _ _ _ => trivial) ?_ ?_ ⟨t0, ds, .un, by first | assumption | decide | (clear e0 hl hx; omega), rfl⟩
  · rintro k x _ M hk ⟨t, es, s4, he, rfl⟩ hM
    have hi := (List.getElem?_eq_some_iff.mp hk).1
    rw [List.length_drop] at hi
    have e : (m : Int) + ((es ++ [L2.pairD (min t x, max t x)]).length : Nat) - 1 = ((m + es.length : Nat) : Int) := by
      rw [List.length_append, List.length_singleton]; (clear hi he hk e0 hl hx; omega)
    refine ⟨rfl, t, x, rfl, by first | assumption | decide | (clear hk e0; omega), hM _ ⟨m + es.length, es ++ [L2.pairD (min t x, max t x)], nv x, by rw [List.length_append, List.length_singleton]; (clear hi hk e0 hl hx; omega), ?_⟩⟩
    rw [← nv_eq e]; rfl
  · rintro _ ⟨t, es, s4, he, rfl⟩
    rw [List.length_drop] at he
    exact hq t es (by first | assumption | decide | (clear e0 hl; omega))
theorem ok_refuse_width (dn : DefN K mg "refuse_width" s_refuse_width ["width", "least", "most"]) (B : BI mg) : OkN P w K mg base 1 "refuse_width" ["width", "least", "most"] (spA K SRefuse) := by
  refine dn.aok2 (k := 0) sc_refuse_width (fun j => j == 0 || j == 1 || j == 2) [] SRefuse rfl (fun f cdv A outer s H E hr => have hu := hu_of hr; ⟨_, (pss_one (ps_if (pt_not (pt_chain op_le op_le (pv 1) (pv 0) (pv 2)))
    (pss_one ps_never)
    pss_nil)), (sok_if (ttok_not (ttok_test (tok_chain ook_bl0 ook_bl0 tok_var tok_var tok_var)))
    sok_never
    sok_next)⟩) ?_
  rintro ss q ⟨a, b, c, rfl, h1, h2, hq⟩
  refine ⟨rfl, rfl, ite2 (fun _ => ?_) fun h => absurd (decide_eq_true h1) h⟩
  refine ite2 (fun h => ?_) fun _ => hq
  have h2' : decide (a ≤ c) = true := decide_eq_true h2
  rw [h2'] at h; cases h
theorem ok_running_sums (dn : DefN K mg "running_sums" s_running_sums ["many", "joins", "things"]) (B : BI mg) (g_chained : OkN P w K mg base 2 "chained" ["many", "joins", "things"] (spA K SCh)) : OkN P w K mg base 3 "running_sums" ["many", "joins", "things"] (spA K SRu) := by
  refine dn.aok2 (k := 2) sc_running_sums (fun j => j == 0 || j == 1 || j == 2) [.un, .un] SRu rfl (fun f cdv A outer s H E hr => have hu := hu_of hr; ⟨_, (pss_cons (ps_set (i := 3) sc_running_sums.nd rfl (by first | exact Or.inl rfl | exact Or.inr rfl) (pe_lst (pa_cons (pe_ix (ix_seqK K) (pv 2) pe_int (fun _ _ => rfl)) pa_nil)))
    (pss_cons (ps_for PassesOwn.never rfl (pi_seqK K (pe_slice (sl_listK K) (pv 2) (po_some pe_int) po_none)) (pg_name (i := 4) sc_running_sums.nd rfl (by first | exact Or.inl rfl | exact Or.inr rfl))
    (pss_one (ps_expr (pe_bmK K PySem.F.plainAttrs_list PySem.F.slot_list_append PySem.F.type_list_append mt_append (pv 3) (pa_cons (pe_fn g_chained (hr.mono (by decide)) (pa_cons (pv 0) (pa_cons (pv 1) (pa_cons (pe_lst (pa_cons (pe_ix (ix_seqK K) (pv 3) (pe_un un_neg pe_int) (fun _ _ => rfl)) (pa_cons (pv 4) pa_nil))) pa_nil)))) pa_nil)))))
    (pss_one (ps_ret (pv 3))))), (sok_seq (sok_set (tok_lst (taok_cons (tok_op ook_ix tok_var tok_int) taok_nil)) rfl)
    (sok_seq (sok_for (pin := (fun _ => false)) (tiok_seq (tok_slL tok_var (took_part tok_int) took_no)) (tgok_name rfl)
    (sok_drop (tok_app tok_var (taok_cons (tok_call (taok_cons tok_var (taok_cons tok_var (taok_cons (tok_lst (taok_cons (tok_op ook_ix tok_var (tok_neg tok_int)) (taok_cons tok_var taok_nil))) taok_nil)))) taok_nil))))
    (sok_ret tok_var)))⟩) ?_
  rintro ss q ⟨m, ds, xs, rfl, hx, hl, hq⟩
  obtain ⟨t0, e0⟩ := atk (z := 0) (Int.le_refl 0) (by (clear hl; omega) : (0 : Int) < xs.length)
  refine ⟨rfl, rfl, gIx_l rfl e0 ⟨by simp, ?_⟩⟩
  show forA _ _ _ _ (L2.cutD (natsD xs) (some 1) none) _
  rw [cut1]
  refine forA_lst nD (fun k ρ => ∃ (ys : List Nat) (es : List D) (s4 : Sv), ys.length = k + 1 ∧ es.length ≤ ds.length + 2 * k ∧ ρ = [nv m, .ow es, .vl (.lst (natsD xs)), .ow (natsD ys), s4]) (fun _ _ _ => trivial) ?_ ?_ ⟨[t0], ds, .un, rfl, by first | assumption | decide | (clear e0 hl hx; omega), rfl⟩
  · rintro k x _ M hk ⟨ys, es, s4, hy, he, rfl⟩ hM
    have hi := (List.getElem?_eq_some_iff.mp hk).1
    rw [List.length_drop] at hi
    obtain ⟨z, ez⟩ := atm (xs := ys) (by first | assumption | decide | (clear hi he hk e0 hl hx; omega))
    refine gIx_l rfl ez ⟨by simp, rfl, m, es, [z, x], rfl, by simp, by simp only [List.length_cons, List.length_nil]; (clear ez hy hk e0; omega), fun t es' he' => ?_⟩
    simp only [List.length_cons, List.length_nil] at he'
    exact ⟨by rw [natsD_len]; (clear he' ez he hk e0; omega), hM _ ⟨ys ++ [t], es', nv x, by rw [List.length_append, hy]; rfl, by first | assumption | decide | (clear ez hi hy hk e0 hl hx; omega), by rw [natsD_snoc]; rfl⟩⟩
  · rintro _ ⟨ys, es, s4, hy, he, rfl⟩
    rw [List.length_drop] at hy he
    exact hq ys es (by first | assumption | decide | (clear he e0 hl; omega)) (by first | assumption | decide | (clear hy e0 hl; omega))
theorem ok_running (dn : DefN K mg "running" s_running ["n"]) (B : BI mg) (g_refuse_width : OkN P w K mg base 1 "refuse_width" ["width", "least", "most"] (spA K SRefuse)) (g_running_sums : OkN P w K mg base 3 "running_sums" ["many", "joins", "things"] (spA K SRu)) (c_MOST_GIVENS : ∃ u, mg "MOST_GIVENS" = some u ∧ RelV (.int 12) u) : OkN P w K mg base 4 "running" ["n"] (spA K (SOne 1 12)) := by
  refine dn.aok2 (k := 3) sc_running (fun j => j == 0) [.un, .un] (SOne 1 12) rfl (fun f cdv A outer s H E hr => have hu := hu_of hr; ⟨_, (pss_cons (ps_expr (pe_fn g_refuse_width (hr.mono (by decide)) (pa_cons (pv 0) (pa_cons pe_int (pa_cons (pe_gc c_MOST_GIVENS rfl) pa_nil)))))
    (pss_cons (ps_set (i := 1) sc_running.nd rfl (by first | exact Or.inl rfl | exact Or.inr rfl) (pe_lst pa_nil))
    (pss_cons (ps_set (i := 2) sc_running.nd rfl (by first | exact Or.inl rfl | exact Or.inr rfl) (pe_fn g_running_sums (hr.mono (by decide)) (pa_cons (pv 0) (pa_cons (pv 1) (pa_cons (pe_callTy (call_listR rfl) rfl B.list_ bt_list (pa_cons (pe_callTy call_rangeO rfl B.range_ bt_range (pa_cons (pv 0) pa_nil)) pa_nil)) pa_nil)))))
    (pss_one (ps_ret (pe_tup (pa_cons (pv 0) (pa_cons (pe_callTy (call_tupleK K) rfl B.tuple_ bt_tuple (pa_cons (pv 1) pa_nil)) (pa_cons (pe_callTy (call_tupleK K) rfl B.tuple_ bt_tuple (pa_cons (pv 2) pa_nil)) pa_nil))))))))), (sok_seq (sok_drop (tok_call (taok_cons tok_var (taok_cons tok_int (taok_cons tok_int taok_nil)))))
    (sok_seq (sok_set (tok_lst taok_nil) rfl)
    (sok_seq (sok_set (tok_call (taok_cons tok_var (taok_cons tok_var (taok_cons (tok_lrng tok_var) taok_nil)))) rfl)
    (sok_ret (tok_tup (taok_cons tok_var (taok_cons (tok_cb cbok_tuple (taok_cons tok_var taok_nil)) (taok_cons (tok_cb cbok_tuple (taok_cons tok_var taok_nil)) taok_nil))))))))⟩) ?_
  rintro ss q ⟨n, rfl, h1, h12, hq⟩
  refine ⟨rfl, rfl, rfl, n, 1, 12, rfl, by first | assumption | decide | omega, by first | assumption | decide | omega, Nat.zero_le _, ⟨by first | assumption | decide | omega, by first | assumption | decide | omega⟩, ?_⟩
  rw [Int.toNat_natCast]
  exact ⟨rfl, n, [], List.range n, rfl, by rw [List.length_range]; omega, by rw [List.length_range]; simp only [List.length_nil]; omega, fun ys es _ _ => ⟨by simp, hq _⟩⟩
theorem ok_sums_by_halves (j k : Nat) (dn : DefN K mg "sums_by_halves" s_sums_by_halves ["many", "joins", "things"]) (B : BI mg) (g_chained : OkN P w K mg base 2 "chained" ["many", "joins", "things"] (spA K SCh)) (g_sums_by_halves : OkN P w K mg base (k + 2) "sums_by_halves" ["many", "joins", "things"] (spA K (SHf j))) : OkN P w K mg base (k + 3) "sums_by_halves" ["many", "joins", "things"] (spA K (SHf (j + 1))) := by
  refine dn.aok2 (k := k + 2) sc_sums_by_halves (fun j => j == 0 || j == 1 || j == 2) [.un, .un, .un] (SHf (j + 1)) rfl (fun f cdv A outer s H E hr => have hu := hu_of hr; ⟨_, (pss_cons (ps_if (pt_cmpR (op_eqD K hr.units) (pe_callB (call_lenK K) rfl B.len_ bt_len (pa_cons (pv 2) pa_nil)) pe_int (nomark _))
    (pss_one (ps_ret (pe_callTy (call_listK K) rfl B.list_ bt_list (pa_cons (pv 2) pa_nil))))
    pss_nil)
    (pss_cons (ps_set (i := 3) sc_sums_by_halves.nd rfl (by first | exact Or.inl rfl | exact Or.inr rfl) (pe_op op_fdivL (pe_op op_add (pe_callB (call_lenK K) rfl B.len_ bt_len (pa_cons (pv 2) pa_nil)) pe_int) pe_int))
    (pss_cons (ps_set (i := 4) sc_sums_by_halves.nd rfl (by first | exact Or.inl rfl | exact Or.inr rfl) (pe_fn g_sums_by_halves (hr.mono (by first | assumption | decide | (clear hu; omega))) (pa_cons (pv 0) (pa_cons (pv 1) (pa_cons (pe_slice (sl_listK K) (pv 2) po_none (po_some (pv 3))) pa_nil)))))
    (pss_cons (ps_set (i := 5) sc_sums_by_halves.nd rfl (by first | exact Or.inl rfl | exact Or.inr rfl) (pe_fn g_sums_by_halves (hr.mono (by first | assumption | decide | (clear hu; omega))) (pa_cons (pv 0) (pa_cons (pv 1) (pa_cons (pe_slice (sl_listK K) (pv 2) (po_some (pv 3)) po_none) pa_nil)))))
    (pss_one (ps_ret (pe_op (op_catL K) (pv 4) (pe_comp ["part"] [0, 1, 4] rfl (Blk.of (defScope s_sums_by_halves) nm_sums_by_halves) (pi_seqK K (pv 5)) (fun _ _ _ _ nd => (pg_name (i := 0) nd rfl (by first | exact Or.inl rfl | exact Or.inr rfl))) (fun _ _ _ _ => pts_nil) (fun _ _ _ _ => (pe_fn g_chained (hr.mono (by first | assumption | decide | (clear hu; omega))) (pa_cons (pv 1) (pa_cons (pv 2) (pa_cons (pe_lst (pa_cons (pe_ix (ix_seqK K) (pv 3) (pe_un un_neg pe_int) (fun _ _ => rfl)) (pa_cons (pv 0) pa_nil))) pa_nil))))))))))))), (sok_seq (sok_if (ttok_test (tok_op ook_eq (tok_cb cbok_len (taok_cons tok_var taok_nil)) tok_int))
    (sok_ret (tok_cb cbok_list (taok_cons tok_var taok_nil)))
    sok_next)
    (sok_seq (sok_set (tok_op ook_int (tok_op ook_int0 (tok_cb cbok_len (taok_cons tok_var taok_nil)) tok_int) tok_int) rfl)
    (sok_seq (sok_set (tok_call (taok_cons tok_var (taok_cons tok_var (taok_cons (tok_slL tok_var took_no (took_part tok_var)) taok_nil)))) rfl)
    (sok_seq (sok_set (tok_call (taok_cons tok_var (taok_cons tok_var (taok_cons (tok_slL tok_var (took_part tok_var) took_no) taok_nil)))) rfl)
    (sok_ret (tok_op ook_cat tok_var (tok_comp (tiok_seq tok_var) (tgok_name rfl) ttok_all (tok_call (taok_cons tok_var (taok_cons tok_var (taok_cons (tok_lst (taok_cons (tok_op ook_ix tok_var (tok_neg tok_int)) (taok_cons tok_var taok_nil))) taok_nil)))))))))))⟩) ?_
  rintro ss q ⟨m, ds, xs, rfl, h0, h2, hz, hq⟩
  refine ⟨rfl, rfl, ?_⟩
  refine cutS (fun ρ => xs.length ≠ 1 ∧ ρ = [nv m, .ow ds, .vl (.lst (natsD xs)), .un, .un, .un]) (fun M hM => gEq_ok rfl rfl (by simp [D.depth]) (b := decide (xs.length = 1)) ?_ ?_) ?_
  · show eqD (.int (((natsD xs).length : Nat) : Int)) (.int 1) = _
    rw [natsD_len]
    simp only [eqD]
    rw [Bool.eq_iff_iff, beq_iff_eq, decide_eq_true_eq]
    (clear hz h2 h0; omega)
  · by_cases e : xs.length = 1
    · rw [decide_eq_true e]
      exact hq xs ds rfl (Nat.le_add_right _ _)
    · rw [decide_eq_false e]
      exact hM _ ⟨e, rfl⟩
  rintro _ ⟨e, rfl⟩
  cases j with
  | zero => rw [Nat.pow_zero] at h2; (clear hz; omega)
  | succ j =>
  have hh : ((((natsD xs).length : Nat) : Int) + 1) / 2 = (((xs.length + 1) / 2 : Nat) : Int) := by rw [natsD_len]; exact half_c _
  have hp : 2 ^ (j + 1) = 2 * 2 ^ j := by rw [Nat.pow_succ, Nat.mul_comm]
  have hpj : (j + 1) * 2 ^ (j + 1) = 2 * (j * 2 ^ j) + 2 * 2 ^ j := by rw [hp, Nat.add_mul, Nat.one_mul, Nat.mul_left_comm]
  rw [hpj] at hz hq
  rw [hp] at h2
  generalize hhf : (xs.length + 1) / 2 = hf at *
  have hf0 : 0 < hf := by clear hpj hp hh e hz h2; omega
  have hfx : hf ≤ xs.length := by clear hf0 hpj hp hh e hz h2; omega
  have hf2 : hf ≤ 2 ^ j := by clear hfx hf0 hpj hp hh e hz h0; omega
  have hr0 : 0 < xs.length - hf := by clear hf2 hfx hf0 hpj hp hh hz h2; omega
  have hr2 : xs.length - hf ≤ 2 ^ j := by clear hr0 hf2 hfx hf0 hpj hp hh e hz h0; omega
  have ltk : (xs.take hf).length = hf := by rw [List.length_take]; exact Nat.min_eq_left hfx
  refine cutS (fun ρ => ρ = [nv m, .ow ds, .vl (.lst (natsD xs)), nv hf, .un, .un]) (fun M hM => ⟨Dv.small (by decide) (by decide), hM _ (by rw [← nv_eq hh]; rfl)⟩) ?_
  rintro _ rfl
  refine cutS (fun ρ => ∃ (ys : List Nat) (es : List D), ys.length = hf ∧ es.length ≤ ds.length + j * 2 ^ j ∧ ρ = [nv m, .ow es, .vl (.lst (natsD xs)), nv hf, .ow (natsD ys), .un]) (fun M hM => ⟨rfl, m, ds, xs.take hf, ?_, by rw [ltk]; exact hf0, by rw [ltk]; exact hf2, by clear ltk hr2 hr0 hf2 hfx hf0 hhf hpj hp hh e h2 h0; omega, fun ys es hy he => hM _ ⟨ys, es, hy.trans ltk, he, rfl⟩⟩) ?_
  · show [_, _, Sv.vl (.lst (L2.cutD (natsD xs) none (some (hf : Int))))] = _
    rw [cutD_take]; unfold natsD; rw [List.map_take]; rfl
  rintro _ ⟨ys, es, hy, he, rfl⟩
  refine cutS (fun ρ => ∃ (zs : List Nat) (fs : List D), zs.length = xs.length - hf ∧ fs.length ≤ ds.length + 2 * (j * 2 ^ j) ∧ ρ = [nv m, .ow fs, .vl (.lst (natsD xs)), nv hf, .ow (natsD ys), .ow (natsD zs)]) (fun M hM => ⟨rfl, m, es, xs.drop hf, ?_, by rw [List.length_drop]; exact hr0, by rw [List.length_drop]; exact hr2, by clear hy ltk hr2 hr0 hf2 hfx hf0 hhf hpj hp hh e h2 h0; omega, fun zs fs h3 h4 => hM _ ⟨zs, fs, by rw [h3, List.length_drop], by clear hy ltk hr2 hr0 hf2 hfx hf0 hhf hpj hp hh e hz h2 h0; (clear h3; omega), rfl⟩⟩) ?_
  · show [_, _, Sv.vl (.lst (L2.cutD (natsD xs) (some (hf : Int)) none))] = _
    rw [cutD_drop]; unfold natsD; rw [List.map_drop]; rfl
  rintro _ ⟨zs, fs, hzl, hfl, rfl⟩
  have hzx : zs.length ≤ 2 ^ j := by rw [hzl]; exact hr2
  refine ⟨rfl, by rw [natsD_len]; clear hfl hzl he hy ltk hr2 hr0 hf2 hfx hf0 hhf hpj hp hh e h2 h0; omega, ?_⟩
  refine compA_inv (fun k acc ρ => ∃ (us : List Nat) (gs : List D), us.length = k ∧ gs.length ≤ fs.length + 2 * k ∧ k ≤ zs.length ∧ acc = natsD us ∧ ρ = [nv m, .ow gs, .vl (.lst (natsD xs)), nv hf, .ow (natsD ys), .ow (natsD zs)]) ?_ ?_ ?_ _ ⟨[], fs, rfl, Nat.le_add_right _ _, Nat.zero_le _, rfl, rfl⟩
  · rintro k acc ρ _ ⟨us, gs, _, _, _, _, rfl⟩; rfl
  · rintro k d acc _ M hk ⟨us, gs, hu, hg, hkz, rfl, rfl⟩ hM
    unfold natsD at hk
    rw [List.getElem?_map] at hk
    obtain ⟨t, ht, rfl⟩ := Option.map_eq_some_iff.mp hk
    have hkl := (List.getElem?_eq_some_iff.mp ht).1
    obtain ⟨z, ez⟩ := atm (xs := ys) (by rw [hy]; exact hf0)
    refine gIx_l rfl ez ⟨by simp, rfl, m, gs, [z, t], rfl, by simp, by simp only [List.length_cons, List.length_nil]; clear hkz hu hzl he hy ltk hr2 hr0 hf2 hfx hf0 hhf hpj hp hh e h2 h0; (clear ez hk ht; omega), fun t' gs' hg' => ?_⟩
    simp only [List.length_cons, List.length_nil] at hg'
    exact hM _ _ ⟨us ++ [t'], gs', by rw [List.length_append, hu]; rfl, by clear hkl hkz hu hzx hfl hzl he hy ltk hr2 hr0 hf2 hfx hf0 hhf hpj hp hh e hz h2 h0; (clear ez hk ht; omega), hkl, (natsD_snoc _ _).symm, rfl⟩
  rintro acc _ ⟨us, gs, hu, hg, _, rfl, rfl⟩
  rw [natsD_len] at hu hg
  refine ⟨by rw [natsD_len, natsD_len]; clear hg hfl hzl he ltk hr2 hr0 hfx hf0 hhf hpj hp hh e h2 h0; omega, ?_⟩
  have := hq (ys ++ us) gs (by rw [List.length_append]; clear hg hzx hfl he ltk hr2 hr0 hf2 hf0 hhf hpj hp hh e hz h2 h0; omega) (by clear hu hzl he hy ltk hr2 hr0 hf2 hfx hf0 hhf hpj hp hh e hz h2 h0; omega)
  unfold natsD at this ⊢
  rw [List.map_append] at this
  exact this
theorem ok_running_halves (dn : DefN K mg "running_halves" s_running_halves ["n"]) (B : BI mg) (g_refuse_width : OkN P w K mg base 1 "refuse_width" ["width", "least", "most"] (spA K SRefuse)) (g_sums_by_halves : OkN P w K mg base 7 "sums_by_halves" ["many", "joins", "things"] (spA K (SHf 5))) (c_MOST_GIVENS : ∃ u, mg "MOST_GIVENS" = some u ∧ RelV (.int 12) u) : OkN P w K mg base 8 "running_halves" ["n"] (spA K (SOne 1 12)) := by
  refine dn.aok2 (k := 7) sc_running_halves (fun j => j == 0) [.un, .un] (SOne 1 12) rfl (fun f cdv A outer s H E hr => have hu := hu_of hr; ⟨_, (pss_cons (ps_expr (pe_fn g_refuse_width (hr.mono (by decide)) (pa_cons (pv 0) (pa_cons pe_int (pa_cons (pe_gc c_MOST_GIVENS rfl) pa_nil)))))
    (pss_cons (ps_set (i := 1) sc_running_halves.nd rfl (by first | exact Or.inl rfl | exact Or.inr rfl) (pe_lst pa_nil))
    (pss_cons (ps_set (i := 2) sc_running_halves.nd rfl (by first | exact Or.inl rfl | exact Or.inr rfl) (pe_fn g_sums_by_halves (hr.mono (by decide)) (pa_cons (pv 0) (pa_cons (pv 1) (pa_cons (pe_callTy (call_listR rfl) rfl B.list_ bt_list (pa_cons (pe_callTy call_rangeO rfl B.range_ bt_range (pa_cons (pv 0) pa_nil)) pa_nil)) pa_nil)))))
    (pss_one (ps_ret (pe_tup (pa_cons (pv 0) (pa_cons (pe_callTy (call_tupleK K) rfl B.tuple_ bt_tuple (pa_cons (pv 1) pa_nil)) (pa_cons (pe_callTy (call_tupleK K) rfl B.tuple_ bt_tuple (pa_cons (pv 2) pa_nil)) pa_nil))))))))), (sok_seq (sok_drop (tok_call (taok_cons tok_var (taok_cons tok_int (taok_cons tok_int taok_nil)))))
    (sok_seq (sok_set (tok_lst taok_nil) rfl)
    (sok_seq (sok_set (tok_call (taok_cons tok_var (taok_cons tok_var (taok_cons (tok_lrng tok_var) taok_nil)))) rfl)
    (sok_ret (tok_tup (taok_cons tok_var (taok_cons (tok_cb cbok_tuple (taok_cons tok_var taok_nil)) (taok_cons (tok_cb cbok_tuple (taok_cons tok_var taok_nil)) taok_nil))))))))⟩) ?_
  rintro ss q ⟨n, rfl, h1, h12, hq⟩
  refine ⟨rfl, rfl, rfl, n, 1, 12, rfl, by first | assumption | decide | omega, by first | assumption | decide | omega, Nat.zero_le _, ⟨by first | assumption | decide | omega, by first | assumption | decide | omega⟩, ?_⟩
  rw [Int.toNat_natCast]
  exact ⟨rfl, n, [], List.range n, rfl, by rw [List.length_range]; omega, by rw [List.length_range]; exact Nat.le_trans h12 (by decide), by decide, fun ys es _ _ => ⟨by simp, hq _⟩⟩
end
end K95
set_option Elab.async false
set_option linter.all false
set_option maxRecDepth 100000
set_option maxHeartbeats 1000000
namespace K95
open PySem PySem.Spec PyProof.Rows L2
noncomputable def kvs (f : Nat → Int) (g : Nat → Nat) (c : Nat) : List (Key × D) := (List.range c).map fun j => (.inl (f j), nD (g j))
theorem val_gen {f : Nat → Int} {g : Nat → Nat} {i : Nat} : ∀ (l : List Nat), i ∈ l → (∀ j ∈ l, f j = f i → j = i) → valD (l.map fun j => ((.inl (f j) : Key), nD (g j))) (.inl (f i)) = some (nD (g i))
  | [], h, _ => (nomatch h)
  | j :: l, h, hi => by
    by_cases e : f j = f i
    · have := hi j (.head _) e
      subst this
      simp [valD]
    · have h' : i ∈ l := by
        rcases List.mem_cons.mp h with q | q
        · rw [q] at e; exact (e rfl).elim
        · exact q
      have := val_gen (f := f) (g := g) l h' fun z hz => hi z (.tail _ hz)
      unfold valD at this ⊢
      rw [List.map_cons, List.find?_cons]
      have ne : decide ((Sum.inl (f j) : Key) = .inl (f i)) = false := by
        apply decide_eq_false
        intro q; injection q with q; exact e q
      simp only [ne]
      exact this
theorem val_kvs {f : Nat → Int} {g : Nat → Nat} {c i : Nat} {z : Int} (h : i < c) (hz : z = f i) (hi : ∀ j, j < c → f j = f i → j = i) : valD (kvs f g c) (.inl z) = some (nD (g i)) := by
  subst hz
  exact val_gen (List.range c) (List.mem_range.mpr h) fun j hj => hi j (List.mem_range.mp hj)
theorem put_kvs {f : Nat → Int} {g : Nat → Nat} {c : Nat} {z : Int} (hz : z = f c) (hi : ∀ j, j < c → f j ≠ f c) : putD (kvs f g c) (.inl z) (nD (g c)) = kvs f g (c + 1) := by
  subst hz
  unfold putD
  rw [if_neg]
  · unfold kvs; rw [List.range_succ, List.map_append]; rfl
  · intro h
    rw [List.any_eq_true] at h
    obtain ⟨p, hp, hq⟩ := h
    obtain ⟨j, hj, rfl⟩ := List.mem_map.mp hp
    have hq' := of_decide_eq_true hq
    injection hq' with hq'
    exact hi j (List.mem_range.mp hj) hq'
noncomputable def gl (k : Nat) : Nat := (givens (k + 1)).getLastD 0
noncomputable def go (k : Nat) : List Nat := (givens (k + 1)).dropLast
theorem givS : ∀ k, k < 15 → givens (k + 1) = go k ++ [gl k] := by decide +kernel
theorem facts : ∀ k, k < 15 → gl k < 4 ∧ 2 ^ gl k ≤ k + 1 ∧ ((go k).isEmpty = decide (k + 1 - 2 ^ gl k = 0)) ∧ (go k).length ≤ 4 := by decide
noncomputable def SGivens : ASp := fun ss q => ∃ r : Nat, ss = [nv r] ∧ r < 4096 ∧ q (.f (natsD (givens r))) [nv r]
theorem shlI (n : Nat) : (1 : Int) * (2 : Int) ^ ((n : Int).toNat) = ((2 ^ n : Nat) : Int) := by rw [shl_nat, Nat.shiftLeft_eq, Nat.one_mul]
noncomputable def dkf (f : Nat → Nat) (c : Nat) : List (Key × D) := kvs (fun j => (j : Int) + 1) f c
theorem dkf_put {f : Nat → Nat} {c t : Nat} {z : Int} (hz : z = (c : Int) + 1) : ∃ g, putD (dkf f c) (.inl z) (nD t) = dkf g (c + 1) := by
  refine ⟨fun j => if j = c then t else f j, ?_⟩
  have e : dkf f c = kvs (fun j => (j : Int) + 1) (fun j => if j = c then t else f j) c := by
    unfold dkf kvs
    refine List.map_congr_left fun j hj => ?_
    have := List.mem_range.mp hj
    show ((.inl ((j : Int) + 1) : Key), nD (f j)) = (.inl ((j : Int) + 1), nD (if j = c then t else f j))
    rw [if_neg (by first | assumption | decide | (clear hz; omega))]
  rw [e]
  have := put_kvs (f := fun j => (j : Int) + 1) (g := fun j => if j = c then t else f j) (c := c) hz fun j hj h => by
    have h2 : (j : Int) + 1 = (c : Int) + 1 := h
    (clear h2 e hz; omega)
  simp only [if_true] at this
  exact this
theorem dkf_len (f : Nat → Nat) (c : Nat) : (dkf f c).length = c := by unfold dkf kvs; rw [List.length_map, List.length_range]
theorem toN1 (n : Nat) : ((n : Int) - 1).toNat = n - 1 := by first | assumption | decide | omega
theorem toN2 (n : Nat) : ((n : Int) - 1 - 0).toNat = n - 1 := by first | assumption | decide | omega
section
variable {P : Program} {w : World} {K : PySem.W.Frag} {mg : Str → Option Value} {base : Heap}
theorem ok_taken_out (dn : DefN K mg "taken_out" s_taken_out ["many", "joins"]) (B : BI mg) (g_chained : OkN P w K mg base 2 "chained" ["many", "joins", "things"] (spA K SCh)) : OkN P w K mg base 3 "taken_out" ["many", "joins"] (spA K SPt) := by
  refine dn.aok2 (k := 2) sc_taken_out (fun j => j == 0 || j == 1) [.un] SPt rfl (fun f cdv A outer s H E hr => have hu := hu_of hr; ⟨_, (pss_cons (ps_set (i := 2) sc_taken_out.nd rfl (by first | exact Or.inl rfl | exact Or.inr rfl) (pe_fn g_chained (hr.mono (by decide)) (pa_cons (pv 0) (pa_cons (pv 1) (pa_cons (pe_callTy (call_listR rfl) rfl B.list_ bt_list (pa_cons (pe_callTy call_rangeO rfl B.range_ bt_range (pa_cons (pv 0) pa_nil)) pa_nil)) pa_nil)))))
    (pss_one (ps_ret (pe_comp ["given"] [0, 1, 2] rfl (Blk.of (defScope s_taken_out) nm_taken_out) (pi_range1 rfl B.range_ (pa_cons (pv 0) pa_nil)) (fun _ _ _ _ nd => (pg_name (i := 0) nd rfl (by first | exact Or.inl rfl | exact Or.inr rfl))) (fun _ _ _ _ => pts_nil) (fun _ _ _ _ => (pe_fn g_chained (hr.mono (by decide)) (pa_cons (pv 1) (pa_cons (pv 2) (pa_cons (pe_lst (pa_cons (pv 3) (pa_cons (pv 0) pa_nil))) pa_nil))))))))), (sok_seq (sok_set (tok_call (taok_cons tok_var (taok_cons tok_var (taok_cons (tok_lrng tok_var) taok_nil)))) rfl)
    (sok_ret (tok_comp (tiok_rng1 (taok_cons tok_var taok_nil)) (tgok_name rfl) ttok_all (tok_call (taok_cons tok_var (taok_cons tok_var (taok_cons (tok_lst (taok_cons tok_var (taok_cons tok_var taok_nil))) taok_nil)))))))⟩) ?_
  rintro ss q ⟨n, rfl, h2, h12, hq⟩
  refine ⟨rfl, rfl, ⟨by first | assumption | decide | omega, by first | assumption | decide | omega⟩, ?_⟩
  rw [Int.toNat_natCast]
  refine ⟨rfl, n, [], List.range n, rfl, by rw [List.length_range]; omega, by rw [List.length_range]; simp only [List.length_nil]; omega, fun t es he => ?_⟩
  rw [List.length_range, List.length_nil] at he
  refine ⟨⟨by first | assumption | decide | (clear he; omega), by first | assumption | decide | (clear he; omega)⟩, by rw [rngD_len]; (clear he; omega), ?_⟩
  refine compA_inv (fun k acc ρ => ∃ (us : List Nat) (gs : List D), gs.length ≤ n + 2 * k ∧ acc = natsD us ∧ ρ = [nv n, .ow gs, nv t]) (fun _ _ _ _ _ => trivial) ?_ ?_ _ ⟨[], es, by first | assumption | decide | (clear h12 h2; omega), rfl, rfl⟩
  · rintro k d acc _ M hk ⟨us, gs, hg, rfl, rfl⟩ hM
    obtain ⟨lt, rfl⟩ := rngD_get hk
    rw [Int.zero_add]
    refine ⟨by simp, rfl, n, gs, [t, k], rfl, by simp, by simp only [List.length_cons, List.length_nil]; (clear hk he; omega), fun t' gs' hg' => ?_⟩
    simp only [List.length_cons, List.length_nil] at hg'
    exact hM _ _ ⟨us ++ [t'], gs', by first | assumption | decide | (clear hk lt he h12 h2; omega), (natsD_snoc _ _).symm, rfl⟩
  rintro acc _ ⟨us, gs, _, rfl, rfl⟩
  exact hq us gs
theorem ok_parted_sums (dn : DefN K mg "parted_sums" s_parted_sums ["many", "joins"]) (B : BI mg) (g_running_sums : OkN P w K mg base 3 "running_sums" ["many", "joins", "things"] (spA K SRu)) (g_chained : OkN P w K mg base 2 "chained" ["many", "joins", "things"] (spA K SCh)) : OkN P w K mg base 4 "parted_sums" ["many", "joins"] (spA K SPt) := by
  refine dn.aok2 (k := 3) sc_parted_sums (fun j => j == 0 || j == 1) [.un, .un, .un, .un] SPt rfl (fun f cdv A outer s H E hr => have hu := hu_of hr; ⟨_, (pss_cons (ps_set (i := 2) sc_parted_sums.nd rfl (by first | exact Or.inl rfl | exact Or.inr rfl) (pe_fn g_running_sums (hr.mono (by decide)) (pa_cons (pv 0) (pa_cons (pv 1) (pa_cons (pe_callTy (call_listR rfl) rfl B.list_ bt_list (pa_cons (pe_callTy call_rangeO rfl B.range_ bt_range (pa_cons (pe_op op_sub (pv 0) pe_int) pa_nil)) pa_nil)) pa_nil)))))
    (pss_cons (ps_set (i := 3) sc_parted_sums.nd rfl (by first | exact Or.inl rfl | exact Or.inr rfl) (pe_fn g_running_sums (hr.mono (by decide)) (pa_cons (pv 0) (pa_cons (pv 1) (pa_cons (pe_ldwn rfl rfl B.list_ rfl B.range_ (pa_cons (pe_op op_sub (pv 0) pe_int) (pa_cons pe_int (pa_cons (pe_un un_neg pe_int) pa_nil)))) pa_nil)))))
    (pss_cons (ps_set (i := 4) sc_parted_sums.nd rfl (by first | exact Or.inl rfl | exact Or.inr rfl) (pe_revK K (pv 3) (po_some (pe_un un_neg pe_int)) (ops := fun v i => [v, i]) (htl := fun _ _ => rfl)))
    (pss_cons (ps_setC (i := 5) ["given"] [0, 1, 2, 4] sc_parted_sums.nd rfl (by first | exact Or.inl rfl | exact Or.inr rfl) rfl (Blk.of (defScope s_parted_sums) nm_parted_sums) (pi_range2 rfl B.range_ (pa_cons pe_int (pa_cons (pe_op op_sub (pv 0) pe_int) pa_nil))) (fun _ _ _ _ nd => (pg_name (i := 0) nd rfl (by first | exact Or.inl rfl | exact Or.inr rfl))) (fun _ _ _ _ => pts_nil) (fun _ _ _ _ => (pe_fn g_chained (hr.mono (by decide)) (pa_cons (pv 1) (pa_cons (pv 2) (pa_cons (pe_lst (pa_cons (pe_ix (ix_seqK K) (pv 3) (pe_op op_sub (pv 0) pe_int) (fun _ _ => rfl)) (pa_cons (pe_ix (ix_seqK K) (pv 4) (pv 0) (fun _ _ => rfl)) pa_nil))) pa_nil))))))
    (pss_one (ps_ret (pe_op (op_catL K) (pe_op (op_catL K) (pe_lst (pa_cons (pe_ix (ix_seqK K) (pv 4) pe_int (fun _ _ => rfl)) pa_nil)) (pv 5)) (pe_lst (pa_cons (pe_ix (ix_seqK K) (pv 2) (pe_un un_neg pe_int) (fun _ _ => rfl)) pa_nil))))))))), (sok_seq (sok_set (tok_call (taok_cons tok_var (taok_cons tok_var (taok_cons (tok_lrng (tok_op ook_int0 tok_var tok_int)) taok_nil)))) rfl)
    (sok_seq (sok_set (tok_call (taok_cons tok_var (taok_cons tok_var (taok_cons (tok_ldwn (taok_cons (tok_op ook_int0 tok_var tok_int) (taok_cons tok_int (taok_cons (tok_neg tok_int) taok_nil)))) taok_nil)))) rfl)
    (sok_seq (sok_set (tok_rev tok_var (took_part (tok_neg tok_int))) rfl)
    (sok_seq (sok_setC (tok_comp (tiok_rng2 (taok_cons tok_int (taok_cons (tok_op ook_int0 tok_var tok_int) taok_nil))) (tgok_name rfl) ttok_all (tok_call (taok_cons tok_var (taok_cons tok_var (taok_cons (tok_lst (taok_cons (tok_op ook_ix tok_var (tok_op ook_int0 tok_var tok_int)) (taok_cons (tok_op ook_ix tok_var tok_var) taok_nil))) taok_nil))))) rfl)
    (sok_ret (tok_op ook_cat (tok_op ook_cat (tok_lst (taok_cons (tok_op ook_ix tok_var tok_int) taok_nil)) tok_var) (tok_lst (taok_cons (tok_op ook_ix tok_var (tok_neg tok_int)) taok_nil))))))))⟩) ?_
  rintro ss q ⟨n, rfl, h2, h12, hq⟩
  refine ⟨rfl, rfl, ⟨by first | assumption | decide | omega, by first | assumption | decide | omega⟩, ?_⟩
  rw [show ((n : Int) - 1).toNat = n - 1 from toN1 n]
  refine ⟨rfl, n, [], List.range (n - 1), rfl, by rw [List.length_range]; clear h12; omega, by rw [List.length_range]; simp only [List.length_nil]; clear h2; omega, fun ah es hah hes => ?_⟩
  rw [List.length_range] at hah hes
  rw [List.length_nil] at hes
  refine ⟨⟨by clear hes hah; omega, by clear hes hah; omega, by clear hes hah; (clear h12 h2; omega), by clear hes hah; (clear h12 h2; omega)⟩, ?_⟩
  have ed : dwnD ((n : Int) - 1) ((n : Int) - 1 - 0).toNat = natsD ((List.range (n - 1)).map fun i => n - 1 - i) := by
    unfold dwnD natsD
    rw [show ((n : Int) - 1 - 0).toNat = n - 1 from toN2 n, List.map_map]
    apply List.map_congr_left
    intro i hi
    have := List.mem_range.mp hi
    show D.int ((n : Int) - 1 - (i : Int)) = D.int ((n - 1 - i : Nat) : Int)
    congr 1; clear hes hah h12 h2; omega
  rw [ed]
  refine ⟨rfl, n, es, (List.range (n - 1)).map fun i => n - 1 - i, rfl, by rw [List.length_map, List.length_range]; clear hes hah h12; (clear ed; omega), by rw [List.length_map, List.length_range]; clear hah h2; (clear ed; omega), fun fb fs hfb hfs => ?_⟩
  rw [List.length_map, List.length_range] at hfb hfs
  dsimp only [stS, pt, back, R.frz]
  refine cutS (fun ρ => ρ = [nv n, .ow fs, .ow (natsD ah), .ow (natsD fb), .ow (natsD fb.reverse), .un]) (fun M hM => ⟨rfl, hM _ ?_⟩) ?_
  · unfold natsD
    rw [List.map_reverse]
    rfl
  rintro _ rfl
  have hrl : fb.reverse.length = n - 1 := by rw [List.length_reverse, hfb]
  refine cutS (fun ρ => ∃ (us : List Nat) (gs : List D), us.length ≤ 100 ∧ ρ = [nv n, .ow gs, .ow (natsD ah), .ow (natsD fb), .ow (natsD fb.reverse), .ow (natsD us)]) (fun M hM => ⟨⟨by clear hrl hfs hfb hes hah; (clear ed h12 h2; omega), by clear hrl hfs hfb hes hah; (clear ed h12 h2; omega), by clear hrl hfs hfb hes hah; (clear ed; omega), by clear hrl hfs hfb hes hah; (clear ed; omega)⟩, by rw [rngD_len]; clear hrl hfs hfb hes hah h2; (clear ed; omega), ?_⟩) ?_
  · refine compA_inv (fun k acc ρ => ∃ (us : List Nat) (gs : List D), us.length = k ∧ k ≤ 12 ∧ gs.length ≤ fs.length + 2 * k ∧ acc = natsD us ∧ ρ = [nv n, .ow gs, .ow (natsD ah), .ow (natsD fb), .ow (natsD fb.reverse), .un]) (fun _ _ _ _ _ => trivial) ?_ ?_ _ ⟨[], fs, rfl, Nat.zero_le _, Nat.le_add_right _ _, rfl, rfl⟩
    · rintro k d acc _ M3 hk ⟨us, gs, hu, hk12, hg, rfl, rfl⟩ hM3
      obtain ⟨lt, rfl⟩ := rngD_get hk
      obtain ⟨z1, e1⟩ := atk (xs := ah) (z := (1 : Int) + (k : Int) - 1) (by clear lt hg hk12 hu hrl hfs hfb hes hah h12 h2; (clear hk ed; omega)) (by clear hg hk12 hu hrl hfs hfb hes h12; (clear hk ed h2; omega))
      obtain ⟨z2, e2⟩ := atk (xs := fb.reverse) (z := (1 : Int) + (k : Int)) (by clear lt hg hk12 hu hrl hfs hfb hes hah h12 h2; (clear e1 hk ed; omega)) (by clear hg hk12 hu hfs hfb hes hah h12; (clear e1 hk ed h2; omega))
      refine gIx_l rfl e1 (gIx_l rfl e2 ⟨by simp, rfl, n, gs, [z1, z2], rfl, by simp, by simp only [List.length_cons, List.length_nil]; clear lt hu hrl hfb hah h2; (clear e2 e1 hk ed; omega), fun t' gs' hg' => ?_⟩)
      simp only [List.length_cons, List.length_nil] at hg'
      exact hM3 _ _ ⟨us ++ [t'], gs', by rw [List.length_append, hu]; rfl, by clear hg' hg hk12 hu hrl hfs hfb hes hah h2; (clear e2 e1 hk ed; omega), by clear lt hk12 hu hrl hfs hfb hes hah h12 h2; (clear e2 e1 hk ed; omega), (natsD_snoc _ _).symm, rfl⟩
    · rintro acc _ ⟨us, gs, hu, _, _, rfl, rfl⟩
      rw [rngD_len] at hu
      exact hM _ ⟨us, gs, by clear hrl hfs hfb hes hah h2; (clear ed; omega), rfl⟩
  rintro _ ⟨us, gs, hu, rfl⟩
  obtain ⟨z1, e1⟩ := atk (xs := fb.reverse) (z := 0) (Int.le_refl 0) (by clear hu hfs hfb hes hah h12; (clear ed; omega))
  obtain ⟨z2, e2⟩ := atm (xs := ah) (by clear hu hrl hfs hfb hes h12; (clear e1 ed; omega))
  refine gIx_l rfl e1 ⟨by simp, ⟨by rw [natsD_len]; simp only [List.length_cons, List.length_nil]; clear hrl hfs hfb hes hah h12 h2; (clear e2 e1 ed; omega), gIx_l rfl e2 ⟨by simp, ⟨by rw [List.length_append, natsD_len]; simp only [List.length_cons, List.length_nil]; clear hrl hfs hfb hes hah h12 h2; (clear e2 e1 ed; omega), ?_⟩⟩⟩⟩
  have := hq ([z1] ++ us ++ [z2]) gs
  unfold natsD at this
  rw [List.map_append, List.map_append] at this
  exact this
theorem ok_all_but (dn : DefN K mg "all_but" s_all_but ["n", "clean"]) (B : BI mg) (g_refuse_width : OkN P w K mg base 1 "refuse_width" ["width", "least", "most"] (spA K SRefuse)) (g_parted_sums : OkN P w K mg base 4 "parted_sums" ["many", "joins"] (spA K SPt)) (g_taken_out : OkN P w K mg base 3 "taken_out" ["many", "joins"] (spA K SPt)) (c_MOST_GIVENS : ∃ u, mg "MOST_GIVENS" = some u ∧ RelV (.int 12) u) : OkN P w K mg base 5 "all_but" ["n", "clean"] (spA K SAll) := by
  refine dn.aok2 (k := 4) sc_all_but (fun j => j == 0 || j == 1) [.un, .un] SAll rfl (fun f cdv A outer s H E hr => have hu := hu_of hr; ⟨_, (pss_cons (ps_expr (pe_fn g_refuse_width (hr.mono (by decide)) (pa_cons (pv 0) (pa_cons pe_int (pa_cons (pe_gc c_MOST_GIVENS rfl) pa_nil)))))
    (pss_cons (ps_set (i := 2) sc_all_but.nd rfl (by first | exact Or.inl rfl | exact Or.inr rfl) (pe_lst pa_nil))
    (pss_cons (ps_set (i := 3) sc_all_but.nd rfl (by first | exact Or.inl rfl | exact Or.inr rfl) (pe_ifExp (pt_truthK K (pv 1) (fun _ => rfl)) (pe_fn g_parted_sums (hr.mono (by decide)) (pa_cons (pv 0) (pa_cons (pv 2) pa_nil))) (pe_fn g_taken_out (hr.mono (by decide)) (pa_cons (pv 0) (pa_cons (pv 2) pa_nil)))))
    (pss_one (ps_ret (pe_tup (pa_cons (pv 0) (pa_cons (pe_callTy (call_tupleK K) rfl B.tuple_ bt_tuple (pa_cons (pv 2) pa_nil)) (pa_cons (pe_callTy (call_tupleK K) rfl B.tuple_ bt_tuple (pa_cons (pv 3) pa_nil)) pa_nil))))))))), (sok_seq (sok_drop (tok_call (taok_cons tok_var (taok_cons tok_int (taok_cons tok_int taok_nil)))))
    (sok_seq (sok_set (tok_lst taok_nil) rfl)
    (sok_seq (sok_set (tok_if (ttok_tru tok_var) (tok_call (taok_cons tok_var (taok_cons tok_var taok_nil))) (tok_call (taok_cons tok_var (taok_cons tok_var taok_nil)))) rfl)
    (sok_ret (tok_tup (taok_cons tok_var (taok_cons (tok_cb cbok_tuple (taok_cons tok_var taok_nil)) (taok_cons (tok_cb cbok_tuple (taok_cons tok_var taok_nil)) taok_nil))))))))⟩) ?_
  rintro ss q ⟨n, b, rfl, h2, h12, hq⟩
  refine ⟨rfl, rfl, rfl, n, 2, 12, rfl, by first | assumption | decide | omega, by first | assumption | decide | omega, Nat.zero_le _, ?_⟩
  cases b with
  | true => exact ⟨rfl, n, rfl, h2, h12, fun ys es => ⟨by simp, hq _⟩⟩
  | false => exact ⟨rfl, n, rfl, h2, h12, fun ys es => ⟨by simp, hq _⟩⟩
theorem ok_windows (dn : DefN K mg "windows" s_windows ["n", "w"]) (B : BI mg) (g_refuse_width : OkN P w K mg base 1 "refuse_width" ["width", "least", "most"] (spA K SRefuse)) (g_running_sums : OkN P w K mg base 3 "running_sums" ["many", "joins", "things"] (spA K SRu)) (g_chained : OkN P w K mg base 2 "chained" ["many", "joins", "things"] (spA K SCh)) (c_MOST_GIVENS : ∃ u, mg "MOST_GIVENS" = some u ∧ RelV (.int 12) u) : OkN P w K mg base 4 "windows" ["n", "w"] (spA K SWin) := by
  refine dn.aok2 (k := 3) sc_windows (fun j => j == 0 || j == 1) [.un, .un, .un] SWin rfl (fun f cdv A outer s H E hr => have hu := hu_of hr; ⟨_, (pss_cons (ps_expr (pe_fn g_refuse_width (hr.mono (by decide)) (pa_cons (pv 0) (pa_cons pe_int (pa_cons (pe_gc c_MOST_GIVENS rfl) pa_nil)))))
    (pss_cons (ps_expr (pe_fn g_refuse_width (hr.mono (by decide)) (pa_cons (pv 1) (pa_cons pe_int (pa_cons (pv 0) pa_nil)))))
    (pss_cons (ps_set (i := 2) sc_windows.nd rfl (by first | exact Or.inl rfl | exact Or.inr rfl) (pe_lst pa_nil))
    (pss_cons (ps_set (i := 3) sc_windows.nd rfl (by first | exact Or.inl rfl | exact Or.inr rfl) (pe_fn g_running_sums (hr.mono (by decide)) (pa_cons (pv 0) (pa_cons (pv 2) (pa_cons (pe_callTy (call_listR rfl) rfl B.list_ bt_list (pa_cons (pe_callTy call_rangeO rfl B.range_ bt_range (pa_cons (pv 0) pa_nil)) pa_nil)) pa_nil)))))
    (pss_cons (ps_setC (i := 4) ["first"] [0, 2, 3, 1] sc_windows.nd rfl (by first | exact Or.inl rfl | exact Or.inr rfl) rfl (Blk.of (defScope s_windows) nm_windows) (pi_range2 rfl B.range_ (pa_cons pe_int (pa_cons (pe_op op_add (pe_op op_sub (pv 0) (pv 1)) pe_int) pa_nil))) (fun _ _ _ _ nd => (pg_name (i := 0) nd rfl (by first | exact Or.inl rfl | exact Or.inr rfl))) (fun _ _ _ _ => pts_nil) (fun _ _ _ _ => (pe_fn g_chained (hr.mono (by decide)) (pa_cons (pv 1) (pa_cons (pv 2) (pa_cons (pe_lst (pa_cons (pe_ix (ix_seqK K) (pv 3) (pe_op op_sub (pe_op op_add (pv 0) (pv 4)) pe_int) (fun _ _ => rfl)) (pa_cons (pe_ix (ix_seqK K) (pv 3) (pe_op op_sub (pv 0) pe_int) (fun _ _ => rfl)) pa_nil))) pa_nil))))))
    (pss_one (ps_ret (pe_tup (pa_cons (pv 0) (pa_cons (pe_callTy (call_tupleK K) rfl B.tuple_ bt_tuple (pa_cons (pv 2) pa_nil)) (pa_cons (pe_callTy (call_tupleK K) rfl B.tuple_ bt_tuple (pa_cons (pe_op (op_catL K) (pe_lst (pa_cons (pe_ix (ix_seqK K) (pv 3) (pe_op op_sub (pv 1) pe_int) (fun _ _ => rfl)) pa_nil)) (pv 4)) pa_nil)) pa_nil))))))))))), (sok_seq (sok_drop (tok_call (taok_cons tok_var (taok_cons tok_int (taok_cons tok_int taok_nil)))))
    (sok_seq (sok_drop (tok_call (taok_cons tok_var (taok_cons tok_int (taok_cons tok_var taok_nil)))))
    (sok_seq (sok_set (tok_lst taok_nil) rfl)
    (sok_seq (sok_set (tok_call (taok_cons tok_var (taok_cons tok_var (taok_cons (tok_lrng tok_var) taok_nil)))) rfl)
    (sok_seq (sok_setC (tok_comp (tiok_rng2 (taok_cons tok_int (taok_cons (tok_op ook_int0 (tok_op ook_int0 tok_var tok_var) tok_int) taok_nil))) (tgok_name rfl) ttok_all (tok_call (taok_cons tok_var (taok_cons tok_var (taok_cons (tok_lst (taok_cons (tok_op ook_ix tok_var (tok_op ook_int0 (tok_op ook_int0 tok_var tok_var) tok_int)) (taok_cons (tok_op ook_ix tok_var (tok_op ook_int0 tok_var tok_int)) taok_nil))) taok_nil))))) rfl)
    (sok_ret (tok_tup (taok_cons tok_var (taok_cons (tok_cb cbok_tuple (taok_cons tok_var taok_nil)) (taok_cons (tok_cb cbok_tuple (taok_cons (tok_op ook_cat (tok_lst (taok_cons (tok_op ook_ix tok_var (tok_op ook_int0 tok_var tok_int)) taok_nil)) tok_var) taok_nil)) taok_nil))))))))))⟩) ?_
  rintro ss q ⟨n, w, rfl, h2, hwn, h12, hq⟩
  refine ⟨rfl, rfl, rfl, n, 2, 12, rfl, by first | assumption | decide | omega, by first | assumption | decide | (clear hwn h2; omega), rfl, w, 2, n, rfl, by first | assumption | decide | (clear h12 hwn; omega), by first | assumption | decide | (clear h12 h2; omega), Nat.zero_le _, ⟨by first | assumption | decide | (clear hwn h2; omega), by first | assumption | decide | (clear hwn h2; omega)⟩, ?_⟩
  rw [Int.toNat_natCast]
  refine ⟨rfl, n, [], List.range n, rfl, by rw [List.length_range]; omega, by rw [List.length_range]; simp only [List.length_nil]; (clear hwn h2; omega), fun ys es hy he => ⟨⟨by first | assumption | decide | omega, by first | assumption | decide | omega, by first | assumption | decide | (clear he hy h12 h2; omega), by first | assumption | decide | (clear he hy hwn; omega)⟩, by rw [rngD_len]; (clear he hy hwn; omega), ?_⟩⟩
  rw [List.length_range] at hy he
  rw [List.length_nil] at he
  refine compA_inv (fun k acc ρ => ∃ (us : List Nat) (gs : List D), us.length = k ∧ gs.length ≤ 24 + 2 * k ∧ acc = natsD us ∧ ρ = [nv n, nv w, .ow gs, .ow (natsD ys), .un]) (fun _ _ _ _ _ => trivial) ?_ ?_ _ ⟨[], es, rfl, by first | assumption | decide | omega, rfl, rfl⟩
  · rintro k d acc _ M hk ⟨us, gs, hu, hg, rfl, rfl⟩ hM
    obtain ⟨lt, rfl⟩ := rngD_get hk
    obtain ⟨z1, e1⟩ := atk (xs := ys) (z := (1 : Int) + (k : Int) + (w : Int) - 1) (by first | assumption | decide | (clear hk lt hg he hy h12 hwn; omega)) (by first | assumption | decide | (clear hk hg he h12 hwn h2; omega))
    obtain ⟨z2, e2⟩ := atk (xs := ys) (z := (1 : Int) + (k : Int) - 1) (by first | assumption | decide | (clear e1 hk lt hg he hy h12 hwn h2; omega)) (by first | assumption | decide | (clear e1 hk hg he h12 hwn; omega))
    refine gIx_l rfl e1 (gIx_l rfl e2 ⟨by simp, rfl, n, gs, [z1, z2], rfl, by simp, by simp only [List.length_cons, List.length_nil]; (clear e2 e1 hk he hwn; omega), fun t' gs' hg' => ?_⟩)
    simp only [List.length_cons, List.length_nil] at hg'
    exact hM _ _ ⟨us ++ [t'], gs', by rw [List.length_append, hu]; rfl, by first | assumption | decide | (clear e2 e1 hk lt hu he hy h12 hwn h2; omega), (natsD_snoc _ _).symm, rfl⟩
  rintro acc _ ⟨us, gs, hu, _, rfl, rfl⟩
  rw [rngD_len] at hu
  obtain ⟨z1, e1⟩ := atk (xs := ys) (z := (w : Int) - 1) (by first | assumption | decide | (clear hu he hy h12 hwn; omega)) (by first | assumption | decide | (clear hu he h12 h2; omega))
  exact gIx_l rfl e1 ⟨by simp, by rw [natsD_len]; simp only [List.length_cons, List.length_nil]; (clear e1 he hwn; omega), by simp, hq _⟩
theorem ok_neighbours (dn : DefN K mg "neighbours" s_neighbours ["n"]) (B : BI mg) (g_refuse_width : OkN P w K mg base 1 "refuse_width" ["width", "least", "most"] (spA K SRefuse)) (c_MOST_GIVENS : ∃ u, mg "MOST_GIVENS" = some u ∧ RelV (.int 12) u) : OkN P w K mg base 2 "neighbours" ["n"] (spA K (SOne 2 12)) := by
  refine dn.aok2 (k := 1) sc_neighbours (fun j => j == 0) [.un] (SOne 2 12) rfl (fun f cdv A outer s H E hr => have hu := hu_of hr; ⟨_, (pss_cons (ps_expr (pe_fn g_refuse_width (hr.mono (by decide)) (pa_cons (pv 0) (pa_cons pe_int (pa_cons (pe_gc c_MOST_GIVENS rfl) pa_nil)))))
    (pss_cons (ps_setC (i := 1) ["given"] [] sc_neighbours.nd rfl (by first | exact Or.inl rfl | exact Or.inr rfl) rfl (Blk.of (defScope s_neighbours) nm_neighbours) (pi_range1 rfl B.range_ (pa_cons (pe_op op_sub (pv 0) pe_int) pa_nil)) (fun _ _ _ _ nd => (pg_name (i := 0) nd rfl (by first | exact Or.inl rfl | exact Or.inr rfl))) (fun _ _ _ _ => pts_nil) (fun _ _ _ _ => (pe_tup (pa_cons (pv 0) (pa_cons (pe_op op_add (pv 0) pe_int) pa_nil)))))
    (pss_one (ps_ret (pe_tup (pa_cons (pv 0) (pa_cons (pe_callTy (call_tupleK K) rfl B.tuple_ bt_tuple (pa_cons (pv 1) pa_nil)) (pa_cons (pe_callTy (call_tupleR2 rfl) rfl B.tuple_ bt_tuple (pa_cons (pe_callTy call_range2O rfl B.range_ bt_range (pa_cons (pv 0) (pa_cons (pe_op op_add (pv 0) (pe_callB (call_lenK K) rfl B.len_ bt_len (pa_cons (pv 1) pa_nil))) pa_nil))) pa_nil)) pa_nil)))))))), (sok_seq (sok_drop (tok_call (taok_cons tok_var (taok_cons tok_int (taok_cons tok_int taok_nil)))))
    (sok_seq (sok_setC (tok_comp (tiok_rng1 (taok_cons (tok_op ook_int0 tok_var tok_int) taok_nil)) (tgok_name rfl) ttok_all (tok_tup (taok_cons tok_var (taok_cons (tok_op ook_int0 tok_var tok_int) taok_nil)))) rfl)
    (sok_ret (tok_tup (taok_cons tok_var (taok_cons (tok_cb cbok_tuple (taok_cons tok_var taok_nil)) (taok_cons (tok_rngO true (taok_cons tok_var (taok_cons (tok_op ook_int0 tok_var (tok_cb cbok_len (taok_cons tok_var taok_nil))) taok_nil))) taok_nil)))))))⟩) ?_
  rintro ss q ⟨n, rfl, h2, h12, hq⟩
  refine ⟨rfl, rfl, rfl, n, 2, 12, rfl, by first | assumption | decide | omega, by first | assumption | decide | omega, ⟨by first | assumption | decide | omega, by first | assumption | decide | omega⟩, by rw [rngD_len]; omega, ?_⟩
  rw [show ((n : Int) - 1).toNat = n - 1 by omega]
  refine compA_rng (fun k => L2.pairD (k, k + 1)) trivial (fun k acc M hk hM => ⟨by simp, ?_⟩) ⟨⟨by first | assumption | decide | omega, by first | assumption | decide | omega, by first | assumption | decide | omega, by rw [List.length_map, List.length_range]; omega⟩, by simp, hq _⟩
  rw [Int.zero_add]
  exact hM
theorem ok_givens_of (dn : DefN K mg "givens_of" s_givens_of ["row"]) (B : BI mg) : OkN P w K mg base 1 "givens_of" ["row"] (spA K SGivens) := by
  refine dn.aok2 (k := 0) sc_givens_of (fun j => j == 0) [] SGivens rfl (fun f cdv A outer s H E hr => have hu := hu_of hr; ⟨_, (pss_one (ps_ret (pe_comp ["given"] [0] rfl (Blk.of (defScope s_givens_of) nm_givens_of) (pi_range1 rfl B.range_ (pa_cons (pe_bm0K K PySem.F.plainAttrs_int PySem.F.slot_int_bit_length PySem.F.type_int_bit_length mt_bits (pv 0)) pa_nil)) (fun _ _ _ _ nd => (pg_name (i := 0) nd rfl (by first | exact Or.inl rfl | exact Or.inr rfl))) (fun _ _ _ _ => (pts_one (pt_truthK K (pe_op op_and (pe_op op_shr (pv 1) (pv 0)) pe_int) (fun _ => rfl)))) (fun _ _ _ _ => (pv 0))))), (sok_ret (tok_comp (tiok_rng1 (taok_cons (tok_bits tok_var) taok_nil)) (tgok_name rfl) (ttok_tru (tok_op ook_int0 (tok_op ook_int tok_var tok_var) tok_int)) tok_var))⟩) ?_
  rintro ss q ⟨r, rfl, hr, hq⟩
  refine ⟨rfl, rfl, ?_⟩
  have hb : bitsN r ≤ 12 := by
    unfold bitsN
    split
    · (clear hr; omega)
    · rename_i h0
      have := (Nat.log2_lt h0).mpr (show r < 2 ^ 12 by first | assumption | decide | omega)
      (clear h0 hr; omega)
  have eb : ((Builtin.Int.intBits (r : Int) : Nat) : Int) = ((bitsN r : Nat) : Int) := by rw [bits_nat]
  refine ⟨⟨by first | assumption | decide | (clear hr; omega), by first | assumption | decide | (clear hr; omega)⟩, by rw [rngD_len]; (clear hr; omega), ?_⟩
  refine compA_inv (fun k acc ρ => acc = natsD ((List.range k).filter r.testBit) ∧ ρ = [nv r]) (fun _ _ _ _ _ => trivial) ?_ ?_ _ ⟨rfl, rfl⟩
  · rintro k d acc _ M hk ⟨rfl, rfl⟩ hM
    obtain ⟨lt, rfl⟩ := rngD_get hk
    rw [Int.zero_add]
    refine ⟨Int.natCast_nonneg _, ?_⟩
    show if (Builtin.bitAnd ((r : Int) / 2 ^ ((k : Int).toNat)) 1 != 0) = true then M (natsD ((List.range k).filter r.testBit) ++ [nD k]) [nv r] else M (natsD ((List.range k).filter r.testBit)) [nv r]
    rw [bit_nat]
    cases e : r.testBit k with
    | true => exact hM _ _ ⟨by rw [List.range_succ, List.filter_append, ← natsD_snoc]; simp [e], rfl⟩
    | false => exact hM _ _ ⟨by rw [List.range_succ, List.filter_append]; simp [e], rfl⟩
  rintro acc _ ⟨rfl, rfl⟩
  rw [rngD_len, eb, Int.toNat_natCast]
  exact hq
theorem ok_all_sums (dn : DefN K mg "all_sums" s_all_sums ["n"]) (B : BI mg) (g_refuse_width : OkN P w K mg base 1 "refuse_width" ["width", "least", "most"] (spA K SRefuse)) (g_givens_of : OkN P w K mg base 1 "givens_of" ["row"] (spA K SGivens)) (g_chained : OkN P w K mg base 2 "chained" ["many", "joins", "things"] (spA K SCh)) (c_MOST_ALL_SUMS : ∃ u, mg "MOST_ALL_SUMS" = some u ∧ RelV (.int 4) u) : OkN P w K mg base 3 "all_sums" ["n"] (spA K (SOne 1 4)) := by
  refine dn.aok2 (k := 2) sc_all_sums (fun j => j == 0) [.un, .un, .un, .un, .un] (SOne 1 4) rfl (fun f cdv A outer s H E hr => have hu := hu_of hr; ⟨_, (pss_cons (ps_expr (pe_fn g_refuse_width (hr.mono (by decide)) (pa_cons (pv 0) (pa_cons pe_int (pa_cons (pe_gc c_MOST_ALL_SUMS rfl) pa_nil)))))
    (pss_cons (ps_set (i := 1) sc_all_sums.nd rfl (by first | exact Or.inl rfl | exact Or.inr rfl) (pe_lst pa_nil))
    (pss_cons (ps_set (i := 2) sc_all_sums.nd rfl (by first | exact Or.inl rfl | exact Or.inr rfl) pe_dnewK)
    (pss_cons (ps_for PassesOwn.never rfl (pi_range2 rfl B.range_ (pa_cons pe_int (pa_cons (pe_op op_shl pe_int (pv 0)) pa_nil))) (pg_name (i := 3) sc_all_sums.nd rfl (by first | exact Or.inl rfl | exact Or.inr rfl))
    (pss_cons (ps_asg (pe_fn g_givens_of (hr.mono (by decide)) (pa_cons (pv 3) pa_nil)) (pg_starK K rfl (pg_name (i := 4) sc_all_sums.nd rfl (by first | exact Or.inl rfl | exact Or.inr rfl)) (pg_name (i := 5) sc_all_sums.nd rfl (by first | exact Or.inl rfl | exact Or.inr rfl))))
    (pss_one (ps_dput hu (pv 2) (pv 3) (pe_ifExp (pt_truthK K (pv 4) (fun _ => rfl)) (pe_fn g_chained (hr.mono (by decide)) (pa_cons (pv 0) (pa_cons (pv 1) (pa_cons (pe_lst (pa_cons (pe_dget hu (pv 2) (pe_op op_sub (pv 3) (pe_op op_shl pe_int (pv 5))) (fun _ _ => rfl)) (pa_cons (pv 5) pa_nil))) pa_nil)))) (pv 5)) rfl))))
    (pss_one (ps_ret (pe_tup (pa_cons (pv 0) (pa_cons (pe_callTy (call_tupleK K) rfl B.tuple_ bt_tuple (pa_cons (pv 1) pa_nil)) (pa_cons (pe_tupVals rfl rfl B.tuple_ (pv 2)) pa_nil)))))))))), (sok_seq (sok_drop (tok_call (taok_cons tok_var (taok_cons tok_int (taok_cons tok_int taok_nil)))))
    (sok_seq (sok_set (tok_lst taok_nil) rfl)
    (sok_seq (sok_set tok_dnew rfl)
    (sok_seq (sok_for (pin := (fun _ => false)) (tiok_rng2 (taok_cons tok_int (taok_cons (tok_op ook_int tok_int tok_var) taok_nil))) (tgok_name rfl)
    (sok_seq (sok_star (tok_call (taok_cons tok_var taok_nil)) rfl rfl (by decide))
    (sok_dput (tok_if (ttok_tru tok_var) (tok_call (taok_cons tok_var (taok_cons tok_var (taok_cons (tok_lst (taok_cons (tok_dget tok_var (tok_op ook_int0 tok_var (tok_op ook_int tok_int tok_var))) (taok_cons tok_var taok_nil))) taok_nil)))) tok_var) tok_var tok_var)))
    (sok_ret (tok_tup (taok_cons tok_var (taok_cons (tok_cb cbok_tuple (taok_cons tok_var taok_nil)) (taok_cons (tok_tupVals tok_var) taok_nil)))))))))⟩) ?_
  rintro ss q ⟨n, rfl, h1, h4, hq⟩
  have p2 : 2 ≤ 2 ^ n := Nat.pow_le_pow_right (n := 2) (by decide) h1
  have p16 : 2 ^ n ≤ 16 := Nat.pow_le_pow_right (n := 2) (by decide) h4
  refine ⟨rfl, rfl, rfl, n, 1, 4, rfl, by first | assumption | decide | (clear p16 p2; omega), by first | assumption | decide | (clear p16 p2; omega), Nat.zero_le _, ?_⟩
  dsimp only [stS, pt, back, R.frz]
  refine cutS (fun ρ => ρ = [nv n, .ow [], .dk (dkf (fun _ => 0) 0), .un, .un, .un]) (fun M hM => hM _ rfl) ?_
  rintro _ rfl
  refine cutS (fun ρ => ∃ es f c s3 s4 s5, ρ = [nv n, .ow es, .dk (dkf f c), s3, s4, s5]) (fun M hM => ⟨⟨by first | assumption | decide | (clear p16 p2; omega), by first | assumption | decide | (clear p16 p2; omega), by decide⟩, ⟨by first | assumption | decide | omega, by first | assumption | decide | omega, by rw [shlI]; (clear h4 h1; omega), by rw [shlI]; (clear h4 h1; omega)⟩, ?_⟩) ?_
  · rw [show ((1 : Int) * 2 ^ ((n : Int).toNat) - 1).toNat = 2 ^ n - 1 by rw [shlI]; (clear h4 h1; omega)]
    refine forA_rng (fun k ρ => ∃ (es : List D) (f : Nat → Nat) (s3 s4 s5 : Sv), es.length ≤ 2 * k ∧ ρ = [nv n, .ow es, .dk (dkf f k), s3, s4, s5]) (fun _ _ _ => trivial) ?_ (fun ρ ⟨es, f, s3, s4, s5, _, e⟩ => hM _ ⟨es, f, _, s3, s4, s5, e⟩) ⟨[], _, .un, .un, .un, by simp, rfl⟩
    rintro k _ M' hk ⟨es, f, s3, s4, s5, he, rfl⟩ hM'
    have hk15 : k < 15 := by first | assumption | decide | (clear he h4 h1; omega)
    obtain ⟨f1, f2, f3, f5⟩ := facts k hk15
    rw [show (1 : Int) + (k : Int) = ((k + 1 : Nat) : Int) by (clear f5 f3 f2 f1 hk15 he hk p16 p2 h4 h1; omega)]
    refine cutS (fun ρ => ρ = [nv n, .ow es, .dk (dkf f k), nv (k + 1), .ow (natsD (go k)), nv (gl k)]) (fun M2 hM2 => ⟨rfl, k + 1, rfl, by first | assumption | decide | (clear f5 f3 f2 f1 he hk p16 p2 h4 h1; omega), natsD (go k), nD (gl k), ?_, ?_, hM2 _ rfl⟩) ?_
    · rw [givS k hk15, natsD_snoc]
    · rw [natsD_len]; (clear f3 f2 f1 hk15 he hk p16 p2 h4 h1; omega)
    rintro _ rfl
    cases hgo : go k with
    | nil =>
      obtain ⟨g, eg⟩ := dkf_put (f := f) (c := k) (t := gl k) (z := ((k + 1 : Nat) : Int)) (by first | assumption | decide | (clear hgo f5 f3 f2 f1 hk15 he hk p16 p2 h4 h1; omega))
      exact ⟨by rw [dkf_len]; (clear eg hgo f5 f3 f2 f1 he hk p16 p2 h4 h1; omega), hM' _ ⟨es, g, nv (k + 1), .ow [], nv (gl k), by first | assumption | decide | (clear eg hgo f5 f3 f2 f1 hk15 hk p16 p2 h4 h1; omega), by rw [← eg]; rfl⟩⟩
    | cons x r =>
      have r0 : k + 1 - 2 ^ gl k ≠ 0 := by rw [hgo] at f3; have := f3.symm; simpa using this
      have hgp := Nat.two_pow_pos (gl k)
      have g1 : valD (dkf f k) (.inl (((k + 1 : Nat) : Int) - 1 * 2 ^ ((gl k : Int).toNat))) = some (nD (f (k + 1 - 2 ^ gl k - 1))) := val_kvs (i := k + 1 - 2 ^ gl k - 1) (by first | assumption | decide | (clear hgo f5 f3 f1 hk15 he hk p16 p2 h4 h1; omega)) (by rw [shlI]; (clear hgp hgo f5 f3 f1 hk15 he hk p16 p2 h4 h1; omega)) fun j hj h => by
        have h' : (j : Int) + 1 = ((k + 1 - 2 ^ gl k - 1 : Nat) : Int) + 1 := h
        (clear h' hj hgp r0 hgo f5 f3 f2 f1 hk15 he hk p16 p2 h4 h1; omega)
      refine ⟨⟨by first | assumption | decide | (clear g1 hgp r0 hgo f5 f3 f2 hk15 he hk p16 p2 h4 h1; omega), by first | assumption | decide | (clear g1 hgp r0 hgo f5 f3 f2 hk15 he hk p16 p2 h4 h1; omega), by decide⟩, gDGet_ok rfl g1 ⟨by simp, rfl, n, es, [f (k + 1 - 2 ^ gl k - 1), gl k], rfl, by simp, by simp only [List.length_cons, List.length_nil]; (clear g1 hgp r0 hgo f5 f3 f2 f1 hk p16 p2 h4 h1; omega), fun t es' he' => ?_⟩⟩
      simp only [List.length_cons, List.length_nil] at he'
      obtain ⟨g, eg⟩ := dkf_put (f := f) (c := k) (t := t) (z := ((k + 1 : Nat) : Int)) (by first | assumption | decide | (clear he' g1 hgp r0 hgo f5 f3 f2 f1 hk15 he hk p16 p2 h4 h1; omega))
      exact ⟨by rw [dkf_len]; (clear eg he' g1 hgp r0 hgo f5 f3 f2 f1 he hk p16 p2 h4 h1; omega), hM' _ ⟨es', g, nv (k + 1), .ow (natsD (x :: r)), nv (gl k), by first | assumption | decide | (clear eg g1 hgp r0 hgo f5 f3 f2 f1 hk15 hk p16 p2 h4 h1; omega), by rw [← eg]; rfl⟩⟩
  rintro _ ⟨es, f, c, s3, s4, s5, rfl⟩
  exact ⟨by simp, hq _⟩
end
end K95
set_option Elab.async false
set_option linter.all false
set_option maxRecDepth 100000
set_option maxHeartbeats 1000000
namespace K95
open PySem PySem.Spec PyProof.Rows L2
noncomputable def XF (K : PySem.W.Frag) (mg : Str → Option Value) : Prop := ∃ C_NoWidth C_JoinError C_NoFit C_TooMany C_NoRow C_NoName C_Nought C_Bare C_Loose C_Leans C_NoAnswer C_NoText : Addr, mg "NoWidth" = some (.ref C_NoWidth) ∧ mg "JoinError" = some (.ref C_JoinError) ∧ mg "NoFit" = some (.ref C_NoFit) ∧ mg "TooMany" = some (.ref C_TooMany) ∧ mg "NoRow" = some (.ref C_NoRow) ∧ mg "NoName" = some (.ref C_NoName) ∧ mg "Nought" = some (.ref C_Nought) ∧ mg "Bare" = some (.ref C_Bare) ∧ mg "Loose" = some (.ref C_Loose) ∧ mg "Leans" = some (.ref C_Leans) ∧ mg "NoAnswer" = some (.ref C_NoAnswer) ∧ mg "NoText" = some (.ref C_NoText) ∧ mg "ValueError" = none ∧ PySem.W.excIn K C_NoWidth bmV "ValueError.__new__" = true ∧ PySem.W.excIn K C_JoinError bmV "ValueError.__new__" = true ∧ PySem.W.subIn K (.ref C_NoWidth) (.ref C_JoinError) = some true ∧ ExIs K C_NoWidth ∧ PySem.W.kitOne K (.ref C_NoWidth) (.ref C_NoFit) = some false ∧ PySem.W.kitOne K (.ref C_NoWidth) (.ref C_TooMany) = some false ∧ PySem.W.kitOne K (.ref C_NoWidth) (.ref C_NoWidth) = some true ∧ PySem.W.kitOne K (.ref C_NoWidth) (.type "ValueError") = some true ∧ PySem.W.kitOne K (.ref C_NoWidth) (.ref C_NoRow) = some false ∧ PySem.W.kitOne K (.ref C_NoWidth) (.ref C_NoName) = some false ∧ PySem.W.kitOne K (.ref C_NoWidth) (.ref C_Nought) = some false ∧ PySem.W.kitOne K (.ref C_NoWidth) (.ref C_Bare) = some false ∧ PySem.W.kitOne K (.ref C_NoWidth) (.ref C_Loose) = some false ∧ PySem.W.kitOne K (.ref C_NoWidth) (.ref C_Leans) = some false ∧ PySem.W.kitOne K (.ref C_NoWidth) (.ref C_NoAnswer) = some false ∧ PySem.W.kitOne K (.ref C_NoWidth) (.ref C_NoText) = some false
theorem XF.mk {K : PySem.W.Frag} {mg : Str → Option Value} {h : Heap} {C_NoWidth C_JoinError C_NoFit C_TooMany C_NoRow C_NoName C_Nought C_Bare C_Loose C_Leans C_NoAnswer C_NoText : Addr} (KX : K.In h) (G : h.Ns mainGlobals mg) (f0 : PySem.W.nsIn K mainGlobals "NoWidth" = some (some (.ref C_NoWidth))) (f1 : PySem.W.nsIn K mainGlobals "JoinError" = some (some (.ref C_JoinError))) (f2 : PySem.W.nsIn K mainGlobals "NoFit" = some (some (.ref C_NoFit))) (f3 : PySem.W.nsIn K mainGlobals "TooMany" = some (some (.ref C_TooMany))) (f4 : PySem.W.nsIn K mainGlobals "NoRow" = some (some (.ref C_NoRow))) (f5 : PySem.W.nsIn K mainGlobals "NoName" = some (some (.ref C_NoName))) (f6 : PySem.W.nsIn K mainGlobals "Nought" = some (some (.ref C_Nought))) (f7 : PySem.W.nsIn K mainGlobals "Bare" = some (some (.ref C_Bare))) (f8 : PySem.W.nsIn K mainGlobals "Loose" = some (some (.ref C_Loose))) (f9 : PySem.W.nsIn K mainGlobals "Leans" = some (some (.ref C_Leans))) (f10 : PySem.W.nsIn K mainGlobals "NoAnswer" = some (some (.ref C_NoAnswer))) (f11 : PySem.W.nsIn K mainGlobals "NoText" = some (some (.ref C_NoText))) (f12 : PySem.W.nsIn K mainGlobals "ValueError" = some none) (f13 : PySem.W.excIn K C_NoWidth bmV "ValueError.__new__" = true) (f14 : PySem.W.excIn K C_JoinError bmV "ValueError.__new__" = true) (f15 : PySem.W.subIn K (.ref C_NoWidth) (.ref C_JoinError) = some true) (f16_0 : PySem.W.findIn K (.ref C_NoWidth) "__getattribute__" = some (some (.builtin "BaseException.__getattribute__"))) (f16_1 : PySem.W.findIn K (.ref C_NoWidth) "__getattr__" = some none) (f16_2 : PySem.W.hasDictIn K C_NoWidth = true) (f16_3 : PySem.W.findIn K (.ref C_NoWidth) "__class__" = some (some (.builtin "object.__class__"))) (f16_4 : PySem.W.specialIn K (.builtin "object.__class__") "__get__" = some (some (.builtin "getset_descriptor.__get__"))) (f16_5 : PySem.W.takesIn K (.builtin "object.__class__") = some true) (f16_6 : PySem.W.mroIn K C_NoWidth (.type "object") = some true) (f16_7 : PySem.W.subIn K (.ref C_NoWidth) (.type "BaseException") = some true) (f17 : PySem.W.kitOne K (.ref C_NoWidth) (.ref C_NoFit) = some false) (f18 : PySem.W.kitOne K (.ref C_NoWidth) (.ref C_TooMany) = some false) (f19 : PySem.W.kitOne K (.ref C_NoWidth) (.ref C_NoWidth) = some true) (f20 : PySem.W.kitOne K (.ref C_NoWidth) (.type "ValueError") = some true) (f21 : PySem.W.kitOne K (.ref C_NoWidth) (.ref C_NoRow) = some false) (f22 : PySem.W.kitOne K (.ref C_NoWidth) (.ref C_NoName) = some false) (f23 : PySem.W.kitOne K (.ref C_NoWidth) (.ref C_Nought) = some false) (f24 : PySem.W.kitOne K (.ref C_NoWidth) (.ref C_Bare) = some false) (f25 : PySem.W.kitOne K (.ref C_NoWidth) (.ref C_Loose) = some false) (f26 : PySem.W.kitOne K (.ref C_NoWidth) (.ref C_Leans) = some false) (f27 : PySem.W.kitOne K (.ref C_NoWidth) (.ref C_NoAnswer) = some false) (f28 : PySem.W.kitOne K (.ref C_NoWidth) (.ref C_NoText) = some false) : XF K mg := ⟨C_NoWidth, C_JoinError, C_NoFit, C_TooMany, C_NoRow, C_NoName, C_Nought, C_Bare, C_Loose, C_Leans, C_NoAnswer, C_NoText, PySem.W.mg_of KX G f0, PySem.W.mg_of KX G f1, PySem.W.mg_of KX G f2, PySem.W.mg_of KX G f3, PySem.W.mg_of KX G f4, PySem.W.mg_of KX G f5, PySem.W.mg_of KX G f6, PySem.W.mg_of KX G f7, PySem.W.mg_of KX G f8, PySem.W.mg_of KX G f9, PySem.W.mg_of KX G f10, PySem.W.mg_of KX G f11, PySem.W.mg_none_of KX G f12, f13, f14, f15, ExIs.of f16_0 f16_1 f16_2 f16_3 f16_4 f16_5 f16_6 f16_7, f17, f18, f19, f20, f21, f22, f23, f24, f25, f26, f27, f28⟩
noncomputable def SRefX : ASp := fun ss q => ∃ a b c : Int, ss = [.vl (.int a), .vl (.int b), .vl (.int c)] ∧ ¬ (b ≤ a ∧ a ≤ c) ∧ q (.d .non) [.vl (.int a), .vl (.int b), .vl (.int c)]
noncomputable def SX (b c : Int) : ASp := fun ss q => ∃ a : Int, ss = [.vl (.int a)] ∧ ¬ (b ≤ a ∧ a ≤ c) ∧ q (.d .non) [.vl (.int a)]
noncomputable def SAllX : ASp := fun ss q => ∃ (a : Int) (b : Bool), ss = [.vl (.int a), .vl (.bl b)] ∧ ¬ (2 ≤ a ∧ a ≤ 12) ∧ q (.d .non) [.vl (.int a), .vl (.bl b)]
noncomputable def SWinX : ASp := fun ss q => ∃ (a b : Int), ss = [.vl (.int a), .vl (.int b)] ∧ ¬ (2 ≤ a ∧ a ≤ 12 ∧ 2 ≤ b ∧ b ≤ a) ∧ q (.d .non) [.vl (.int a), .vl (.int b)]
noncomputable def loW (way : Nat) : Int := [1, 1, 2, 2, 2, 2, 1].getD way 0
noncomputable def hiW (way : Nat) : Int := [12, 12, 12, 12, 12, 12, 4].getD way 0
noncomputable def good (way : Nat) (n w : Int) : Prop := loW way ≤ n ∧ n ≤ hiW way ∧ (way = 4 → 2 ≤ w ∧ w ≤ n)
noncomputable def SAsk : ASp := fun ss q => ∃ (way : Nat) (n w : Int), ss = [nv way, .vl (.int n), .vl (.int w)] ∧ way < 7 ∧ good way n w ∧ ∀ d, q (.d d) [nv way, .vl (.int n), .vl (.int w)]
noncomputable def SAskX : ASp := fun ss q => ∃ (way : Nat) (n w : Int), ss = [nv way, .vl (.int n), .vl (.int w)] ∧ way < 7 ∧ ¬ good way n w ∧ q (.d .non) [nv way, .vl (.int n), .vl (.int w)]
noncomputable def SAlone (C : Addr) : ASp := fun ss q => ss = [.ex C none, nv 2] ∧ q (.d (.bl true)) [.ex C none, nv 2]
noncomputable def STold : ASp := fun ss q => ∃ (way : Nat) (n w : Int), ss = [nv way, .vl (.int n), .vl (.int w)] ∧ way < 7 ∧ (good way n w → q (.d (.str "told")) [nv way, .vl (.int n), .vl (.int w)]) ∧ (¬ good way n w → q (.d (.bl true)) [nv way, .vl (.int n), .vl (.int w)])
theorem gE0 {a : Nat} {b : Int} {c : Bool} {ρ : En} {q : Ko} (h : decide ((a : Int) = b) = c) (hq : q (.d (.bl c)) ρ) : gEq false (.d (.int (a : Int))) (.d (.int b)) ρ q := gEq_ok rfl rfl (by simp [D.depth]) (b := c) (by unfold eqD; exact h) (by exact hq)
theorem seven {way : Nat} (h : way < 7) : way = 0 ∨ way = 1 ∨ way = 2 ∨ way = 3 ∨ way = 4 ∨ way = 5 ∨ way = 6 := by first | assumption | decide | omega
section
variable {P : Program} {w : World} {K : PySem.W.Frag} {mg : Str → Option Value} {base : Heap}
theorem okx_refuse_width {C_NoWidth : Addr} (m_NoWidth : mg "NoWidth" = some (.ref C_NoWidth)) (e_NoWidth : PySem.W.excIn K C_NoWidth bmV "ValueError.__new__" = true) (dn : DefN K mg "refuse_width" s_refuse_width ["width", "least", "most"]) (B : BI mg) : OkX P w K mg base 1 "refuse_width" ["width", "least", "most"] C_NoWidth (spA K SRefX) := by
  refine dn.aokX (k := 0) sc_refuse_width (fun j => j == 0 || j == 1 || j == 2) [] SRefX C_NoWidth rfl (fun f cdv A outer s H E hr => have hu := hu_of hr; ⟨_, (pssr_cons (psr_if (pt_not (pt_chain op_le op_le (pv 1) (pv 0) (pv 2)))
    (pssr_cons (psr_raise tie1 rfl m_NoWidth e_NoWidth pe_str)
    pssr_nil)
    pssr_nil)
    pssr_nil), (sok_seq (sok_if (ttok_not (ttok_test (tok_chain ook_bl0 ook_bl0 tok_var tok_var tok_var)))
    (sok_seq (sok_ret tok_non)
    sok_next)
    sok_next)
    sok_next)⟩) ?_
  rintro ss q ⟨a, b, c, rfl, hne, hq⟩
  refine ⟨rfl, rfl, ?_⟩
  refine ite2 (fun h1 => ?_) fun _ => ⟨rfl, hq⟩
  refine ite2 (fun _ => ⟨rfl, hq⟩) fun h => ?_
  rw [decide_eq_true_eq] at h1
  refine (hne ⟨h1, ?_⟩).elim
  apply Classical.byContradiction
  intro z
  exact h (by rw [decide_eq_false z]; rfl)
theorem okx_running {C_NoWidth : Addr} (m_NoWidth : mg "NoWidth" = some (.ref C_NoWidth)) (e_NoWidth : PySem.W.excIn K C_NoWidth bmV "ValueError.__new__" = true) (dn : DefN K mg "running" s_running ["n"]) (B : BI mg) (x_refuse_width : OkX P w K mg base 1 "refuse_width" ["width", "least", "most"] C_NoWidth (spA K SRefX)) (c_MOST_GIVENS : ∃ u, mg "MOST_GIVENS" = some u ∧ RelV (.int 12) u) : OkX P w K mg base 2 "running" ["n"] C_NoWidth (spA K (SX 1 12)) := by
  refine dn.aokX (k := 1) sc_running (fun j => j == 0) [.un, .un] (SX 1 12) C_NoWidth rfl (fun f cdv A outer s H E hr => have hu := hu_of hr; ⟨_, (pssr_cons (psr_call x_refuse_width (hr.mono (by decide)) pass1 (pa_cons (pv 0) (pa_cons pe_int (pa_cons (pe_gc c_MOST_GIVENS rfl) pa_nil))))
    pssr_never), (sok_seq (sok_ret (tok_call (taok_cons tok_var (taok_cons tok_int (taok_cons tok_int taok_nil)))))
    sok_never)⟩) ?_
  rintro ss q ⟨a, rfl, hne, hq⟩
  exact ⟨rfl, rfl, rfl, a, 1, 12, rfl, hne, rfl, hq⟩
theorem okx_running_halves {C_NoWidth : Addr} (m_NoWidth : mg "NoWidth" = some (.ref C_NoWidth)) (e_NoWidth : PySem.W.excIn K C_NoWidth bmV "ValueError.__new__" = true) (dn : DefN K mg "running_halves" s_running_halves ["n"]) (B : BI mg) (x_refuse_width : OkX P w K mg base 1 "refuse_width" ["width", "least", "most"] C_NoWidth (spA K SRefX)) (c_MOST_GIVENS : ∃ u, mg "MOST_GIVENS" = some u ∧ RelV (.int 12) u) : OkX P w K mg base 2 "running_halves" ["n"] C_NoWidth (spA K (SX 1 12)) := by
  refine dn.aokX (k := 1) sc_running_halves (fun j => j == 0) [.un, .un] (SX 1 12) C_NoWidth rfl (fun f cdv A outer s H E hr => have hu := hu_of hr; ⟨_, (pssr_cons (psr_call x_refuse_width (hr.mono (by decide)) pass1 (pa_cons (pv 0) (pa_cons pe_int (pa_cons (pe_gc c_MOST_GIVENS rfl) pa_nil))))
    pssr_never), (sok_seq (sok_ret (tok_call (taok_cons tok_var (taok_cons tok_int (taok_cons tok_int taok_nil)))))
    sok_never)⟩) ?_
  rintro ss q ⟨a, rfl, hne, hq⟩
  exact ⟨rfl, rfl, rfl, a, 1, 12, rfl, hne, rfl, hq⟩
theorem okx_all_but {C_NoWidth : Addr} (m_NoWidth : mg "NoWidth" = some (.ref C_NoWidth)) (e_NoWidth : PySem.W.excIn K C_NoWidth bmV "ValueError.__new__" = true) (dn : DefN K mg "all_but" s_all_but ["n", "clean"]) (B : BI mg) (x_refuse_width : OkX P w K mg base 1 "refuse_width" ["width", "least", "most"] C_NoWidth (spA K SRefX)) (c_MOST_GIVENS : ∃ u, mg "MOST_GIVENS" = some u ∧ RelV (.int 12) u) : OkX P w K mg base 2 "all_but" ["n", "clean"] C_NoWidth (spA K SAllX) := by
  refine dn.aokX (k := 1) sc_all_but (fun j => j == 0 || j == 1) [.un, .un] SAllX C_NoWidth rfl (fun f cdv A outer s H E hr => have hu := hu_of hr; ⟨_, (pssr_cons (psr_call x_refuse_width (hr.mono (by decide)) pass1 (pa_cons (pv 0) (pa_cons pe_int (pa_cons (pe_gc c_MOST_GIVENS rfl) pa_nil))))
    pssr_never), (sok_seq (sok_ret (tok_call (taok_cons tok_var (taok_cons tok_int (taok_cons tok_int taok_nil)))))
    sok_never)⟩) ?_
  rintro ss q ⟨a, b, rfl, hne, hq⟩
  exact ⟨rfl, rfl, rfl, a, 2, 12, rfl, hne, rfl, hq⟩
theorem okx_windows {C_NoWidth : Addr} (m_NoWidth : mg "NoWidth" = some (.ref C_NoWidth)) (e_NoWidth : PySem.W.excIn K C_NoWidth bmV "ValueError.__new__" = true) (dn : DefN K mg "windows" s_windows ["n", "w"]) (B : BI mg) (g_refuse_width : OkN P w K mg base 1 "refuse_width" ["width", "least", "most"] (spA K SRefuse)) (x_refuse_width : OkX P w K mg base 1 "refuse_width" ["width", "least", "most"] C_NoWidth (spA K SRefX)) (c_MOST_GIVENS : ∃ u, mg "MOST_GIVENS" = some u ∧ RelV (.int 12) u) : OkX P w K mg base 2 "windows" ["n", "w"] C_NoWidth (spA K SWinX) := by
  refine dn.aokX (k := 1) sc_windows (fun j => j == 0 || j == 1) [.un, .un, .un] SWinX C_NoWidth rfl (fun f cdv A outer s H E hr => have hu := hu_of hr; ⟨_, (pssr_cons (psr_or (psr_call x_refuse_width (hr.mono (by decide)) pass1 (pa_cons (pv 0) (pa_cons pe_int (pa_cons (pe_gc c_MOST_GIVENS rfl) pa_nil)))) (psr_of (ps_expr (pe_fn g_refuse_width (hr.mono (by decide)) (pa_cons (pv 0) (pa_cons pe_int (pa_cons (pe_gc c_MOST_GIVENS rfl) pa_nil)))))))
    (pssr_cons (psr_call x_refuse_width (hr.mono (by decide)) pass1 (pa_cons (pv 1) (pa_cons pe_int (pa_cons (pv 0) pa_nil))))
    pssr_never)), (sok_seq (sok_or (sok_ret (tok_call (taok_cons tok_var (taok_cons tok_int (taok_cons tok_int taok_nil))))) (sok_drop (tok_call (taok_cons tok_var (taok_cons tok_int (taok_cons tok_int taok_nil))))))
    (sok_seq (sok_ret (tok_call (taok_cons tok_var (taok_cons tok_int (taok_cons tok_var taok_nil)))))
    sok_never))⟩) ?_
  rintro ss q ⟨a, b, rfl, hne, hq⟩
  refine ⟨rfl, rfl, ?_⟩
  by_cases h : 2 ≤ a ∧ a ≤ 12
  · exact .inr ⟨rfl, a, 2, 12, rfl, h.1, h.2, rfl, b, 2, a, rfl, fun z => hne ⟨h.1, h.2, z⟩, rfl, hq⟩
  · exact .inl ⟨rfl, a, 2, 12, rfl, h, rfl, hq⟩
theorem okx_neighbours {C_NoWidth : Addr} (m_NoWidth : mg "NoWidth" = some (.ref C_NoWidth)) (e_NoWidth : PySem.W.excIn K C_NoWidth bmV "ValueError.__new__" = true) (dn : DefN K mg "neighbours" s_neighbours ["n"]) (B : BI mg) (x_refuse_width : OkX P w K mg base 1 "refuse_width" ["width", "least", "most"] C_NoWidth (spA K SRefX)) (c_MOST_GIVENS : ∃ u, mg "MOST_GIVENS" = some u ∧ RelV (.int 12) u) : OkX P w K mg base 2 "neighbours" ["n"] C_NoWidth (spA K (SX 2 12)) := by
  refine dn.aokX (k := 1) sc_neighbours (fun j => j == 0) [.un] (SX 2 12) C_NoWidth rfl (fun f cdv A outer s H E hr => have hu := hu_of hr; ⟨_, (pssr_cons (psr_call x_refuse_width (hr.mono (by decide)) pass1 (pa_cons (pv 0) (pa_cons pe_int (pa_cons (pe_gc c_MOST_GIVENS rfl) pa_nil))))
    pssr_never), (sok_seq (sok_ret (tok_call (taok_cons tok_var (taok_cons tok_int (taok_cons tok_int taok_nil)))))
    sok_never)⟩) ?_
  rintro ss q ⟨a, rfl, hne, hq⟩
  exact ⟨rfl, rfl, rfl, a, 2, 12, rfl, hne, rfl, hq⟩
theorem okx_all_sums {C_NoWidth : Addr} (m_NoWidth : mg "NoWidth" = some (.ref C_NoWidth)) (e_NoWidth : PySem.W.excIn K C_NoWidth bmV "ValueError.__new__" = true) (dn : DefN K mg "all_sums" s_all_sums ["n"]) (B : BI mg) (x_refuse_width : OkX P w K mg base 1 "refuse_width" ["width", "least", "most"] C_NoWidth (spA K SRefX)) (c_MOST_ALL_SUMS : ∃ u, mg "MOST_ALL_SUMS" = some u ∧ RelV (.int 4) u) : OkX P w K mg base 2 "all_sums" ["n"] C_NoWidth (spA K (SX 1 4)) := by
  refine dn.aokX (k := 1) sc_all_sums (fun j => j == 0) [.un, .un, .un, .un, .un] (SX 1 4) C_NoWidth rfl (fun f cdv A outer s H E hr => have hu := hu_of hr; ⟨_, (pssr_cons (psr_call x_refuse_width (hr.mono (by decide)) pass1 (pa_cons (pv 0) (pa_cons pe_int (pa_cons (pe_gc c_MOST_ALL_SUMS rfl) pa_nil))))
    pssr_never), (sok_seq (sok_ret (tok_call (taok_cons tok_var (taok_cons tok_int (taok_cons tok_int taok_nil)))))
    sok_never)⟩) ?_
  rintro ss q ⟨a, rfl, hne, hq⟩
  exact ⟨rfl, rfl, rfl, a, 1, 4, rfl, hne, rfl, hq⟩
theorem ok_law_asked (dn : DefN K mg "_law_asked" s_law_asked ["_law_way", "_law_n", "_law_w"]) (B : BI mg) (g_all_sums : OkN P w K mg base 3 "all_sums" ["n"] (spA K (SOne 1 4))) (g_running : OkN P w K mg base 4 "running" ["n"] (spA K (SOne 1 12))) (g_running_halves : OkN P w K mg base 8 "running_halves" ["n"] (spA K (SOne 1 12))) (g_all_but : OkN P w K mg base 5 "all_but" ["n", "clean"] (spA K SAll)) (g_windows : OkN P w K mg base 4 "windows" ["n", "w"] (spA K SWin)) (g_neighbours : OkN P w K mg base 2 "neighbours" ["n"] (spA K (SOne 2 12))) : OkN P w K mg base 9 "_law_asked" ["_law_way", "_law_n", "_law_w"] (spA K SAsk) := by
  refine dn.aok2 (k := 8) sc_law_asked (fun j => j == 0 || j == 1 || j == 2) [] SAsk rfl (fun f cdv A outer s H E hr => have hu := hu_of hr; ⟨_, (pss_cons (ps_if (pt_cmpR (op_eqD K hr.units) (pv 0) pe_int (nomark _))
    (pss_one (ps_ret (pe_fn g_running (hr.mono (by decide)) (pa_cons (pv 1) pa_nil))))
    pss_nil)
    (pss_cons (ps_if (pt_cmpR (op_eqD K hr.units) (pv 0) pe_int (nomark _))
    (pss_one (ps_ret (pe_fn g_running_halves (hr.mono (by decide)) (pa_cons (pv 1) pa_nil))))
    pss_nil)
    (pss_cons (ps_if (pt_cmpR op_lt (pv 0) pe_int (nomark _))
    (pss_one (ps_ret (pe_fn g_all_but (hr.mono (by decide)) (pa_cons (pv 1) (pa_cons (pe_cmpR (op_eqD K hr.units) (pv 0) pe_int (nomark _)) pa_nil)))))
    pss_nil)
    (pss_cons (ps_if (pt_cmpR (op_eqD K hr.units) (pv 0) pe_int (nomark _))
    (pss_one (ps_ret (pe_fn g_windows (hr.mono (by decide)) (pa_cons (pv 1) (pa_cons (pv 2) pa_nil)))))
    pss_nil)
    (pss_cons (ps_if (pt_cmpR (op_eqD K hr.units) (pv 0) pe_int (nomark _))
    (pss_one (ps_ret (pe_fn g_neighbours (hr.mono (by decide)) (pa_cons (pv 1) pa_nil))))
    pss_nil)
    (pss_one (ps_ret (pe_fn g_all_sums (hr.mono (by decide)) (pa_cons (pv 1) pa_nil))))))))), (sok_seq (sok_if (ttok_test (tok_op ook_eq tok_var tok_int))
    (sok_ret (tok_call (taok_cons tok_var taok_nil)))
    sok_next)
    (sok_seq (sok_if (ttok_test (tok_op ook_eq tok_var tok_int))
    (sok_ret (tok_call (taok_cons tok_var taok_nil)))
    sok_next)
    (sok_seq (sok_if (ttok_test (tok_op ook_bl0 tok_var tok_int))
    (sok_ret (tok_call (taok_cons tok_var (taok_cons (tok_op ook_eq tok_var tok_int) taok_nil))))
    sok_next)
    (sok_seq (sok_if (ttok_test (tok_op ook_eq tok_var tok_int))
    (sok_ret (tok_call (taok_cons tok_var (taok_cons tok_var taok_nil))))
    sok_next)
    (sok_seq (sok_if (ttok_test (tok_op ook_eq tok_var tok_int))
    (sok_ret (tok_call (taok_cons tok_var taok_nil)))
    sok_next)
    (sok_ret (tok_call (taok_cons tok_var taok_nil))))))))⟩) ?_
  rintro ss q ⟨way, n, w, rfl, hw, ⟨g1, g2, g3⟩, hq⟩
  refine ⟨rfl, rfl, ?_⟩
  have g0 : 0 ≤ n := by
    rcases seven hw with rfl | rfl | rfl | rfl | rfl | rfl | rfl <;> simp [loW] at g1 <;> (clear g2 hw; omega)
  obtain ⟨n, rfl⟩ := Int.eq_ofNat_of_zero_le g0
  rcases seven hw with rfl | rfl | rfl | rfl | rfl | rfl | rfl <;> simp only [loW, hiW, List.getD_cons_zero, List.getD_cons_succ] at g1 g2
  · exact gE0 (c := true) rfl ⟨rfl, n, rfl, by first | assumption | decide | (clear hw g0; omega), by first | assumption | decide | (clear hw g0; omega), hq⟩
  · exact gE0 (c := false) rfl (gE0 (c := true) rfl ⟨rfl, n, rfl, by first | assumption | decide | (clear hw g0; omega), by first | assumption | decide | (clear hw g0; omega), hq⟩)
  · exact gE0 (c := false) rfl (gE0 (c := false) rfl (gE0 (c := false) rfl ⟨rfl, n, false, rfl, by first | assumption | decide | (clear hw g0; omega), by first | assumption | decide | (clear hw g0; omega), hq⟩))
  · exact gE0 (c := false) rfl (gE0 (c := false) rfl (gE0 (c := true) rfl ⟨rfl, n, true, rfl, by first | assumption | decide | (clear hw g0; omega), by first | assumption | decide | (clear hw g0; omega), hq⟩))
  · obtain ⟨w1, w2⟩ := g3 rfl
    obtain ⟨w, rfl⟩ := Int.eq_ofNat_of_zero_le (show 0 ≤ w by first | assumption | decide | (clear w2 g2 g1 hw g0; omega))
    exact gE0 (c := false) rfl (gE0 (c := false) rfl (gE0 (c := true) rfl ⟨rfl, n, w, rfl, by first | assumption | decide | (clear w2 g2 g1 hw g0; omega), by first | assumption | decide | (clear w1 g2 g1 hw g0; omega), by first | assumption | decide | (clear w2 w1 hw g0; omega), hq⟩))
  · exact gE0 (c := false) rfl (gE0 (c := false) rfl (gE0 (c := false) rfl (gE0 (c := true) rfl ⟨rfl, n, rfl, by first | assumption | decide | (clear hw g0; omega), by first | assumption | decide | (clear hw g0; omega), hq⟩)))
  · exact gE0 (c := false) rfl (gE0 (c := false) rfl (gE0 (c := false) rfl (gE0 (c := false) rfl ⟨rfl, n, rfl, by first | assumption | decide | (clear hw g0; omega), by first | assumption | decide | (clear hw g0; omega), hq⟩)))
theorem okx_law_asked {C_NoWidth : Addr} (m_NoWidth : mg "NoWidth" = some (.ref C_NoWidth)) (e_NoWidth : PySem.W.excIn K C_NoWidth bmV "ValueError.__new__" = true) (dn : DefN K mg "_law_asked" s_law_asked ["_law_way", "_law_n", "_law_w"]) (B : BI mg) (x_all_sums : OkX P w K mg base 2 "all_sums" ["n"] C_NoWidth (spA K (SX 1 4))) (x_running : OkX P w K mg base 2 "running" ["n"] C_NoWidth (spA K (SX 1 12))) (x_running_halves : OkX P w K mg base 2 "running_halves" ["n"] C_NoWidth (spA K (SX 1 12))) (x_all_but : OkX P w K mg base 2 "all_but" ["n", "clean"] C_NoWidth (spA K SAllX)) (x_windows : OkX P w K mg base 2 "windows" ["n", "w"] C_NoWidth (spA K SWinX)) (x_neighbours : OkX P w K mg base 2 "neighbours" ["n"] C_NoWidth (spA K (SX 2 12))) : OkX P w K mg base 3 "_law_asked" ["_law_way", "_law_n", "_law_w"] C_NoWidth (spA K SAskX) := by
  refine dn.aokX (k := 2) sc_law_asked (fun j => j == 0 || j == 1 || j == 2) [] SAskX C_NoWidth rfl (fun f cdv A outer s H E hr => have hu := hu_of hr; ⟨_, (pssr_cons (psr_if (pt_cmpR (op_eqD K hr.units) (pv 0) pe_int (nomark _))
    (pssr_cons (psr_ret x_running (hr.mono (by decide)) pass1 (pa_cons (pv 1) pa_nil))
    pssr_nil)
    pssr_nil)
    (pssr_cons (psr_if (pt_cmpR (op_eqD K hr.units) (pv 0) pe_int (nomark _))
    (pssr_cons (psr_ret x_running_halves (hr.mono (by decide)) pass1 (pa_cons (pv 1) pa_nil))
    pssr_nil)
    pssr_nil)
    (pssr_cons (psr_if (pt_cmpR op_lt (pv 0) pe_int (nomark _))
    (pssr_cons (psr_ret x_all_but (hr.mono (by decide)) pass1 (pa_cons (pv 1) (pa_cons (pe_cmpR (op_eqD K hr.units) (pv 0) pe_int (nomark _)) pa_nil)))
    pssr_nil)
    pssr_nil)
    (pssr_cons (psr_if (pt_cmpR (op_eqD K hr.units) (pv 0) pe_int (nomark _))
    (pssr_cons (psr_ret x_windows (hr.mono (by decide)) pass1 (pa_cons (pv 1) (pa_cons (pv 2) pa_nil)))
    pssr_nil)
    pssr_nil)
    (pssr_cons (psr_if (pt_cmpR (op_eqD K hr.units) (pv 0) pe_int (nomark _))
    (pssr_cons (psr_ret x_neighbours (hr.mono (by decide)) pass1 (pa_cons (pv 1) pa_nil))
    pssr_nil)
    pssr_nil)
    (pssr_cons (psr_ret x_all_sums (hr.mono (by decide)) pass1 (pa_cons (pv 1) pa_nil))
    pssr_nil)))))), (sok_seq (sok_if (ttok_test (tok_op ook_eq tok_var tok_int))
    (sok_seq (sok_ret (tok_call (taok_cons tok_var taok_nil)))
    sok_next)
    sok_next)
    (sok_seq (sok_if (ttok_test (tok_op ook_eq tok_var tok_int))
    (sok_seq (sok_ret (tok_call (taok_cons tok_var taok_nil)))
    sok_next)
    sok_next)
    (sok_seq (sok_if (ttok_test (tok_op ook_bl0 tok_var tok_int))
    (sok_seq (sok_ret (tok_call (taok_cons tok_var (taok_cons (tok_op ook_eq tok_var tok_int) taok_nil))))
    sok_next)
    sok_next)
    (sok_seq (sok_if (ttok_test (tok_op ook_eq tok_var tok_int))
    (sok_seq (sok_ret (tok_call (taok_cons tok_var (taok_cons tok_var taok_nil))))
    sok_next)
    sok_next)
    (sok_seq (sok_if (ttok_test (tok_op ook_eq tok_var tok_int))
    (sok_seq (sok_ret (tok_call (taok_cons tok_var taok_nil)))
    sok_next)
    sok_next)
    (sok_seq (sok_ret (tok_call (taok_cons tok_var taok_nil)))
    sok_next))))))⟩) ?_
  rintro ss q ⟨way, n, w, rfl, hw, hg, hq⟩
  refine ⟨rfl, rfl, ?_⟩
  unfold good at hg
  rcases seven hw with rfl | rfl | rfl | rfl | rfl | rfl | rfl <;> simp only [loW, hiW, List.getD_cons_zero, List.getD_cons_succ] at hg
  · exact gE0 (c := true) rfl ⟨rfl, n, rfl, by first | assumption | decide | (clear hw e_NoWidth m_NoWidth; omega), rfl, hq⟩
  · exact gE0 (c := false) rfl (gE0 (c := true) rfl ⟨rfl, n, rfl, by first | assumption | decide | (clear hw e_NoWidth m_NoWidth; omega), rfl, hq⟩)
  · exact gE0 (c := false) rfl (gE0 (c := false) rfl (gE0 (c := false) rfl ⟨rfl, n, false, rfl, by first | assumption | decide | (clear hw e_NoWidth m_NoWidth; omega), rfl, hq⟩))
  · exact gE0 (c := false) rfl (gE0 (c := false) rfl (gE0 (c := true) rfl ⟨rfl, n, true, rfl, by first | assumption | decide | (clear hw e_NoWidth m_NoWidth; omega), rfl, hq⟩))
  · exact gE0 (c := false) rfl (gE0 (c := false) rfl (gE0 (c := true) rfl ⟨rfl, n, w, rfl, by first | assumption | decide | (clear hw e_NoWidth m_NoWidth; omega), rfl, hq⟩))
  · exact gE0 (c := false) rfl (gE0 (c := false) rfl (gE0 (c := false) rfl (gE0 (c := true) rfl ⟨rfl, n, rfl, by first | assumption | decide | (clear hw e_NoWidth m_NoWidth; omega), rfl, hq⟩)))
  · exact gE0 (c := false) rfl (gE0 (c := false) rfl (gE0 (c := false) rfl (gE0 (c := false) rfl ⟨rfl, n, rfl, by first | assumption | decide | (clear hw e_NoWidth m_NoWidth; omega), rfl, hq⟩)))
theorem ok_law_alone {C_NoWidth C_NoFit C_TooMany C_NoRow C_NoName C_Nought C_Bare C_Loose C_Leans C_NoAnswer C_NoText : Addr} (m_NoFit : mg "NoFit" = some (.ref C_NoFit)) (m_TooMany : mg "TooMany" = some (.ref C_TooMany)) (m_NoWidth : mg "NoWidth" = some (.ref C_NoWidth)) (n_ValueError : mg "ValueError" = none) (m_NoRow : mg "NoRow" = some (.ref C_NoRow)) (m_NoName : mg "NoName" = some (.ref C_NoName)) (m_Nought : mg "Nought" = some (.ref C_Nought)) (m_Bare : mg "Bare" = some (.ref C_Bare)) (m_Loose : mg "Loose" = some (.ref C_Loose)) (m_Leans : mg "Leans" = some (.ref C_Leans)) (m_NoAnswer : mg "NoAnswer" = some (.ref C_NoAnswer)) (m_NoText : mg "NoText" = some (.ref C_NoText)) (i_NoWidth : ExIs K C_NoWidth) (k_NoWidth_NoFit : PySem.W.kitOne K (.ref C_NoWidth) (.ref C_NoFit) = some false) (k_NoWidth_TooMany : PySem.W.kitOne K (.ref C_NoWidth) (.ref C_TooMany) = some false) (k_NoWidth_NoWidth : PySem.W.kitOne K (.ref C_NoWidth) (.ref C_NoWidth) = some true) (k_NoWidth_ValueError : PySem.W.kitOne K (.ref C_NoWidth) (.type "ValueError") = some true) (k_NoWidth_NoRow : PySem.W.kitOne K (.ref C_NoWidth) (.ref C_NoRow) = some false) (k_NoWidth_NoName : PySem.W.kitOne K (.ref C_NoWidth) (.ref C_NoName) = some false) (k_NoWidth_Nought : PySem.W.kitOne K (.ref C_NoWidth) (.ref C_Nought) = some false) (k_NoWidth_Bare : PySem.W.kitOne K (.ref C_NoWidth) (.ref C_Bare) = some false) (k_NoWidth_Loose : PySem.W.kitOne K (.ref C_NoWidth) (.ref C_Loose) = some false) (k_NoWidth_Leans : PySem.W.kitOne K (.ref C_NoWidth) (.ref C_Leans) = some false) (k_NoWidth_NoAnswer : PySem.W.kitOne K (.ref C_NoWidth) (.ref C_NoAnswer) = some false) (k_NoWidth_NoText : PySem.W.kitOne K (.ref C_NoWidth) (.ref C_NoText) = some false) (dn : DefN K mg "_law_alone" s_law_alone ["_law_error", "_law_place"]) (B : BI mg) : OkN P w K mg base 1 "_law_alone" ["_law_error", "_law_place"] (spA K (SAlone C_NoWidth)) := by
  refine dn.aok2 (k := 0) sc_law_alone (fun j => j == 0 || j == 1) [.un] (SAlone C_NoWidth) rfl (fun f cdv A outer s H E hr => have hu := hu_of hr; ⟨_, (pss_cons (ps_set (i := 2) sc_law_alone.nd rfl (by first | exact Or.inl rfl | exact Or.inr rfl) (pe_lst (pa_cons (pe_callB (call_isaX K (c := .ref C_NoFit) (u := .ref C_NoFit) (fun _ h => h)) rfl B.isinstance_ bt_isinstance (pa_cons (pv 0) (pa_cons (pe_glob (v := .ref C_NoFit) rfl m_NoFit rfl) pa_nil))) (pa_cons (pe_callB (call_isaX K (c := .ref C_TooMany) (u := .ref C_TooMany) (fun _ h => h)) rfl B.isinstance_ bt_isinstance (pa_cons (pv 0) (pa_cons (pe_glob (v := .ref C_TooMany) rfl m_TooMany rfl) pa_nil))) (pa_cons (pe_callB (call_isaX K (c := .ref C_NoWidth) (u := .ref C_NoWidth) (fun _ h => h)) rfl B.isinstance_ bt_isinstance (pa_cons (pv 0) (pa_cons (pe_glob (v := .ref C_NoWidth) rfl m_NoWidth rfl) pa_nil))) pa_nil)))))
    (pss_cons (ps_set (i := 2) sc_law_alone.nd rfl (by first | exact Or.inl rfl | exact Or.inr rfl) (pe_op (op_catL K) (pv 2) (pe_lst (pa_cons (pe_callB (call_isaX K (c := .ref C_NoRow) (u := .ref C_NoRow) (fun _ h => h)) rfl B.isinstance_ bt_isinstance (pa_cons (pv 0) (pa_cons (pe_glob (v := .ref C_NoRow) rfl m_NoRow rfl) pa_nil))) (pa_cons (pe_callB (call_isaX K (c := .ref C_NoName) (u := .ref C_NoName) (fun _ h => h)) rfl B.isinstance_ bt_isinstance (pa_cons (pv 0) (pa_cons (pe_glob (v := .ref C_NoName) rfl m_NoName rfl) pa_nil))) (pa_cons (pe_callB (call_isaX K (c := .ref C_Nought) (u := .ref C_Nought) (fun _ h => h)) rfl B.isinstance_ bt_isinstance (pa_cons (pv 0) (pa_cons (pe_glob (v := .ref C_Nought) rfl m_Nought rfl) pa_nil))) pa_nil))))))
    (pss_cons (ps_set (i := 2) sc_law_alone.nd rfl (by first | exact Or.inl rfl | exact Or.inr rfl) (pe_op (op_catL K) (pv 2) (pe_lst (pa_cons (pe_callB (call_isaX K (c := .ref C_Bare) (u := .ref C_Bare) (fun _ h => h)) rfl B.isinstance_ bt_isinstance (pa_cons (pv 0) (pa_cons (pe_glob (v := .ref C_Bare) rfl m_Bare rfl) pa_nil))) (pa_cons (pe_callB (call_isaX K (c := .ref C_Loose) (u := .ref C_Loose) (fun _ h => h)) rfl B.isinstance_ bt_isinstance (pa_cons (pv 0) (pa_cons (pe_glob (v := .ref C_Loose) rfl m_Loose rfl) pa_nil))) (pa_cons (pe_callB (call_isaX K (c := .ref C_Leans) (u := .ref C_Leans) (fun _ h => h)) rfl B.isinstance_ bt_isinstance (pa_cons (pv 0) (pa_cons (pe_glob (v := .ref C_Leans) rfl m_Leans rfl) pa_nil))) pa_nil))))))
    (pss_cons (ps_set (i := 2) sc_law_alone.nd rfl (by first | exact Or.inl rfl | exact Or.inr rfl) (pe_op (op_catL K) (pv 2) (pe_lst (pa_cons (pe_callB (call_isaX K (c := .ref C_NoAnswer) (u := .ref C_NoAnswer) (fun _ h => h)) rfl B.isinstance_ bt_isinstance (pa_cons (pv 0) (pa_cons (pe_glob (v := .ref C_NoAnswer) rfl m_NoAnswer rfl) pa_nil))) (pa_cons (pe_callB (call_isaX K (c := .ref C_NoText) (u := .ref C_NoText) (fun _ h => h)) rfl B.isinstance_ bt_isinstance (pa_cons (pv 0) (pa_cons (pe_glob (v := .ref C_NoText) rfl m_NoText rfl) pa_nil))) pa_nil)))))
    (pss_one (ps_ret (pe_and (pe_callB (call_isaX K (c := .ty "ValueError") (u := .type "ValueError") (fun _ h => h)) rfl B.isinstance_ bt_isinstance (pa_cons (pv 0) (pa_cons (pe_ty (T := "ValueError") rfl n_ValueError (by decide +kernel)) pa_nil))) (pe_and (pe_cmpR (op_eqD K hr.units) (pe_bmK K PySem.F.plainAttrs_list PySem.F.slot_list_count PySem.F.type_list_count (mt_countB K) (pv 2) (pa_cons pe_bl pa_nil)) pe_int (nomark _)) (pe_one (pe_ix (ix_seqK K) (pv 2) (pv 1) (fun _ _ => rfl))))))))))), (sok_seq (sok_set (tok_lst (taok_cons tok_isX (taok_cons tok_isX (taok_cons tok_isX taok_nil)))) rfl)
    (sok_seq (sok_set (tok_op ook_cat tok_var (tok_lst (taok_cons tok_isX (taok_cons tok_isX (taok_cons tok_isX taok_nil))))) rfl)
    (sok_seq (sok_set (tok_op ook_cat tok_var (tok_lst (taok_cons tok_isX (taok_cons tok_isX (taok_cons tok_isX taok_nil))))) rfl)
    (sok_seq (sok_set (tok_op ook_cat tok_var (tok_lst (taok_cons tok_isX (taok_cons tok_isX taok_nil)))) rfl)
    (sok_ret (tok_andV tok_isX (tok_andV (tok_op ook_eq (tok_cnt tok_var (taok_cons tok_bl taok_nil)) tok_int) (tok_op ook_ix tok_var tok_var))))))))⟩) ?_
  rintro ss q ⟨rfl, hq⟩
  refine ⟨rfl, rfl, ?_⟩
  refine cutS (fun ρ => ρ = [.ex C_NoWidth none, nv 2, .ow (([false, false, true]).map D.bl)]) (fun M hM => ⟨false, i_NoWidth, k_NoWidth_NoFit, false, i_NoWidth, k_NoWidth_TooMany, true, i_NoWidth, k_NoWidth_NoWidth, by simp, hM _ rfl⟩) ?_
  rintro _ rfl
  refine cutS (fun ρ => ρ = [.ex C_NoWidth none, nv 2, .ow (([false, false, true, false, false, false]).map D.bl)]) (fun M hM => ⟨false, i_NoWidth, k_NoWidth_NoRow, false, i_NoWidth, k_NoWidth_NoName, false, i_NoWidth, k_NoWidth_Nought, by simp, by simp, hM _ rfl⟩) ?_
  rintro _ rfl
  refine cutS (fun ρ => ρ = [.ex C_NoWidth none, nv 2, .ow (([false, false, true, false, false, false, false, false, false]).map D.bl)]) (fun M hM => ⟨false, i_NoWidth, k_NoWidth_Bare, false, i_NoWidth, k_NoWidth_Loose, false, i_NoWidth, k_NoWidth_Leans, by simp, by simp, hM _ rfl⟩) ?_
  rintro _ rfl
  refine cutS (fun ρ => ρ = [.ex C_NoWidth none, nv 2, .ow (([false, false, true, false, false, false, false, false, false, false, false]).map D.bl)]) (fun M hM => ⟨false, i_NoWidth, k_NoWidth_NoAnswer, false, i_NoWidth, k_NoWidth_NoText, by simp, by simp, hM _ rfl⟩) ?_
  rintro _ rfl
  refine ⟨true, i_NoWidth, k_NoWidth_ValueError, gCnt_ok ⟨rfl, gE0 (c := true) rfl (gIx_l rfl rfl hq)⟩⟩
theorem ok_law_told {C_NoWidth C_JoinError : Addr} (m_NoWidth : mg "NoWidth" = some (.ref C_NoWidth)) (m_JoinError : mg "JoinError" = some (.ref C_JoinError)) (e_NoWidth : PySem.W.excIn K C_NoWidth bmV "ValueError.__new__" = true) (e_JoinError : PySem.W.excIn K C_JoinError bmV "ValueError.__new__" = true) (s_NoWidth_JoinError : PySem.W.subIn K (.ref C_NoWidth) (.ref C_JoinError) = some true) (dn : DefN K mg "_law_told" s_law_told ["_law_way", "_law_n", "_law_w"]) (B : BI mg) (g_law_alone : OkN P w K mg base 1 "_law_alone" ["_law_error", "_law_place"] (spA K (SAlone C_NoWidth))) (g_law_asked : OkN P w K mg base 9 "_law_asked" ["_law_way", "_law_n", "_law_w"] (spA K SAsk)) (x_law_asked : OkX P w K mg base 3 "_law_asked" ["_law_way", "_law_n", "_law_w"] C_NoWidth (spA K SAskX)) : OkN P w K mg base 10 "_law_told" ["_law_way", "_law_n", "_law_w"] (spA K STold) := by
  refine dn.aok2 (k := 9) sc_law_told (fun j => j == 0 || j == 1 || j == 2) [.un, .un] STold rfl (fun f cdv A outer s H E hr => have hu := hu_of hr; ⟨_, (pss_cons (ps_set (i := 3) sc_law_told.nd rfl (by first | exact Or.inl rfl | exact Or.inr rfl) pe_non)
    (pss_cons (ps_or (ps_try0 (pss_one (ps_expr (pe_fn g_law_asked (hr.mono (by decide)) (pa_cons (pv 0) (pa_cons (pv 1) (pa_cons (pv 2) pa_nil)))))))
    (ps_try2 (i := 4) "NoWidth" x_law_asked (hr.mono (by decide)) rfl rfl rfl rfl (pa_cons (pv 0) (pa_cons (pv 1) (pa_cons (pv 2) pa_nil))) one_expr m_NoWidth m_JoinError e_NoWidth e_JoinError s_NoWidth_JoinError sc_law_told.nd rfl rfl (fun a =>
    (pss_one (ps_set (i := 3) sc_law_told.nd rfl (by first | exact Or.inl rfl | exact Or.inr rfl) (pv 4))))))
    (pss_cons (ps_if (pt_cmpR op_isN (pv 3) pe_non (nomark _))
    (pss_one (ps_ret pe_str))
    pss_nil)
    (pss_one (ps_ret (pe_fn g_law_alone (hr.mono (by decide)) (pa_cons (pv 3) (pa_cons pe_int pa_nil)))))))), (sok_seq (sok_set tok_non rfl)
    (sok_seq (sok_or (sok_drop (tok_call (taok_cons tok_var (taok_cons tok_var (taok_cons tok_var taok_nil)))))
    (sok_try2 rfl (taok_cons tok_var (taok_cons tok_var (taok_cons tok_var taok_nil)))
    (sok_set tok_var rfl)))
    (sok_seq (sok_if (ttok_test (tok_op ook_isN tok_var tok_non))
    (sok_ret tok_str)
    sok_next)
    (sok_ret (tok_call (taok_cons tok_var (taok_cons tok_int taok_nil)))))))⟩) ?_
  rintro ss q ⟨way, n, w, rfl, hw, hq1, hq2⟩
  refine ⟨rfl, rfl, ?_⟩
  refine cutS (fun ρ => ρ = [nv way, .vl (.int n), .vl (.int w), .vl .non, .un]) (fun M hM => hM _ rfl) ?_
  rintro _ rfl
  by_cases h : good way n w
  · refine cutS (fun ρ => ρ = [nv way, .vl (.int n), .vl (.int w), .vl .non, .un]) (fun M hM => .inl ⟨rfl, way, n, w, rfl, hw, h, fun d => hM _ rfl⟩) ?_
    rintro _ rfl
    exact hq1 h
  · refine cutS (fun ρ => ρ = [nv way, .vl (.int n), .vl (.int w), .ex C_NoWidth none, .un]) (fun M hM => .inr ⟨rfl, way, n, w, rfl, hw, h, hM _ rfl⟩) ?_
    rintro _ rfl
    exact ⟨rfl, rfl, rfl, hq2 h⟩
end
end K95
set_option Elab.async false
set_option linter.all false
set_option maxRecDepth 100000
set_option maxHeartbeats 1000000
namespace K95
open PySem PySem.Spec PyProof.Rows L2
noncomputable def SNumber : ASp := fun ss q => ∃ n : Nat, ss = [.tp n] ∧ n ≤ 1000000 ∧ ∀ (x : Int) (n' : Nat), n' ≤ n + 2 → q (.d (.int x)) [.tp n']
open Classical in
noncomputable def dueD (way : Nat) (n w : Int) : D := if good way n w then .str "told" else .bl true
noncomputable def SDue : ASp := fun ss q => ∃ (way : Nat) (n w : Int), ss = [nv way, .vl (.int n), .vl (.int w)] ∧ way < 7 ∧ q (.d (dueD way n w)) [nv way, .vl (.int n), .vl (.int w)]
theorem or_yes {c : Bool} {A B : Prop} (h : c = true) (hb : A) : if c = true then A else B := by subst h; exact hb
theorem told_of {way : Nat} {n w : Int} {q : Ko} (hw : way < 7) (h : q (.d (dueD way n w)) [nv way, .vl (.int n), .vl (.int w)]) : STold [nv way, .vl (.int n), .vl (.int w)] q :=
  ⟨way, n, w, rfl, hw, fun g => by rw [dueD, if_pos g] at h; exact h, fun g => by rw [dueD, if_neg g] at h; exact h⟩
theorem due_depth (way : Nat) (n w : Int) : (dueD way n w).depth ≤ 60 := by unfold dueD; split <;> simp [D.depth]
theorem due_told {way : Nat} (hw : way < 7) : dueD way 3 2 = .str "told" := by
  unfold dueD
  rw [if_pos]
  rcases seven hw with rfl | rfl | rfl | rfl | rfl | rfl | rfl <;> simp [good, loW, hiW]
theorem due_true {way : Nat} (hw : way < 7) : dueD way 13 2 = .bl true := by
  unfold dueD
  rw [if_neg]
  rcases seven hw with rfl | rfl | rfl | rfl | rfl | rfl | rfl <;> simp [good, loW, hiW]
theorem due_56 : dueD 4 5 6 = .bl true := by
  unfold dueD
  rw [if_neg]
  simp [good, loW, hiW]
theorem mod7 (b k : Nat) : ((b : Int) + (k : Int)) % 7 = (((b + k) % 7 : Nat) : Int) := by first | assumption | decide | omega
section
variable {P : Program} {w : World} {K : PySem.W.Frag} {mg : Str → Option Value} {base : Heap}
theorem ok_law_number (dn : DefN K mg "_law_number" s_law_number ["_law_tape_here"]) (B : BI mg) (g_law_draw : OkN P w K mg base 1 "_law_draw" ["_law_tape_here", "_law_many"] (spA K SDraw)) : OkN P w K mg base 2 "_law_number" ["_law_tape_here"] (spA K SNumber) := by
  refine dn.aok2 (k := 1) sc_law_number (fun j => j == 0) [.un] SNumber rfl (fun f cdv A outer s H E hr => have hu := hu_of hr; ⟨_, (pss_cons (ps_set (i := 1) sc_law_number.nd rfl (by first | exact Or.inl rfl | exact Or.inr rfl) (pe_fn g_law_draw (hr.mono (by decide)) (pa_cons (pv 0) (pa_cons pe_int pa_nil))))
    (pss_cons (ps_if (pt_cmpR (op_eqD K hr.units) (pv 1) pe_int (nomark _))
    (pss_one (ps_ret (pe_fn g_law_draw (hr.mono (by decide)) (pa_cons (pv 0) (pa_cons (pe_op op_pow pe_int pe_int) pa_nil)))))
    pss_nil)
    (pss_cons (ps_if (pt_cmpR (op_eqD K hr.units) (pv 1) pe_int (nomark _))
    (pss_one (ps_ret (pe_op op_sub pe_int (pe_fn g_law_draw (hr.mono (by decide)) (pa_cons (pv 0) (pa_cons (pe_op op_pow pe_int pe_int) pa_nil))))))
    pss_nil)
    (pss_one (ps_ret (pe_op op_sub (pe_fn g_law_draw (hr.mono (by decide)) (pa_cons (pv 0) (pa_cons pe_int pa_nil))) pe_int)))))), (sok_seq (sok_set (tok_call (taok_cons tok_var (taok_cons tok_int taok_nil))) rfl)
    (sok_seq (sok_if (ttok_test (tok_op ook_eq tok_var tok_int))
    (sok_ret (tok_call (taok_cons tok_var (taok_cons (tok_op ook_int tok_int tok_int) taok_nil))))
    sok_next)
    (sok_seq (sok_if (ttok_test (tok_op ook_eq tok_var tok_int))
    (sok_ret (tok_op ook_int0 tok_int (tok_call (taok_cons tok_var (taok_cons (tok_op ook_int tok_int tok_int) taok_nil)))))
    sok_next)
    (sok_ret (tok_op ook_int0 (tok_call (taok_cons tok_var (taok_cons tok_int taok_nil))) tok_int)))))⟩) ?_
  rintro ss q ⟨n, rfl, hn, hq⟩
  refine ⟨rfl, rfl, ?_⟩
  refine ⟨rfl, n, 6, rfl, by omega, Dv.small (by decide) (by decide), fun r hr => ?_⟩
  dsimp only [stS, pt, back, R.frz]
  have dv : Dv ((10 : Int) ^ ((59 : Int).toNat)) := ⟨by decide +kernel, by decide +kernel⟩
  have cp : CPow 10 59 := ⟨by decide, by decide, by decide⟩
  refine gEq_ok rfl rfl (by simp [D.depth]) rfl (ite2 (fun _ => ?_) fun _ => gEq_ok rfl rfl (by simp [D.depth]) rfl (ite2 (fun _ => ?_) fun _ => ?_))
  · exact ⟨cp, rfl, n + 1, _, rfl, by (clear hr; omega), dv, fun x _ => hq _ _ (by (clear hr hn; omega))⟩
  · exact ⟨cp, rfl, n + 1, _, rfl, by (clear hr; omega), dv, fun x _ => hq _ _ (by (clear hr hn; omega))⟩
  · exact ⟨rfl, n + 1, 16, rfl, by (clear hr; omega), Dv.small (by decide) (by decide), fun x _ => hq _ _ (by (clear hr hn; omega))⟩
theorem ok_law_due (dn : DefN K mg "_law_due" s_law_due ["_law_way", "_law_n", "_law_w"]) (B : BI mg) : OkN P w K mg base 1 "_law_due" ["_law_way", "_law_n", "_law_w"] (spA K SDue) := by
  refine dn.aok2 (k := 0) sc_law_due (fun j => j == 0 || j == 1 || j == 2) [] SDue rfl (fun f cdv A outer s H E hr => have hu := hu_of hr; ⟨_, (pss_cons (ps_if (PW.pt (pw_and (pt_cmpR (op_eqD K hr.units) (pv 0) pe_int (nomark _)) (pw_and1 (pt_not (pt_chain op_le op_le pe_int (pv 2) (pv 1))))))
    (pss_one (ps_ret pe_bl))
    pss_nil)
    (pss_cons (ps_if (pt_chain op_le op_le (pe_ix (ix_seqK K) (pz_lst (za_cons ns_Constant pe_int (za_cons ns_Constant pe_int (za_cons ns_Constant pe_int (za_cons ns_Constant pe_int (za_cons ns_Constant pe_int (za_cons ns_Constant pe_int (za_cons ns_Constant pe_int za_nil)))))))) (pv 0) (fun _ _ => rfl)) (pv 1) (pe_ix (ix_seqK K) (pz_lst (za_cons ns_Constant pe_int (za_cons ns_Constant pe_int (za_cons ns_Constant pe_int (za_cons ns_Constant pe_int (za_cons ns_Constant pe_int (za_cons ns_Constant pe_int (za_cons ns_Constant pe_int za_nil)))))))) (pv 0) (fun _ _ => rfl)))
    (pss_one (ps_ret pe_str))
    pss_nil)
    (pss_one (ps_ret pe_bl)))), (sok_seq (sok_if (ttok_and (ttok_test (tok_op ook_eq tok_var tok_int)) (ttok_not (ttok_test (tok_chain ook_bl0 ook_bl0 tok_int tok_var tok_var))))
    (sok_ret tok_bl)
    sok_next)
    (sok_seq (sok_if (ttok_test (tok_chain ook_bl0 ook_bl0 (tok_op ook_ix (tok_lst (taok_cons tok_int (taok_cons tok_int (taok_cons tok_int (taok_cons tok_int (taok_cons tok_int (taok_cons tok_int (taok_cons tok_int taok_nil)))))))) tok_var) tok_var (tok_op ook_ix (tok_lst (taok_cons tok_int (taok_cons tok_int (taok_cons tok_int (taok_cons tok_int (taok_cons tok_int (taok_cons tok_int (taok_cons tok_int taok_nil)))))))) tok_var)))
    (sok_ret tok_str)
    sok_next)
    (sok_ret tok_bl)))⟩) ?_
  rintro ss q ⟨way, n, w, rfl, hw, hq⟩
  refine ⟨rfl, rfl, ?_⟩
  have d1 : good way n w → q (.d (.str "told")) [nv way, Sv.vl (D.int n), Sv.vl (D.int w)] := fun g => by rw [dueD, if_pos g] at hq; exact hq
  have d2 : ¬ good way n w → q (.d (.bl true)) [nv way, Sv.vl (D.int n), Sv.vl (D.int w)] := fun g => by rw [dueD, if_neg g] at hq; exact hq
  clear hq
  unfold good at d1 d2
  have un : ∀ {b : Bool}, ¬ b = true → b = false := fun h => Bool.eq_false_iff.mpr h
  rcases seven hw with rfl | rfl | rfl | rfl | rfl | rfl | rfl <;> simp only [loW, hiW, List.getD_cons_zero, List.getD_cons_succ] at d1 d2
  case inr.inr.inr.inr.inl =>
    refine gE0 (c := true) rfl (or_yes rfl ?_)
    refine ite2 (fun h1 => ?_) fun h1 => ?_
    · refine ite2 (fun h2 => ?_) fun h2 => ?_
      · rw [decide_eq_true_eq] at h1
        have h3 : ¬ (w ≤ n) := fun z => by rw [decide_eq_true z] at h2; cases h2
        exact d2 fun z => h3 (z.2.2 trivial).2
      · rw [decide_eq_true_eq] at h1
        have h3 : w ≤ n := by
          apply Classical.byContradiction
          intro z
          exact h2 (by rw [decide_eq_false z]; rfl)
        refine ⟨by simp, gIx_l rfl rfl (ite2 (fun h4 => ⟨by simp, gIx_l rfl rfl (ite2 (fun h5 => ?_) fun h5 => ?_)⟩) fun h4 => ?_)⟩
        · rw [decide_eq_true_eq] at h4 h5; exact d1 ⟨h4, h5, fun _ => ⟨h1, h3⟩⟩
        · rw [decide_eq_true_eq] at h5; exact d2 fun z => h5 z.2.1
        · rw [decide_eq_true_eq] at h4; exact d2 fun z => h4 z.1
    · rw [decide_eq_true_eq] at h1
      exact d2 fun z => h1 (z.2.2 trivial).1
  all_goals
    refine gE0 (c := false) rfl ⟨by simp, gIx_l rfl rfl (ite2 (fun h4 => ⟨by simp, gIx_l rfl rfl (ite2 (fun h5 => ?_) fun h5 => ?_)⟩) fun h4 => ?_)⟩
    · rw [decide_eq_true_eq] at h4 h5; exact d1 ⟨h4, h5, fun z => absurd z (by decide)⟩
    · rw [decide_eq_true_eq] at h5; exact d2 fun z => h5 z.2.1
    · rw [decide_eq_true_eq] at h4; exact d2 fun z => h4 z.1
theorem ok_law (dn : DefN K mg "law" s_law ["_law_script"]) (B : BI mg) (g_law_tape : OkN P w K mg base 1 "_law_tape" ["_law_script"] (spA K STape)) (g_law_number : OkN P w K mg base 2 "_law_number" ["_law_tape_here"] (spA K SNumber)) (g_law_draw : OkN P w K mg base 1 "_law_draw" ["_law_tape_here", "_law_many"] (spA K SDraw)) (g_law_told : OkN P w K mg base 10 "_law_told" ["_law_way", "_law_n", "_law_w"] (spA K STold)) (g_law_due : OkN P w K mg base 1 "_law_due" ["_law_way", "_law_n", "_law_w"] (spA K SDue)) : OkN P w K mg base 11 "law" ["_law_script"] (spA K SLaw) := by
  refine dn.aok2 (k := 10) sc_law (fun j => j == 0) [.un, .un, .un, .un, .un, .un, .un] SLaw rfl (fun f cdv A outer s H E hr => have hu := hu_of hr; ⟨_, (pss_cons (ps_set (i := 1) sc_law.nd rfl (by first | exact Or.inl rfl | exact Or.inr rfl) (pe_fn g_law_tape (hr.mono (by decide)) (pa_cons (pv 0) pa_nil)))
    (pss_cons (ps_for PassesOwn.never rfl (pi_range1 rfl B.range_ (pa_cons (pe_op op_add pe_int (pe_fn g_law_draw (hr.mono (by decide)) (pa_cons (pv 1) (pa_cons pe_int pa_nil)))) pa_nil)) (pg_name (i := 2) sc_law.nd rfl (by first | exact Or.inl rfl | exact Or.inr rfl))
    (pss_cons (ps_set (i := 3) sc_law.nd rfl (by first | exact Or.inl rfl | exact Or.inr rfl) (pe_fn g_law_number (hr.mono (by decide)) (pa_cons (pv 1) pa_nil)))
    (pss_cons (ps_set (i := 4) sc_law.nd rfl (by first | exact Or.inl rfl | exact Or.inr rfl) (pe_fn g_law_number (hr.mono (by decide)) (pa_cons (pv 1) pa_nil)))
    (pss_cons (ps_if (pt_cmpR (op_eqD K hr.units) (pe_fn g_law_draw (hr.mono (by decide)) (pa_cons (pv 1) (pa_cons pe_int pa_nil))) pe_int (nomark _))
    (pss_one (ps_set (i := 4) sc_law.nd rfl (by first | exact Or.inl rfl | exact Or.inr rfl) (pe_op op_sub (pe_op op_add (pv 3) (pe_fn g_law_draw (hr.mono (by decide)) (pa_cons (pv 1) (pa_cons pe_int pa_nil)))) pe_int)))
    pss_nil)
    (pss_cons (ps_set (i := 5) sc_law.nd rfl (by first | exact Or.inl rfl | exact Or.inr rfl) (pe_fn g_law_draw (hr.mono (by decide)) (pa_cons (pv 1) (pa_cons pe_int pa_nil))))
    (pss_one (ps_for PassesOwn.never rfl (pi_range1 rfl B.range_ (pa_cons pe_int pa_nil)) (pg_name (i := 6) sc_law.nd rfl (by first | exact Or.inl rfl | exact Or.inr rfl))
    (pss_cons (ps_set (i := 7) sc_law.nd rfl (by first | exact Or.inl rfl | exact Or.inr rfl) (pe_op op_mod (pe_op op_add (pv 5) (pv 6)) pe_int))
    (pss_one (ps_if (PW.pt (pw_or (pt_cmpR (op_neD K hr.units) (pe_fn g_law_told (hr.mono (by decide)) (pa_cons (pv 7) (pa_cons (pv 3) (pa_cons (pv 4) pa_nil)))) (pe_fn g_law_due (hr.mono (by decide)) (pa_cons (pv 7) (pa_cons (pv 3) (pa_cons (pv 4) pa_nil)))) (nomark _)) (pw_or1 (pt_cmpR (op_neD K hr.units) (pe_fn g_law_told (hr.mono (by decide)) (pa_cons (pv 7) (pa_cons pe_int (pa_cons pe_int pa_nil)))) pe_str (nomark _)))))
    (pss_one (ps_ret pe_bl))
    pss_nil))))))))))
    (pss_one (ps_ret (pe_and (pe_cmpR (op_eqD K hr.units) (pe_comp ["_law_way"] [] rfl (Blk.of (defScope s_law) nm_law) (pi_range1 rfl B.range_ (pa_cons pe_int pa_nil)) (fun _ _ _ _ nd => (pg_name (i := 0) nd rfl (by first | exact Or.inl rfl | exact Or.inr rfl))) (fun _ _ _ _ => pts_nil) (fun _ _ _ _ => (pe_fn g_law_told (hr.mono (by decide)) (pa_cons (pv 0) (pa_cons pe_int (pa_cons pe_int pa_nil)))))) (pe_op (op_repL K) (pe_lst (pa_cons pe_bl pa_nil)) pe_int) (nomark _)) (pe_one (pe_cmpR op_isB (pe_fn g_law_told (hr.mono (by decide)) (pa_cons pe_int (pa_cons pe_int (pa_cons pe_int pa_nil)))) pe_bl (nomark _)))))))), (sok_seq (sok_set (tok_call (taok_cons tok_var taok_nil)) rfl)
    (sok_seq (sok_for (pin := (fun _ => false)) (tiok_rng1 (taok_cons (tok_op ook_int0 tok_int (tok_call (taok_cons tok_var (taok_cons tok_int taok_nil)))) taok_nil)) (tgok_name rfl)
    (sok_seq (sok_set (tok_call (taok_cons tok_var taok_nil)) rfl)
    (sok_seq (sok_set (tok_call (taok_cons tok_var taok_nil)) rfl)
    (sok_seq (sok_if (ttok_test (tok_op ook_eq (tok_call (taok_cons tok_var (taok_cons tok_int taok_nil))) tok_int))
    (sok_set (tok_op ook_int0 (tok_op ook_int0 tok_var (tok_call (taok_cons tok_var (taok_cons tok_int taok_nil)))) tok_int) rfl)
    sok_next)
    (sok_seq (sok_set (tok_call (taok_cons tok_var (taok_cons tok_int taok_nil))) rfl)
    (sok_for (pin := (fun _ => false)) (tiok_rng1 (taok_cons tok_int taok_nil)) (tgok_name rfl)
    (sok_seq (sok_set (tok_op ook_int (tok_op ook_int0 tok_var tok_var) tok_int) rfl)
    (sok_if (ttok_or (ttok_test (tok_op ook_ne (tok_call (taok_cons tok_var (taok_cons tok_var (taok_cons tok_var taok_nil)))) (tok_call (taok_cons tok_var (taok_cons tok_var (taok_cons tok_var taok_nil)))))) (ttok_test (tok_op ook_ne (tok_call (taok_cons tok_var (taok_cons tok_int (taok_cons tok_int taok_nil)))) tok_str)))
    (sok_ret tok_bl)
    sok_next))))))))
    (sok_ret (tok_andV (tok_op ook_eq (tok_comp (tiok_rng1 (taok_cons tok_int taok_nil)) (tgok_name rfl) ttok_all (tok_call (taok_cons tok_var (taok_cons tok_int (taok_cons tok_int taok_nil))))) (tok_op ook_rep (tok_lst (taok_cons tok_bl taok_nil)) tok_int)) (tok_op ook_isB (tok_call (taok_cons tok_int (taok_cons tok_int (taok_cons tok_int taok_nil)))) tok_bl)))))⟩) ?_
  rintro ss q ⟨ns, hl, rfl, hq⟩
  refine ⟨rfl, rfl, rfl, ns, rfl, ?_⟩
  dsimp only [stS, pt, back, R.frz]
  refine cutS (fun ρ => ∃ s1 s2 s3 s4 s5 s6 s7, ρ = [.vl (.lst (ns.map D.int)), s1, s2, s3, s4, s5, s6, s7]) (fun M hM => ⟨rfl, 0, 20, rfl, by (clear hl; omega), Dv.small (by decide) (by decide), fun c hc => ⟨⟨by (clear hl; omega), by (clear hl; omega)⟩, ?_⟩⟩) ?_
  · refine forA_rng (fun k ρ => ∃ n' s2 s3 s4 s5 s6 s7, n' ≤ 100 * k + 1 ∧ ρ = [.vl (.lst (ns.map D.int)), .tp n', s2, s3, s4, s5, s6, s7]) (fun _ _ _ => trivial) ?_ (fun ρ ⟨n', s2, s3, s4, s5, s6, s7, _, e⟩ => hM ρ ⟨_, s2, s3, s4, s5, s6, s7, e⟩) ⟨1, .un, .un, .un, .un, .un, .un, by (clear hc hl; omega), rfl⟩
    rintro k _ M1 hk ⟨n0, s2, s3, s4, s5, s6, s7, hn0, rfl⟩ hM1
    have hk' : k < 21 := by (clear hn0 hl; omega)
    refine cutS (fun ρ => ∃ (x : Int) (n1 : Nat), n1 ≤ n0 + 2 ∧ ρ = [.vl (.lst (ns.map D.int)), .tp n1, .vl (.int (0 + (k : Int))), .vl (.int x), s4, s5, s6, s7]) (fun M2 hM2 => ⟨rfl, n0, rfl, by (clear hk hc hl; omega), fun x n1 h => hM2 _ ⟨x, n1, h, rfl⟩⟩) ?_
    rintro _ ⟨n, n1, hn1, rfl⟩
    refine cutS (fun ρ => ∃ (x : Int) (n2 : Nat), n2 ≤ n1 + 2 ∧ ρ = [.vl (.lst (ns.map D.int)), .tp n2, .vl (.int (0 + (k : Int))), .vl (.int n), .vl (.int x), s5, s6, s7]) (fun M2 hM2 => ⟨rfl, n1, rfl, by (clear hk hc hl; omega), fun x n2 h => hM2 _ ⟨x, n2, h, rfl⟩⟩) ?_
    rintro _ ⟨w, n2, hn2, rfl⟩
    refine cutS (fun ρ => ∃ (x : Int) (n3 : Nat), n3 ≤ n2 + 2 ∧ ρ = [.vl (.lst (ns.map D.int)), .tp n3, .vl (.int (0 + (k : Int))), .vl (.int n), .vl (.int x), s5, s6, s7]) (fun M2 hM2 => ⟨rfl, n2, 2, rfl, by (clear hk hc hl; omega), Dv.small (by decide) (by decide), fun r hr => gEq_ok rfl rfl (by simp [D.depth]) rfl (ite2 (fun _ => ⟨rfl, n2 + 1, 3, rfl, by (clear hr hk hc hl; omega), Dv.small (by decide) (by decide), fun r2 _ => hM2 _ ⟨_, n2 + 2, by (clear hr hn2 hn1 hk' hn0 hk hc hl; omega), rfl⟩⟩) fun _ => hM2 _ ⟨w, n2 + 1, by (clear hr hn2 hn1 hk' hn0 hk hc hl; omega), rfl⟩)⟩) ?_
    rintro _ ⟨w, n3, hn3, rfl⟩
    refine cutS (fun ρ => ∃ b : Nat, ρ = [.vl (.lst (ns.map D.int)), .tp (n3 + 1), .vl (.int (0 + (k : Int))), .vl (.int n), .vl (.int w), nv b, s6, s7]) (fun M2 hM2 => ⟨rfl, n3, 7, rfl, by (clear hk hc hl; omega), Dv.small (by decide) (by decide), fun r hr => hM2 _ ⟨r, rfl⟩⟩) ?_
    rintro _ ⟨b, rfl⟩
    refine ⟨⟨by decide, by decide⟩, forA_rng (fun j ρ => ∃ s6 s7, ρ = [.vl (.lst (ns.map D.int)), .tp (n3 + 1), .vl (.int (0 + (k : Int))), .vl (.int n), .vl (.int w), nv b, s6, s7]) (fun _ _ _ => trivial) ?_ (fun ρ ⟨s6, s7, e⟩ => hM1 ρ ⟨n3 + 1, _, _, _, _, _, _, by (clear e hk' hk hc hl; omega), e⟩) ⟨s6, s7, rfl⟩⟩
    rintro j _ M3 hj ⟨s6, s7, rfl⟩ hM3
    have h7 : (b + j) % 7 < 7 := Nat.mod_lt _ (by decide)
    rw [Int.zero_add]
    refine cutS (fun ρ => ρ = [.vl (.lst (ns.map D.int)), .tp (n3 + 1), .vl (.int (0 + (k : Int))), .vl (.int n), .vl (.int w), nv b, nv j, nv ((b + j) % 7)]) (fun M4 hM4 => ⟨(by decide : (0 : Int) < 7), hM4 _ ?_⟩) ?_
    · rw [← nv_eq (mod7 b j)]; rfl
    rintro _ rfl
    refine ⟨rfl, told_of h7 ⟨rfl, _, _, _, rfl, h7, gEq_ok rfl rfl (due_depth _ _ _) (b := true) (eqD_refl _) ⟨rfl, told_of h7 ?_⟩⟩⟩
    rw [due_told h7]
    exact gEq_ok rfl rfl (by simp [D.depth]) (b := true) (eqD_refl _) (hM3 _ ⟨_, _, rfl⟩)
  rintro _ ⟨s1, s2, s3, s4, s5, s6, s7, rfl⟩
  refine ⟨⟨by decide, by decide⟩, by rw [rngD_len]; decide, ?_⟩
  refine compA_rng (fun _ => .bl true) trivial (fun j acc M3 hj hM3 => ⟨rfl, ?_⟩) ?_
  · have hj' : j < 7 := hj
    rw [Int.zero_add]
    refine told_of hj' ?_
    rw [due_true hj']
    exact hM3
  · refine ⟨by simp, ⟨by decide, by decide, by decide⟩, gEq_ok rfl rfl (by decide +kernel) (b := true) (by decide +kernel) ⟨rfl, told_of (way := 4) (by decide) ?_⟩⟩
    rw [due_56]
    exact hq _
theorem fin (d_givens_of : DefN K mg "givens_of" s_givens_of ["row"]) (d_joining : DefN K mg "joining" s_joining ["one", "other"]) (d_chained : DefN K mg "chained" s_chained ["many", "joins", "things"]) (d_running : DefN K mg "running" s_running ["n"]) (d_running_halves : DefN K mg "running_halves" s_running_halves ["n"]) (d_all_but : DefN K mg "all_but" s_all_but ["n", "clean"]) (d_windows : DefN K mg "windows" s_windows ["n", "w"]) (d_neighbours : DefN K mg "neighbours" s_neighbours ["n"]) (d_all_sums : DefN K mg "all_sums" s_all_sums ["n"]) (d_refuse_width : DefN K mg "refuse_width" s_refuse_width ["width", "least", "most"]) (d_running_sums : DefN K mg "running_sums" s_running_sums ["many", "joins", "things"]) (d_sums_by_halves : DefN K mg "sums_by_halves" s_sums_by_halves ["many", "joins", "things"]) (d_taken_out : DefN K mg "taken_out" s_taken_out ["many", "joins"]) (d_parted_sums : DefN K mg "parted_sums" s_parted_sums ["many", "joins"]) (d_law_tape : DefN K mg "_law_tape" s_law_tape ["_law_script"]) (d_law_draw : DefN K mg "_law_draw" s_law_draw ["_law_tape_here", "_law_many"]) (d_law_alone : DefN K mg "_law_alone" s_law_alone ["_law_error", "_law_place"]) (d_law_number : DefN K mg "_law_number" s_law_number ["_law_tape_here"]) (d_law_asked : DefN K mg "_law_asked" s_law_asked ["_law_way", "_law_n", "_law_w"]) (d_law_told : DefN K mg "_law_told" s_law_told ["_law_way", "_law_n", "_law_w"]) (d_law_due : DefN K mg "_law_due" s_law_due ["_law_way", "_law_n", "_law_w"]) (d_law : DefN K mg "law" s_law ["_law_script"]) (c_MOST_GIVENS : ∃ u, mg "MOST_GIVENS" = some u ∧ RelV (.int 12) u) (c_MOST_ALL_SUMS : ∃ u, mg "MOST_ALL_SUMS" = some u ∧ RelV (.int 4) u) (xf : XF K mg) (B : BI mg) : OkN P w K mg base 11 "law" ["_law_script"] (spLaw K) := by
  obtain ⟨C_NoWidth, C_JoinError, C_NoFit, C_TooMany, C_NoRow, C_NoName, C_Nought, C_Bare, C_Loose, C_Leans, C_NoAnswer, C_NoText, m_NoWidth, m_JoinError, m_NoFit, m_TooMany, m_NoRow, m_NoName, m_Nought, m_Bare, m_Loose, m_Leans, m_NoAnswer, m_NoText, n_ValueError, e_NoWidth, e_JoinError, s_NoWidth_JoinError, i_NoWidth, k_NoWidth_NoFit, k_NoWidth_TooMany, k_NoWidth_NoWidth, k_NoWidth_ValueError, k_NoWidth_NoRow, k_NoWidth_NoName, k_NoWidth_Nought, k_NoWidth_Bare, k_NoWidth_Loose, k_NoWidth_Leans, k_NoWidth_NoAnswer, k_NoWidth_NoText⟩ := xf
  exact
  have g_law_tape := ok_law_tape d_law_tape B
  have g_law_draw := ok_law_draw d_law_draw B
  have g_joining := ok_joining d_joining B
  have g_chained := ok_chained d_chained B g_joining
  have g_refuse_width := ok_refuse_width d_refuse_width B
  have g_running_sums := ok_running_sums d_running_sums B g_chained
  have g_running := ok_running d_running B g_refuse_width g_running_sums c_MOST_GIVENS
  have z0 := d_sums_by_halves.no (P := P) (w := w) (base := base) sc_sums_by_halves 1
  have z1 := ok_sums_by_halves 0 0 d_sums_by_halves B g_chained z0
  have z2 := ok_sums_by_halves 1 1 d_sums_by_halves B g_chained z1
  have z3 := ok_sums_by_halves 2 2 d_sums_by_halves B g_chained z2
  have z4 := ok_sums_by_halves 3 3 d_sums_by_halves B g_chained z3
  have z5 := ok_sums_by_halves 4 4 d_sums_by_halves B g_chained z4
  have g_sums_by_halves := z5
  have g_running_halves := ok_running_halves d_running_halves B g_refuse_width g_sums_by_halves c_MOST_GIVENS
  have g_taken_out := ok_taken_out d_taken_out B g_chained
  have g_parted_sums := ok_parted_sums d_parted_sums B g_running_sums g_chained
  have g_all_but := ok_all_but d_all_but B g_refuse_width g_parted_sums g_taken_out c_MOST_GIVENS
  have g_windows := ok_windows d_windows B g_refuse_width g_running_sums g_chained c_MOST_GIVENS
  have g_neighbours := ok_neighbours d_neighbours B g_refuse_width c_MOST_GIVENS
  have g_givens_of := ok_givens_of d_givens_of B
  have g_all_sums := ok_all_sums d_all_sums B g_refuse_width g_givens_of g_chained c_MOST_ALL_SUMS
  have x_refuse_width := okx_refuse_width m_NoWidth e_NoWidth d_refuse_width B
  have x_running := okx_running m_NoWidth e_NoWidth d_running B x_refuse_width c_MOST_GIVENS
  have x_running_halves := okx_running_halves m_NoWidth e_NoWidth d_running_halves B x_refuse_width c_MOST_GIVENS
  have x_all_but := okx_all_but m_NoWidth e_NoWidth d_all_but B x_refuse_width c_MOST_GIVENS
  have x_windows := okx_windows m_NoWidth e_NoWidth d_windows B g_refuse_width x_refuse_width c_MOST_GIVENS
  have x_neighbours := okx_neighbours m_NoWidth e_NoWidth d_neighbours B x_refuse_width c_MOST_GIVENS
  have x_all_sums := okx_all_sums m_NoWidth e_NoWidth d_all_sums B x_refuse_width c_MOST_ALL_SUMS
  have g_law_asked := ok_law_asked d_law_asked B g_all_sums g_running g_running_halves g_all_but g_windows g_neighbours
  have x_law_asked := okx_law_asked m_NoWidth e_NoWidth d_law_asked B x_all_sums x_running x_running_halves x_all_but x_windows x_neighbours
  have g_law_alone := ok_law_alone m_NoFit m_TooMany m_NoWidth n_ValueError m_NoRow m_NoName m_Nought m_Bare m_Loose m_Leans m_NoAnswer m_NoText i_NoWidth k_NoWidth_NoFit k_NoWidth_TooMany k_NoWidth_NoWidth k_NoWidth_ValueError k_NoWidth_NoRow k_NoWidth_NoName k_NoWidth_Nought k_NoWidth_Bare k_NoWidth_Loose k_NoWidth_Leans k_NoWidth_NoAnswer k_NoWidth_NoText d_law_alone B
  have g_law_told := ok_law_told m_NoWidth m_JoinError e_NoWidth e_JoinError s_NoWidth_JoinError d_law_told B g_law_alone g_law_asked x_law_asked
  have g_law_number := ok_law_number d_law_number B g_law_draw
  have g_law_due := ok_law_due d_law_due B
  have g_law := ok_law d_law B g_law_tape g_law_number g_law_draw g_law_told g_law_due
  law_of g_law
end
end K95
open PySem PySem.W PyProof.Rows
set_option maxRecDepth 100000 in
set_option maxHeartbeats 0 in
theorem PySem.Challenge.cw_fewjoins_k95_no_such_width_holds : PySem.Challenge.rw_fewjoins_k95_no_such_width.Holds := by
  w_on; o_law; k_head; (case hw => w_witness2)
  k_fill
  refine L2.walk_ofK (l := PySem.Challenge.rw_fewjoins_k95_no_such_width) (n := 63) (k := 11) (x := "_law_script") (CX := L2.CX0) (sp := L2.spLaw) rfl (by decide) rfl ⟨rfl, by decide, by decide⟩ (fun w h Y => PySem.W.kIn_of Y) ?F ?S ?C
  case S => exact fun K H a ns hl hO hS => ⟨a, ns, rfl, hS, hl, fun _ => rfl⟩
  case C => exact fun H s e s' h => h
  case F =>
    intro w mg fa h KX G hmg
    have d_givens_of : L2.DefN (L2.KOf KX) mg "givens_of" K95.s_givens_of ["row"] := by
      dsimp only [L2.KOf]
      refine' L2.def_mk KX G ?a ?l ?c ?k (fun _ _ _ _ _ _ us hl => L2.len1 (fun _ => rfl) us hl)
      (case a => k_is); (case l => k_is); (case c => k_is); (case k => k_is)
    have d_joining : L2.DefN (L2.KOf KX) mg "joining" K95.s_joining ["one", "other"] := by
      dsimp only [L2.KOf]
      refine' L2.def_mk KX G ?a ?l ?c ?k (fun _ _ _ _ _ _ us hl => L2.len2 (fun _ _ => rfl) us hl)
      (case a => k_is); (case l => k_is); (case c => k_is); (case k => k_is)
    have d_chained : L2.DefN (L2.KOf KX) mg "chained" K95.s_chained ["many", "joins", "things"] := by
      dsimp only [L2.KOf]
      refine' L2.def_mk KX G ?a ?l ?c ?k (fun _ _ _ _ _ _ us hl => L2.len3 (fun _ _ _ => rfl) us hl)
      (case a => k_is); (case l => k_is); (case c => k_is); (case k => k_is)
    have d_running : L2.DefN (L2.KOf KX) mg "running" K95.s_running ["n"] := by
      dsimp only [L2.KOf]
      refine' L2.def_mk KX G ?a ?l ?c ?k (fun _ _ _ _ _ _ us hl => L2.len1 (fun _ => rfl) us hl)
      (case a => k_is); (case l => k_is); (case c => k_is); (case k => k_is)
    have d_running_halves : L2.DefN (L2.KOf KX) mg "running_halves" K95.s_running_halves ["n"] := by
      dsimp only [L2.KOf]
      refine' L2.def_mk KX G ?a ?l ?c ?k (fun _ _ _ _ _ _ us hl => L2.len1 (fun _ => rfl) us hl)
      (case a => k_is); (case l => k_is); (case c => k_is); (case k => k_is)
    have d_all_but : L2.DefN (L2.KOf KX) mg "all_but" K95.s_all_but ["n", "clean"] := by
      dsimp only [L2.KOf]
      refine' L2.def_mk KX G ?a ?l ?c ?k (fun _ _ _ _ _ _ us hl => L2.len2 (fun _ _ => rfl) us hl)
      (case a => k_is); (case l => k_is); (case c => k_is); (case k => k_is)
    have d_windows : L2.DefN (L2.KOf KX) mg "windows" K95.s_windows ["n", "w"] := by
      dsimp only [L2.KOf]
      refine' L2.def_mk KX G ?a ?l ?c ?k (fun _ _ _ _ _ _ us hl => L2.len2 (fun _ _ => rfl) us hl)
      (case a => k_is); (case l => k_is); (case c => k_is); (case k => k_is)
    have d_neighbours : L2.DefN (L2.KOf KX) mg "neighbours" K95.s_neighbours ["n"] := by
      dsimp only [L2.KOf]
      refine' L2.def_mk KX G ?a ?l ?c ?k (fun _ _ _ _ _ _ us hl => L2.len1 (fun _ => rfl) us hl)
      (case a => k_is); (case l => k_is); (case c => k_is); (case k => k_is)
    have d_all_sums : L2.DefN (L2.KOf KX) mg "all_sums" K95.s_all_sums ["n"] := by
      dsimp only [L2.KOf]
      refine' L2.def_mk KX G ?a ?l ?c ?k (fun _ _ _ _ _ _ us hl => L2.len1 (fun _ => rfl) us hl)
      (case a => k_is); (case l => k_is); (case c => k_is); (case k => k_is)
    have d_refuse_width : L2.DefN (L2.KOf KX) mg "refuse_width" K95.s_refuse_width ["width", "least", "most"] := by
      dsimp only [L2.KOf]
      refine' L2.def_mk KX G ?a ?l ?c ?k (fun _ _ _ _ _ _ us hl => L2.len3 (fun _ _ _ => rfl) us hl)
      (case a => k_is); (case l => k_is); (case c => k_is); (case k => k_is)
    have d_running_sums : L2.DefN (L2.KOf KX) mg "running_sums" K95.s_running_sums ["many", "joins", "things"] := by
      dsimp only [L2.KOf]
      refine' L2.def_mk KX G ?a ?l ?c ?k (fun _ _ _ _ _ _ us hl => L2.len3 (fun _ _ _ => rfl) us hl)
      (case a => k_is); (case l => k_is); (case c => k_is); (case k => k_is)
    have d_sums_by_halves : L2.DefN (L2.KOf KX) mg "sums_by_halves" K95.s_sums_by_halves ["many", "joins", "things"] := by
      dsimp only [L2.KOf]
      refine' L2.def_mk KX G ?a ?l ?c ?k (fun _ _ _ _ _ _ us hl => L2.len3 (fun _ _ _ => rfl) us hl)
      (case a => k_is); (case l => k_is); (case c => k_is); (case k => k_is)
    have d_taken_out : L2.DefN (L2.KOf KX) mg "taken_out" K95.s_taken_out ["many", "joins"] := by
      dsimp only [L2.KOf]
      refine' L2.def_mk KX G ?a ?l ?c ?k (fun _ _ _ _ _ _ us hl => L2.len2 (fun _ _ => rfl) us hl)
      (case a => k_is); (case l => k_is); (case c => k_is); (case k => k_is)
    have d_parted_sums : L2.DefN (L2.KOf KX) mg "parted_sums" K95.s_parted_sums ["many", "joins"] := by
      dsimp only [L2.KOf]
      refine' L2.def_mk KX G ?a ?l ?c ?k (fun _ _ _ _ _ _ us hl => L2.len2 (fun _ _ => rfl) us hl)
      (case a => k_is); (case l => k_is); (case c => k_is); (case k => k_is)
    have d_law_tape : L2.DefN (L2.KOf KX) mg "_law_tape" K95.s_law_tape ["_law_script"] := by
      dsimp only [L2.KOf]
      refine' L2.def_mk KX G ?a ?l ?c ?k (fun _ _ _ _ _ _ us hl => L2.len1 (fun _ => rfl) us hl)
      (case a => k_is); (case l => k_is); (case c => k_is); (case k => k_is)
    have d_law_draw : L2.DefN (L2.KOf KX) mg "_law_draw" K95.s_law_draw ["_law_tape_here", "_law_many"] := by
      dsimp only [L2.KOf]
      refine' L2.def_mk KX G ?a ?l ?c ?k (fun _ _ _ _ _ _ us hl => L2.len2 (fun _ _ => rfl) us hl)
      (case a => k_is); (case l => k_is); (case c => k_is); (case k => k_is)
    have d_law_alone : L2.DefN (L2.KOf KX) mg "_law_alone" K95.s_law_alone ["_law_error", "_law_place"] := by
      dsimp only [L2.KOf]
      refine' L2.def_mk KX G ?a ?l ?c ?k (fun _ _ _ _ _ _ us hl => L2.len2 (fun _ _ => rfl) us hl)
      (case a => k_is); (case l => k_is); (case c => k_is); (case k => k_is)
    have d_law_number : L2.DefN (L2.KOf KX) mg "_law_number" K95.s_law_number ["_law_tape_here"] := by
      dsimp only [L2.KOf]
      refine' L2.def_mk KX G ?a ?l ?c ?k (fun _ _ _ _ _ _ us hl => L2.len1 (fun _ => rfl) us hl)
      (case a => k_is); (case l => k_is); (case c => k_is); (case k => k_is)
    have d_law_asked : L2.DefN (L2.KOf KX) mg "_law_asked" K95.s_law_asked ["_law_way", "_law_n", "_law_w"] := by
      dsimp only [L2.KOf]
      refine' L2.def_mk KX G ?a ?l ?c ?k (fun _ _ _ _ _ _ us hl => L2.len3 (fun _ _ _ => rfl) us hl)
      (case a => k_is); (case l => k_is); (case c => k_is); (case k => k_is)
    have d_law_told : L2.DefN (L2.KOf KX) mg "_law_told" K95.s_law_told ["_law_way", "_law_n", "_law_w"] := by
      dsimp only [L2.KOf]
      refine' L2.def_mk KX G ?a ?l ?c ?k (fun _ _ _ _ _ _ us hl => L2.len3 (fun _ _ _ => rfl) us hl)
      (case a => k_is); (case l => k_is); (case c => k_is); (case k => k_is)
    have d_law_due : L2.DefN (L2.KOf KX) mg "_law_due" K95.s_law_due ["_law_way", "_law_n", "_law_w"] := by
      dsimp only [L2.KOf]
      refine' L2.def_mk KX G ?a ?l ?c ?k (fun _ _ _ _ _ _ us hl => L2.len3 (fun _ _ _ => rfl) us hl)
      (case a => k_is); (case l => k_is); (case c => k_is); (case k => k_is)
    have d_law : L2.DefN (L2.KOf KX) mg "law" K95.s_law ["_law_script"] := by
      dsimp only [L2.KOf]
      refine' L2.def_mk KX G ?a ?l ?c ?k (fun _ _ _ _ _ _ us hl => L2.len1 (fun _ => rfl) us hl)
      (case a => k_is); (case l => k_is); (case c => k_is); (case k => k_is)
    have B : L2.BI mg := by
      refine' L2.bi_mk KX G ?z_len ?z_range ?z_isinstance ?z_int ?z_bool ?z_list ?z_tuple ?z_str ?z_sum ?z_all ?z_max ?z_min ?z_sorted ?z_set ?z_zip ?z_enumerate ?z_reversed ?z_dict
      (case z_len => k_is); (case z_range => k_is); (case z_isinstance => k_is); (case z_int => k_is); (case z_bool => k_is); (case z_list => k_is); (case z_tuple => k_is); (case z_str => k_is); (case z_sum => k_is); (case z_all => k_is); (case z_max => k_is); (case z_min => k_is); (case z_sorted => k_is); (case z_set => k_is); (case z_zip => k_is); (case z_enumerate => k_is); (case z_reversed => k_is); (case z_dict => k_is)
    have c_MOST_GIVENS : ∃ u, mg "MOST_GIVENS" = some u ∧ L2.RelV (.int 12) u := by
      refine' ⟨_, PySem.W.mg_of KX G ?a, ?b⟩
      (case a => k_is)
      (case b => exact ⟨_, rfl⟩)
    have c_MOST_ALL_SUMS : ∃ u, mg "MOST_ALL_SUMS" = some u ∧ L2.RelV (.int 4) u := by
      refine' ⟨_, PySem.W.mg_of KX G ?a, ?b⟩
      (case a => k_is)
      (case b => exact ⟨_, rfl⟩)
    have xf : K95.XF (L2.KOf KX) mg := by
      dsimp only [L2.KOf]
      refine' K95.XF.mk KX G ?f0 ?f1 ?f2 ?f3 ?f4 ?f5 ?f6 ?f7 ?f8 ?f9 ?f10 ?f11 ?f12 ?f13 ?f14 ?f15 ?f16_0 ?f16_1 ?f16_2 ?f16_3 ?f16_4 ?f16_5 ?f16_6 ?f16_7 ?f17 ?f18 ?f19 ?f20 ?f21 ?f22 ?f23 ?f24 ?f25 ?f26 ?f27 ?f28
      (case f0 => k_is); (case f1 => k_is); (case f2 => k_is); (case f3 => k_is); (case f4 => k_is); (case f5 => k_is); (case f6 => k_is); (case f7 => k_is); (case f8 => k_is); (case f9 => k_is); (case f10 => k_is); (case f11 => k_is); (case f12 => k_is); (case f13 => k_exc); (case f14 => k_exc); (case f15 => k_is); (case f16_0 => k_is); (case f16_1 => k_is); (case f16_2 => k_is); (case f16_3 => k_is); (case f16_4 => k_is); (case f16_5 => k_is); (case f16_6 => k_is); (case f16_7 => k_is); (case f17 => kit_is); (case f18 => kit_is); (case f19 => kit_is); (case f20 => kit_is); (case f21 => kit_is); (case f22 => kit_is); (case f23 => kit_is); (case f24 => kit_is); (case f25 => kit_is); (case f26 => kit_is); (case f27 => kit_is); (case f28 => kit_is)
    refine L2.law_fin d_law hmg fun base => ?_
    exact K95.fin d_givens_of d_joining d_chained d_running d_running_halves d_all_but d_windows d_neighbours d_all_sums d_refuse_width d_running_sums d_sums_by_halves d_taken_out d_parted_sums d_law_tape d_law_draw d_law_alone d_law_number d_law_asked d_law_told d_law_due d_law c_MOST_GIVENS c_MOST_ALL_SUMS xf B
#print axioms PySem.Challenge.cw_fewjoins_k95_no_such_width_holds

